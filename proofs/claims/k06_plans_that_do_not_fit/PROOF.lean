import PyProof.Rows.All
import Wide.All
import OpenK.AllK
import Wide.FinOn
import HandS.ForMost
import HandS.Walk
import HandS.Codes
import HandS.IsInst
import HandS.Style
import HandS.TupAny
import HandS.FStr
import HandS.CallLocal
import HandS.More
import HandS.Zip
import HandS.TryMany
import HandS.Exc
import HandS.ExcInit
import HandS.ExcIs
import HandS.ExcField
import HandS.HotCalls
import HandS.Lambda
import HandS.ClsMeth
import KE.KExcIs
import HandS.Star
import HandS.WordsExc
import HandS.Defaults
import HandS.EndOwn
import PySem.Challenge.RW_outgrow_k06_plans_that_do_not_fit
set_option Elab.async false
set_option linter.all false
set_option maxRecDepth 100000
set_option maxHeartbeats 4000000
namespace OG
open PySem PySem.Spec PyProof.Rows L2
open C8 (pss_cut pe_gc)

/-! ### heaps -/
theorem same_new {H : Hp} {p : Addr} {o : HO} (h : H p = none) : Same H (upd H p o) := fun b u e => by
  rw [upd_ne (ne_of_none e h)]
  exact e
/-- only the object at d may differ -/
def But (d : Addr) (H H' : Hp) : Prop := ∀ b, b ≠ d → H' b = H b
theorem But.refl (d : Addr) (H : Hp) : But d H H := fun _ _ => rfl
theorem But.trans {d : Addr} {H H1 H2 : Hp} (a : But d H H1) (b : But d H1 H2) : But d H H2 := fun x h => (b x h).trans (a x h)
theorem but_upd {d : Addr} {H : Hp} {o : HO} : But d H (upd H d o) := fun _ h => upd_ne h
/-- all that was tracked stands as it was, but for what M tells -/
def Sx (M : Addr → Prop) (H H' : Hp) : Prop := ∀ b u, ¬ M b → H b = some u → H' b = some u
theorem Sx.refl (M : Addr → Prop) (H : Hp) : Sx M H H := fun _ _ _ h => h
theorem Sx.trans {M : Addr → Prop} {H H1 H2 : Hp} (a : Sx M H H1) (b : Sx M H1 H2) : Sx M H H2 := fun c u n h => b c u n (a c u n h)
theorem Sx.of_same {M : Addr → Prop} {H H' : Hp} (a : Same H H') : Sx M H H' := fun b u _ h => a b u h
theorem Sx.of_but {M : Addr → Prop} {d : Addr} {H H' : Hp} (a : But d H H') (m : M d) : Sx M H H' := fun b u n h => by
  rw [a b (fun e => n (e ▸ m))]
  exact h
theorem Sx.mono {M N : Addr → Prop} {H H' : Hp} (a : Sx M H H') (h : ∀ b, M b → N b) : Sx N H H' := fun b u n e => a b u (fun m => n (h b m)) e
theorem Sx.upd_in {M : Addr → Prop} {H H' : Hp} {p : Addr} {o : HO} (a : Sx M H H') (m : M p) : Sx M H (upd H' p o) := fun b u n e => by
  have z : b ≠ p := fun z => n (by rw [z]; exact m)
  rw [upd_ne z]
  exact a b u n e
/-- what was not tracked ahead may be written -/
theorem Sx.upd_new {M : Addr → Prop} {H H' : Hp} {p : Addr} {o : HO} (a : Sx M H H') (h : H p = none) : Sx M H (upd H' p o) := fun b u n e => by
  rw [upd_ne (ne_of_none e h)]
  exact a b u n e
theorem Same.upd_new {H H' : Hp} {p : Addr} {o : HO} (a : Same H H') (h : H p = none) : Same H (upd H' p o) := fun b u e => by
  rw [upd_ne (ne_of_none e h)]
  exact a b u e
theorem but_none {d : Addr} {H H' : Hp} (a : But d H H') {p : Addr} (h : H' p = none) (hd : ∃ u, H' d = some u) : H p = none := by
  by_cases e : p = d
  · subst e
    obtain ⟨u, q⟩ := hd
    rw [q] at h
    cases h
  · rw [← a p e]
    exact h
theorem sz {n : Nat} (h : n ≤ 100000) : n ≤ sizeLine := Nat.le_trans h (by decide)
theorem szl {n : Nat} (h : n < 100000) : n < sizeLine := Nat.lt_of_lt_of_le h (by decide)

/-! ### texts -/
abbrev S (l : List Nat) : Str := ⟨l.toArray⟩
abbrev tl (x : Str) : List Nat := x.cps.toList
theorem S_tl (x : Str) : S (tl x) = x := by cases x; rfl
theorem len_tl (x : Str) : x.length = (tl x).length := by simp [Str.length, tl]
theorem len_S (l : List Nat) : (S l).length = l.length := by simp [Str.length, S]
theorem tl_S (l : List Nat) : tl (S l) = l := rfl

/-! ### the drawing -/
/-- the drawing's own list at d: the script's copy at L, a place, a rest, a seed -/
def Dr (H : Hp) (d L : Addr) : Prop := ∃ (ns : List Int) (i r s : Int), H d = some (.lst [.ref L, .int i, .int r, .int s]) ∧ H L = some (.lst (ns.map V.int)) ∧ 0 ≤ i ∧ 0 ≤ r ∧ 0 ≤ s ∧ s < 2147483647
theorem Dr.ne {H : Hp} {d L : Addr} (h : Dr H d L) : L ≠ d := by
  obtain ⟨ns, i, r, s, hd, hL, _⟩ := h
  refine ne_of hL hd fun z => ?_
  have z2 := HO.lst.inj z
  cases ns with
  | nil => cases z2
  | cons n r =>
    have z3 := (List.cons.inj z2).1
    cases z3
theorem Dr.some {H : Hp} {d L : Addr} (h : Dr H d L) : ∃ u, H d = some u := by
  obtain ⟨ns, i, r, s, hd, _⟩ := h
  exact ⟨_, hd⟩
theorem Dr.someL {H : Hp} {d L : Addr} (h : Dr H d L) : ∃ u, H L = Option.some u := by
  obtain ⟨ns, i, r, s, hd, hL, _⟩ := h
  exact ⟨_, hL⟩
theorem Dr.same {H H' : Hp} {d L : Addr} (h : Dr H d L) (a : Same H H') : Dr H' d L := by
  obtain ⟨ns, i, r, s, hd, hL, q⟩ := h
  exact ⟨ns, i, r, s, a _ _ hd, a _ _ hL, q⟩
theorem Dr.at {H H' : Hp} {d L : Addr} (h : Dr H d L) (a : H' d = H d) (b : H' L = H L) : Dr H' d L := by
  obtain ⟨ns, i, r, s, hd, hL, q⟩ := h
  exact ⟨ns, i, r, s, a.trans hd, b.trans hL, q⟩
theorem Dr.upd {H : Hp} {d L p : Addr} {o : HO} (h : Dr H d L) (n1 : p ≠ d) (n2 : p ≠ L) : Dr (upd H p o) d L := h.at (upd_ne n1.symm) (upd_ne n2.symm)
theorem Dr.new {H : Hp} {d L p : Addr} {o : HO} (h : Dr H d L) (n : H p = none) : Dr (L2.upd H p o) d L := h.same (same_new n)
theorem Dr.neNew {H : Hp} {d L p : Addr} (h : Dr H d L) (n : H p = none) : p ≠ d ∧ p ≠ L := by
  obtain ⟨u, q⟩ := h.some
  obtain ⟨u2, q2⟩ := h.someL
  exact ⟨(ne_of_none q n).symm, (ne_of_none q2 n).symm⟩
theorem dr_set {H : Hp} {d L : Addr} {ns : List Int} {i r s : Int} (hL : H L = some (.lst (ns.map V.int))) (ne : L ≠ d) (h1 : 0 ≤ i) (h2 : 0 ≤ r) (h3 : 0 ≤ s) (h4 : s < 2147483647) :
    Dr (upd H d (.lst [.ref L, .int i, .int r, .int s])) d L := ⟨ns, i, r, s, upd_same, by rw [upd_ne ne]; exact hL, h1, h2, h3, h4⟩
/-- _law_take(draw, sides) -/
def spTake : Sp := fun vs H Q _ => ∃ (d L : Addr) (k : Int), vs = [.ref d, .int k] ∧ Dr H d L ∧ 1 ≤ k ∧ k < 1073741824 ∧
  ∀ (g : Int) (H' : Hp), 0 ≤ g → g < k → Dr H' d L → But d H H' → Q (.int g) H'
/-- _law_begin(script) -/
def spBegin (K : PySem.W.Frag) : Sp := fun vs H Q _ => ∃ (a : Addr) (ns : List Int), vs = [.ref a] ∧ SqL K H a (ns.map V.int) ∧
  ∀ (d L : Addr) (H' : Hp), Same H H' → H d = none → H L = none → Dr H' d L → Q (.ref d) H'
/-- _law_pick(draw, row), row a text | a list of texts -/
def spPick (K : PySem.W.Frag) : Sp := fun vs H Q _ => ∃ (d L : Addr) (x : V) (n : Nat), vs = [.ref d, x] ∧ Dr H d L ∧ 0 < n ∧ n < 100000 ∧
  ((∃ z : Str, x = .str z ∧ z.length = n ∧ ∀ (c : Nat) (H' : Hp), c ∈ tl z → Dr H' d L → But d H H' → Q (.str ⟨#[c]⟩) H') ∨
   (∃ (a : Addr) (xs : List V), x = .ref a ∧ a ≠ d ∧ SqL K H a xs ∧ xs.length = n ∧ ∀ (y : V) (H' : Hp), y ∈ xs → Dr H' d L → But d H H' → Q y H'))
/-- what a SqL tells stays where its place is not written -/
theorem SqL.but {K : PySem.W.Frag} {H H' : Hp} {d a : Addr} {xs : List V} (h : SqL K H a xs) (b : But d H H') (n : a ≠ d) : SqL K H' a xs := by
  rcases h with (h | ⟨o, h⟩) | h
  · exact .inl (.inl (by rw [b a n]; exact h))
  · exact .inl (.inr ⟨o, by rw [b a n]; exact h⟩)
  · exact .inr h
theorem SqL.sx {K : PySem.W.Frag} {M : Addr → Prop} {H H' : Hp} {a : Addr} {xs : List V} (h : SqL K H a xs) (b : Sx M H H') (n : ¬ M a) : SqL K H' a xs := by
  rcases h with (h | ⟨o, h⟩) | h
  · exact .inl (.inl (b _ _ n h))
  · exact .inl (.inr ⟨o, b _ _ n h⟩)
  · exact .inr h

theorem mod_lt {a k : Int} (h : 1 ≤ k) : 0 ≤ a % k ∧ a % k < k := ⟨Int.emod_nonneg _ (by omega), Int.emod_lt_of_pos _ (by omega)⟩
theorem atI_lt {α : Type} {xs : List α} {g : Int} (h0 : 0 ≤ g) (h1 : g < (xs.length : Int)) : ∃ v, atI xs g = some v ∧ v ∈ xs := by
  have hk : g.toNat < xs.length := by omega
  have e : g = ((g.toNat : Nat) : Int) := by omega
  refine ⟨xs[g.toNat], ?_, List.getElem_mem hk⟩
  have q : atI xs ((g.toNat : Nat) : Int) = some xs[g.toNat] := atI_nat (List.getElem?_eq_getElem hk)
  rw [← e] at q
  exact q
theorem cut_len (xs : List V) (lo hi : Option Int) : (cutV xs lo hi).length ≤ xs.length := cutV_length xs lo hi
theorem cut_map (ns : List Int) (lo hi : Option Int) : ∃ ms : List Int, cutV (ns.map V.int) lo hi = ms.map V.int := by
  refine ⟨(ns.drop (HT.sIx ns.length 0 lo)).take (HT.sIx ns.length ns.length hi - HT.sIx ns.length 0 lo), ?_⟩
  unfold cutV
  rw [List.length_map, List.map_take, List.map_drop]
/-! ### a comprehension over a text's signs, its element of a plain value -/
theorem lc_str_val {z : Str} {g : TG} {te : TE} {vs : List Nat} {σ : L2.St} {H1 : Hp} {D : Addr} {Qd : Hp → Prop} (f : Nat → V) (i0 : Nat) (hg : g = gName i0) (hw : ∀ v, wipe ((wipe σ vs).set i0 v) vs = wipe σ vs) (hz : z.length < 100000) (hD : H1 D = none)
    (he : ∀ c ∈ tl z, ∀ (H2 : Hp) (Q : VK), Same H1 H2 → Q (f c) H2 → te ((wipe σ vs).set i0 (some (.str ⟨#[c]⟩))) H2 Q)
    (hd : ∀ H', Same H1 H' → H' D = some (.lst ((tl z).map f)) → Qd H') :
    ∃ W : Nat → Nat → Hp → Prop, (∃ m, W 0 m (upd H1 D (.lst []))) ∧ ∀ i m H, W i m H →
      ((Its z).stop i H ∧ Qd H) ∨ ((Its z).go i H ∧ ∃ Nx : Hp → Prop, (∀ H', Nx H' → ∃ m', m' < m ∧ W (i + 1) m' H') ∧ ∀ x H', (Its z).yld i H x H' → g x (wipe σ vs) H' fun σ2 H2 => wipe σ2 vs = wipe σ vs ∧ tYes σ2 H2 fun b H3 =>
        if b = true then te σ2 H3 fun y H4 => ∃ acc, H4 D = some (.lst acc) ∧ acc.length < sizeLine ∧ Nx (upd H4 D (.lst (acc ++ [y]))) else Nx H3) := by
  subst hg
  have el : z.cps.size = (tl z).length := by simp [tl]
  refine lc_it walk_str (fun i H' => Same H1 H' ∧ H' D = some (.lst (((tl z).take i).map f))) ⟨same_new hD, by rw [upd_same]; rfl⟩ (fun _ _ _ _ => trivial) (fun i x H H' hi hP hY => ?_) (fun H' hP => ?_)
  · obtain ⟨rfl, c, hc, rfl⟩ := hY
    obtain ⟨sm, hl⟩ := hP
    have hc2 : (tl z)[i]? = some c := by
      have q : z.cps.toList[i]? = z.cps[i]? := by simp
      exact q.trans hc
    refine ⟨hw _, ?_⟩
    dsimp only [tYes]
    rw [if_pos rfl]
    refine he c (List.mem_of_getElem? hc2) _ _ sm ?_
    refine ⟨_, hl, ?_, ?_, ?_⟩
    · rw [List.length_map, List.length_take]
      have := len_tl z
      exact szl (by omega)
    · exact Same.upd_new sm hD
    · rw [upd_same, List.take_add_one, hc2, List.map_append]
      rfl
  · obtain ⟨sm, hl⟩ := hP
    refine hd H' sm ?_
    rw [el, List.take_length] at hl
    exact hl
theorem yes_go {σ : L2.St} {H : Hp} {A B : Hp → Prop} (h : A H) : tYes σ H (fun b H3 => if b = true then A H3 else B H3) := h
theorem len_app (a b : Str) : (a ++ b).length = a.length + b.length := PySem.Str.length_append a b
theorem join1_len : ∀ cs : List Nat, (TL.joinL [] (cs.map fun c => [c])) = cs
  | [] => rfl
  | [c] => rfl
  | c :: e :: r => by
    have ih := join1_len (e :: r)
    show [c] ++ ([] ++ TL.joinL [] ((e :: r).map fun c => [c])) = c :: e :: r
    rw [ih]
    rfl
/-- ''.join of signs -/
theorem join_signs (cs : List Nat) : Txt.join "" (cs.map fun c => S [c]) = S cs := by
  have e := SX.join_S [] (cs.map fun c => [c])
  rw [join1_len, List.map_map] at e
  exact e
theorem sum_ones : ∀ cs : List Nat, ((cs.map fun c => S [c]).map (·.length)).sum = cs.length
  | [] => rfl
  | c :: r => by
    rw [List.map_cons, List.map_cons, List.sum_cons, sum_ones r, len_S, List.length_cons, List.length_cons]
    simp
    omega
theorem cutS_len (z : Str) (lo hi : Option Int) : (cutS z lo hi).length ≤ z.length := by
  unfold cutS
  rw [len_S, List.length_take, List.length_drop]
  have := len_tl z
  unfold tl at this
  omega
/-! ### rules with the written part by its name, for a comprehension's block -/
section
variable {X : Cx} {K : PySem.W.Frag}
theorem ix_listK (h : X.K = K) : IxR X (rIxL K) := h ▸ ix_list
theorem ix_tupK (h : X.K = K) : IxR X (rIxT K) := h ▸ ix_tup
theorem ix_seqK (h : X.K = K) : IxR X (rIx K) := h ▸ ix_seq
theorem op_in_seqK (h : X.K = K) : OpR X (compareOp .In) (rIn K false) := h ▸ op_in_seq
theorem op_notIn_seqK (h : X.K = K) : OpR X (compareOp .NotIn) (rIn K true) := h ▸ op_notIn_seq
theorem op_eqDK (h : X.K = K) (hu : X.A.units + 64 < cLine) : OpR X (compareOp .Eq) (rEqD K) := h ▸ op_eqD hu
theorem op_neDK (h : X.K = K) (hu : X.A.units + 64 < cLine) : OpR X (compareOp .NotEq) (rNeD K) := h ▸ op_neD hu
theorem sl_listK (h : X.K = K) : SlR X (rSlL K) := h ▸ sl_list
theorem call_len_seqK (h : X.K = K) : CallR X (.builtin "len") (fun xs H Q => ∃ p ys, xs = [.ref p] ∧ (SqL K H p ys ∨ SqT K H p ys) ∧ Q (.int ys.length) H) := by
  subst h
  exact call_len_seq
end
end OG

set_option Elab.async false
set_option linter.all false
set_option maxRecDepth 100000
set_option maxHeartbeats 4000000
namespace OG
open PySem PySem.Spec PyProof.Rows L2
/-! ### text * number -/
def rRepS : R2 := fun x y H Q => ∃ (z : Str) (k : Int), x = .str z ∧ y = .int k ∧ -(2 ^ 62) ≤ k ∧ k < 2 ^ 62 ∧ z.length * k.toNat ≤ 100000 ∧ Q (.str (S (List.replicate k.toNat (tl z)).flatten)) H
theorem fold_rep (a : Array Nat) : ∀ (k : Nat) (acc : Array Nat), (List.foldl (fun x y => x ++ y) acc (List.replicate k a)) = acc ++ (List.replicate k a.toList).flatten.toArray
  | 0, acc => by simp
  | k + 1, acc => by
    rw [List.replicate_succ, List.foldl_cons, fold_rep a k (acc ++ a), List.replicate_succ, List.flatten_cons, Array.append_assoc]
    congr 1
    apply Array.ext'
    simp
theorem op_repS {X : Cx} : OpR X (binaryOp .Mult) rRepS := by
  intro pins s σ H x y v u Q I rx ry h
  obtain ⟨z, k, rfl, rfl, h1, h2, hz, q⟩ := h
  obtain ⟨t, rfl⟩ := rx
  obtain ⟨t', rfl⟩ := ry
  refine PySem.P.mul_str ?_ (fun a b => ?_) (fun a b => ?_) ?_
  · rw [decide_eq_false (by omega), decide_eq_false (by omega)]; rfl
  · have hk : 0 < k := by omega
    have e : ((z.length * k.toNat : Nat) : Int) ≤ 100000 := Int.ofNat_le.mpr hz
    have e2 : ((z.length * k.toNat : Nat) : Int) = (z.length : Int) * k := by
      rw [Int.natCast_mul, Int.toNat_of_nonneg (by omega)]
    intro hc
    have h3 : (z.length : Int) ≤ (2 ^ 63 - 1) / k := by
      rw [Int.le_ediv_iff_mul_le hk]
      rw [← e2]
      omega
    omega
  · unfold PySem.Builtin.Str.tooLong
    exact decide_eq_false (Nat.not_lt.mpr (sz hz))
  · by_cases c1 : k < 1
    · rw [if_pos c1]
      have e : k.toNat = 0 := by omega
      rw [e] at q
      exact ⟨by decide, .str Str.empty, H, I.tok _, ⟨_, rfl⟩, q⟩
    · rw [if_neg c1]
      by_cases c2 : (k == 1 || z.length == 0) = true
      · rw [if_pos c2]
        have e : S (List.replicate k.toNat (tl z)).flatten = z := by
          rcases Bool.or_eq_true_iff.mp c2 with c3 | c3
          · have e1 : k = 1 := by simpa using c3
            rw [e1]
            show S ((tl z) ++ []) = z
            rw [List.append_nil, S_tl]
          · have e1 : z.length = 0 := by simpa using c3
            have e2 : tl z = [] := List.eq_nil_of_length_eq_zero (by rw [← len_tl]; exact e1)
            have e3 : ∀ n : Nat, (List.replicate n ([] : List Nat)).flatten = [] := fun n => by
              induction n with
              | zero => rfl
              | succ n ih => rw [List.replicate_succ, List.flatten_cons, ih]; rfl
            rw [e2, e3, ← e2, S_tl]
        rw [e] at q
        exact ⟨.str z, H, I, ⟨_, rfl⟩, q⟩
      · rw [if_neg c2]
        have e : (⟨(List.replicate k.toNat z.cps).foldl (· ++ ·) #[]⟩ : Str) = S (List.replicate k.toNat (tl z)).flatten := by
          have := fold_rep z.cps k.toNat #[]
          rw [this]
          simp [S, tl]
        rw [e]
        refine ⟨?_, .str _, H, I.tok _, ⟨_, rfl⟩, q⟩
        have : (S (List.replicate k.toNat (tl z)).flatten).length ≤ 100000 := by
          rw [len_S, List.length_flatten]
          rw [List.map_replicate, List.sum_replicate_nat, Nat.mul_comm]
          rw [← len_tl]
          exact hz
        first
          | exact sz this
          | (unfold PySem.Builtin.Str.tooLong; exact decide_eq_false (Nat.not_lt.mpr (sz this)))
          | (show _ = _; unfold PySem.Builtin.Str.tooLong; exact decide_eq_false (Nat.not_lt.mpr (sz this)))
end OG

set_option Elab.async false
set_option linter.all false
set_option maxRecDepth 100000
set_option maxHeartbeats 4000000
namespace OG
open PySem PySem.Spec PyProof.Rows L2

/-! ### data of tuples -/
inductive D where
  | non
  | bl (b : Bool)
  | int (n : Int)
  | str (z : Str)
  | tup (xs : List D)
mutual
/-- v stands for the datum -/
def Rp (H : Hp) : V → D → Prop
  | v, .non => v = .non
  | v, .bl b => v = .bl b
  | v, .int n => v = .int n
  | v, .str z => v = .str z
  | v, .tup xs => ∃ (a : Addr) (vs : List V), v = .ref a ∧ H a = some (.tup vs) ∧ RpL H vs xs
def RpL (H : Hp) : List V → List D → Prop
  | vs, [] => vs = []
  | vs, x :: xs => ∃ (v : V) (r : List V), vs = v :: r ∧ Rp H v x ∧ RpL H r xs
end
/-- tuples stay -/
def Imm (H H' : Hp) : Prop := ∀ b xs, H b = some (.tup xs) → H' b = some (.tup xs)
theorem Imm.refl (H : Hp) : Imm H H := fun _ _ h => h
theorem Imm.trans {H H1 H2 : Hp} (a : Imm H H1) (b : Imm H1 H2) : Imm H H2 := fun c xs h => b c xs (a c xs h)
theorem Imm.same {H H' : Hp} (a : Same H H') : Imm H H' := fun b xs h => a b _ h
theorem Imm.upd {H H' : Hp} {p : Addr} {o : HO} (a : Imm H H') (n : ∀ xs, H p ≠ some (.tup xs)) : Imm H (upd H' p o) := fun b xs h => by
  have e : b ≠ p := fun z => n xs (by rw [← z]; exact h)
  rw [upd_ne e]
  exact a b xs h
theorem Imm.but {H H' : Hp} {d : Addr} {l : List V} (a : But d H H') (h : H d = some (.lst l)) : Imm H H' := fun b xs e => by
  have n : b ≠ d := fun z => by
    rw [z, h] at e
    cases e
  rw [a b n]
  exact e
theorem Dr.imm {H H' : Hp} {d L : Addr} (h : Dr H d L) (a : But d H H') : Imm H H' := by
  obtain ⟨ns, i, r, s, hd, _⟩ := h
  exact Imm.but a hd
mutual
theorem Rp.imm {H H' : Hp} (m : Imm H H') : ∀ (x : D) (v : V), Rp H v x → Rp H' v x
  | .non, _, h => h
  | .bl _, _, h => h
  | .int _, _, h => h
  | .str _, _, h => h
  | .tup xs, _, h => by
    obtain ⟨a, vs, e, q, r⟩ := h
    exact ⟨a, vs, e, m _ _ q, RpL.imm m xs vs r⟩
theorem RpL.imm {H H' : Hp} (m : Imm H H') : ∀ (xs : List D) (vs : List V), RpL H vs xs → RpL H' vs xs
  | [], _, h => h
  | x :: xs, _, h => by
    obtain ⟨v, r, e, q, t⟩ := h
    exact ⟨v, r, e, Rp.imm m x v q, RpL.imm m xs r t⟩
end
theorem Rp.to {H H' : Hp} {x : D} {v : V} (h : Rp H v x) (m : Imm H H') : Rp H' v x := Rp.imm m x v h
theorem RpL.to {H H' : Hp} {xs : List D} {vs : List V} (h : RpL H vs xs) (m : Imm H H') : RpL H' vs xs := RpL.imm m xs vs h
theorem RpL.length {H : Hp} : ∀ {xs : List D} {vs : List V}, RpL H vs xs → vs.length = xs.length
  | [], _, h => by rw [show _ = [] from h]; rfl
  | x :: xs, _, h => by
    obtain ⟨v, r, e, _, t⟩ := h
    rw [e, List.length_cons, List.length_cons, RpL.length t]
theorem RpL.get {H : Hp} : ∀ {xs : List D} {vs : List V} {i : Nat} {v : V}, RpL H vs xs → vs[i]? = some v → ∃ x, xs[i]? = some x ∧ Rp H v x
  | [], _, i, v, h, g => by
    rw [show _ = [] from h] at g
    simp at g
  | x :: xs, _, 0, v, h, g => by
    obtain ⟨u, r, e, q, t⟩ := h
    rw [e] at g
    have : u = v := Option.some.inj g
    exact ⟨x, rfl, this ▸ q⟩
  | x :: xs, _, i + 1, v, h, g => by
    obtain ⟨u, r, e, q, t⟩ := h
    rw [e] at g
    exact RpL.get (xs := xs) (i := i) t g
theorem RpL.append {H : Hp} : ∀ {xs ys : List D} {vs ws : List V}, RpL H vs xs → RpL H ws ys → RpL H (vs ++ ws) (xs ++ ys)
  | [], _, _, _, h, k => by rw [show _ = [] from h]; exact k
  | x :: xs, ys, _, ws, h, k => by
    obtain ⟨u, r, e, q, t⟩ := h
    rw [e]
    exact ⟨u, r ++ ws, rfl, q, RpL.append t k⟩
theorem RpL.take {H : Hp} : ∀ {xs : List D} {vs : List V} (n : Nat), RpL H vs xs → RpL H (vs.take n) (xs.take n)
  | _, _, 0, _ => rfl
  | [], _, n + 1, h => by rw [show _ = [] from h]; rfl
  | x :: xs, _, n + 1, h => by
    obtain ⟨u, r, e, q, t⟩ := h
    rw [e]
    exact ⟨u, r.take n, rfl, q, RpL.take n t⟩
theorem RpL.drop {H : Hp} : ∀ {xs : List D} {vs : List V} (n : Nat), RpL H vs xs → RpL H (vs.drop n) (xs.drop n)
  | _, _, 0, h => h
  | [], _, n + 1, h => by rw [show _ = [] from h]; rfl
  | x :: xs, _, n + 1, h => by
    obtain ⟨u, r, e, q, t⟩ := h
    rw [e]
    exact RpL.drop n t
theorem rpl_nil {H : Hp} : RpL H [] [] := rfl
theorem rpl_cons {H : Hp} {v : V} {vs : List V} {x : D} {xs : List D} (h : Rp H v x) (t : RpL H vs xs) : RpL H (v :: vs) (x :: xs) := ⟨v, vs, rfl, h, t⟩
theorem rp_tup {H : Hp} {a : Addr} {vs : List V} {xs : List D} (h : H a = some (.tup vs)) (t : RpL H vs xs) : Rp H (.ref a) (.tup xs) := ⟨a, vs, rfl, h, t⟩
theorem rp_t2 {H : Hp} {v : V} {x y : D} (h : Rp H v (.tup [x, y])) : ∃ a v1 v2, v = .ref a ∧ H a = some (.tup [v1, v2]) ∧ Rp H v1 x ∧ Rp H v2 y := by
  obtain ⟨a, vs, e, q, v1, r1, rfl, h1, v2, r2, rfl, h2, rfl⟩ := h
  exact ⟨a, v1, v2, e, q, h1, h2⟩
theorem rp_t3 {H : Hp} {v : V} {x y z : D} (h : Rp H v (.tup [x, y, z])) : ∃ a v1 v2 v3, v = .ref a ∧ H a = some (.tup [v1, v2, v3]) ∧ Rp H v1 x ∧ Rp H v2 y ∧ Rp H v3 z := by
  obtain ⟨a, vs, e, q, v1, r1, rfl, h1, v2, r2, rfl, h2, v3, r3, rfl, h3, rfl⟩ := h
  exact ⟨a, v1, v2, v3, e, q, h1, h2, h3⟩
theorem rp_t5 {H : Hp} {v : V} {x y z u w : D} (h : Rp H v (.tup [x, y, z, u, w])) : ∃ a v1 v2 v3 v4 v5, v = .ref a ∧ H a = some (.tup [v1, v2, v3, v4, v5]) ∧ Rp H v1 x ∧ Rp H v2 y ∧ Rp H v3 z ∧ Rp H v4 u ∧ Rp H v5 w := by
  obtain ⟨a, vs, e, q, v1, r1, rfl, h1, v2, r2, rfl, h2, v3, r3, rfl, h3, v4, r4, rfl, h4, v5, r5, rfl, h5, rfl⟩ := h
  exact ⟨a, v1, v2, v3, v4, v5, e, q, h1, h2, h3, h4, h5⟩

/-! ### names -/
def kept : List Str := ["step", "for", "from", "to", "if", "else", "double", "call", "with", "again", "on", "halves", "thirds", "less", "n"]
theorem kept_split : (Txt.split "step for from to if else double call with again on halves thirds less n" " ") = kept := by decide +kernel
def spKept : Sp := fun vs H Q _ => vs = [] ∧ ∀ (p : Addr) (H' : Hp), H p = none → H' = upd H p (.lst (kept.map V.str)) → Q (.ref p) H'
def abc : List Nat := tl "abcdefghijklmnopqrstuvwxyz"
/-- whether a text is a name -/
def nameB (z : Str) : Bool := (!inV (.str z) (kept.map V.str) && (decide ((1 : Int) ≤ (z.length : Int)) && decide ((z.length : Int) ≤ 8))) && ((tl z).map (fun c => decide (c ∈ tl "abcdefghijklmnopqrstuvwxyz"))).all id
def spName : Sp := fun vs H Q _ => ∃ z : Str, vs = [.str z] ∧ z.length < 100000 ∧ ∀ H', Same H H' → Q (.bl (nameB z)) H'
theorem inV_str (z : Str) : ∀ ys : List Str, inV (.str z) (ys.map V.str) = decide (z ∈ ys)
  | [] => rfl
  | y :: r => by
    have ih := inV_str z r
    unfold inV at ih ⊢
    rw [List.map_cons, List.any_cons, ih]
    show ((y == z) || decide (z ∈ r)) = decide (z ∈ y :: r)
    by_cases h : y = z
    · subst h
      simp
    · have h2 : (y == z) = false := by simpa using h
      have h3 : ¬ z = y := fun e => h e.symm
      rw [h2, Bool.false_or]
      by_cases h4 : z ∈ r
      · rw [decide_eq_true h4, decide_eq_true (List.mem_cons_of_mem _ h4)]
      · rw [decide_eq_false h4, decide_eq_false (fun h5 => (List.mem_cons.mp h5).elim h3 h4)]
theorem name_of {cs : List Nat} (h0 : 1 ≤ cs.length) (h8 : cs.length ≤ 8) (hk : S cs ∉ kept) (hc : ∀ c ∈ cs, c ∈ abc) : nameB (S cs) = true := by
  unfold nameB
  rw [inV_str, decide_eq_false hk, len_S]
  rw [decide_eq_true (by omega), decide_eq_true (by omega)]
  have : ((tl (S cs)).map (fun c => decide (c ∈ tl "abcdefghijklmnopqrstuvwxyz"))).all id = true := by
    rw [List.all_eq_true]
    intro b hb
    obtain ⟨c, hc2, rfl⟩ := List.mem_map.mp hb
    exact decide_eq_true (hc c hc2)
  rw [this]
  rfl
theorem name_len {z : Str} (h : nameB z = true) : 1 ≤ z.length ∧ z.length ≤ 8 := by
  unfold nameB at h
  simp only [Bool.and_eq_true, decide_eq_true_eq] at h
  omega
theorem name_abc {z : Str} (h : nameB z = true) : ∀ c ∈ tl z, c ∈ abc := by
  unfold nameB at h
  have h2 := (Bool.and_eq_true_iff.mp h).2
  rw [List.all_eq_true] at h2
  intro c hc
  exact of_decide_eq_true (h2 _ (List.mem_map.mpr ⟨c, hc, rfl⟩))
theorem name_kept {z : Str} (h : nameB z = true) : z ∉ kept := by
  unfold nameB at h
  rw [inV_str] at h
  intro hk
  rw [decide_eq_true hk] at h
  cases h
theorem name_two : ∀ c ∈ abc, nameB (S [c, c]) = true := by
  have h : abc.all (fun c => nameB (S [c, c])) = true := by decide +kernel
  exact fun c hc => List.all_eq_true.mp h c hc

/-! ### plans -/
inductive Thing where
  | step (k : Int)
  | loop (x : Str) (a b : Str × Int) (body : List Thing)
  | test (a b : Str × Int) (x y : List Thing)
  | twice (body : List Thing)
  | call (x : Str) (e : Str × Int)
  | again (k : Int) (w : Str)
def encE (e : Str × Int) : D := .tup [.str e.1, .int e.2]
mutual
def enc : Thing → D
  | .step k => .tup [.str "step", .int k]
  | .loop x a b body => .tup [.str "for", .str x, encE a, encE b, .tup (encs body)]
  | .test a b x y => .tup [.str "if", encE a, encE b, .tup (encs x), .tup (encs y)]
  | .twice b => .tup [.str "double", .tup (encs b)]
  | .call x e => .tup [.str "call", .str x, encE e]
  | .again k w => .tup [.str "again", .int k, .str w]
def encs : List Thing → List D
  | [] => []
  | t :: r => enc t :: encs r
end
theorem encs_map : ∀ ts : List Thing, encs ts = ts.map enc
  | [] => rfl
  | t :: r => by
    show enc t :: encs r = enc t :: r.map enc
    rw [encs_map r]
theorem encs_append (a b : List Thing) : encs (a ++ b) = encs a ++ encs b := by rw [encs_map, encs_map, encs_map, List.map_append]
theorem encs_length (ts : List Thing) : (encs ts).length = ts.length := by rw [encs_map, List.length_map]
/-- an end that may stand where the names sc may -/
def EndOk (sc : List Str) (e : Str × Int) : Prop := (e.1 = "" ∧ 0 ≤ e.2 ∧ e.2 ≤ 99) ∨ (e.1 ∈ sc ∧ -99 ≤ e.2 ∧ e.2 ≤ 99)
def ScOk (sc : List Str) : Prop := ∀ x ∈ sc, x = "n" ∨ nameB x = true
def AgOk (k : Int) (w : Str) : Prop := 1 ≤ k ∧ k ≤ 9 ∧ (w = "halves" ∨ w = "thirds" ∨ w = "less")
mutual
/-- a thing with at most n brackets within one another, calling only what C tells; again only where A does -/
def TOk (C : Str → Prop) (A : Prop) : List Str → Nat → Thing → Prop
  | _, _, .step k => 0 ≤ k ∧ k ≤ 99
  | sc, n, .loop x a b body => nameB x = true ∧ x ∉ sc ∧ EndOk sc a ∧ EndOk sc b ∧ body ≠ [] ∧ ∃ m, n = m + 1 ∧ TsOk C A (sc ++ [x]) m body
  | sc, n, .test a b x y => EndOk sc a ∧ EndOk sc b ∧ x ≠ [] ∧ ∃ m, n = m + 1 ∧ TsOk C A sc m x ∧ TsOk C A sc m y
  | sc, n, .twice b => b ≠ [] ∧ ∃ m, n = m + 1 ∧ TsOk C A sc m b
  | sc, _, .call x e => nameB x = true ∧ C x ∧ EndOk sc e
  | _, _, .again k w => A ∧ AgOk k w
def TsOk (C : Str → Prop) (A : Prop) : List Str → Nat → List Thing → Prop
  | _, _, [] => True
  | sc, n, t :: r => TOk C A sc n t ∧ TsOk C A sc n r
end
theorem tsok_iff {C : Str → Prop} {A : Prop} {sc : List Str} {n : Nat} : ∀ ts : List Thing, TsOk C A sc n ts ↔ ∀ t ∈ ts, TOk C A sc n t
  | [] => ⟨fun _ _ h => (by cases h), fun _ => trivial⟩
  | t :: r => by
    show (TOk C A sc n t ∧ TsOk C A sc n r) ↔ _
    rw [tsok_iff r]
    constructor
    · rintro ⟨h1, h2⟩ u hu
      rcases List.mem_cons.mp hu with rfl | hu
      · exact h1
      · exact h2 u hu
    · intro h
      exact ⟨h t List.mem_cons_self, fun u hu => h u (List.mem_cons_of_mem _ hu)⟩
mutual
def cntT : Thing → Nat
  | .step _ => 1
  | .loop _ _ _ b => 1 + cntB b
  | .test _ _ x y => 1 + cntB x + cntB y
  | .twice b => 1 + cntB b
  | .call _ _ => 1
  | .again _ _ => 1
def cntB : List Thing → Nat
  | [] => 0
  | t :: r => cntT t + cntB r
end
theorem cntB_append : ∀ a b : List Thing, cntB (a ++ b) = cntB a + cntB b
  | [], b => by show cntB b = 0 + cntB b; omega
  | t :: r, b => by
    show cntT t + cntB (r ++ b) = cntT t + cntB r + cntB b
    rw [cntB_append r b]
    omega

/-! ### a plan's text -/
def numL (i : Int) : List Nat := tl (toString i)
def endL (e : Str × Int) : List Nat :=
  if e.1 = "" then numL e.2 else if e.2 = 0 then tl e.1 else if 0 < e.2 then tl e.1 ++ tl " + " ++ numL e.2 else tl e.1 ++ tl " - " ++ numL (-e.2)
mutual
def thingL : Thing → List Nat
  | .step k => tl "step " ++ numL k
  | .loop x a b body => tl "for " ++ tl x ++ tl " from " ++ endL a ++ tl " to " ++ endL b ++ tl " (" ++ TL.joinL (tl "; ") (thingsL body) ++ tl ")"
  | .test a b x y => tl "if " ++ endL a ++ tl " <= " ++ endL b ++ tl " (" ++ TL.joinL (tl "; ") (thingsL x) ++ tl ")" ++ (match y with
    | [] => []
    | t :: r => tl " else (" ++ TL.joinL (tl "; ") (thingsL (t :: r)) ++ tl ")")
  | .twice b => tl "double (" ++ TL.joinL (tl "; ") (thingsL b) ++ tl ")"
  | .call x e => tl "call " ++ tl x ++ tl " with " ++ endL e
  | .again k w => tl "again " ++ numL k ++ tl " on " ++ tl w
def thingsL : List Thing → List (List Nat)
  | [] => []
  | t :: r => thingL t :: thingsL r
end
def planL (ts : List Thing) : List Nat := TL.joinL (tl "; ") (thingsL ts)
theorem thingsL_map : ∀ ts : List Thing, thingsL ts = ts.map thingL
  | [] => rfl
  | t :: r => by
    show thingL t :: thingsL r = thingL t :: r.map thingL
    rw [thingsL_map r]
theorem str_ext {a b : Str} (h : tl a = tl b) : a = b := by rw [← S_tl a, ← S_tl b, h]
theorem tl_app (a b : Str) : tl (a ++ b) = tl a ++ tl b := TL.tl_append a b
theorem tl_empty : tl Str.empty = [] := rfl
/-! sizes -/
theorem num_small {i : Int} (h0 : -99 ≤ i) (h1 : i ≤ 99) : (numL i).length ≤ 3 ∧ i.natAbs.log2 < 1920 := by
  have e : ∀ n : Nat, n < 199 → (numL ((n : Int) - 99)).length ≤ 3 ∧ ((n : Int) - 99).natAbs.log2 < 1920 := by
    have h : (List.range 199).all (fun n => decide ((numL ((n : Int) - 99)).length ≤ 3) && decide (((n : Int) - 99).natAbs.log2 < 1920)) = true := by decide +kernel
    intro n hn
    have := List.all_eq_true.mp h n (List.mem_range.mpr hn)
    simpa only [Bool.and_eq_true, decide_eq_true_eq] using this
  have q := e (i + 99).toNat (by omega)
  have e2 : (((i + 99).toNat : Nat) : Int) - 99 = i := by omega
  rw [e2] at q
  exact q
theorem end_small {sc : List Str} {e : Str × Int} (hs : ScOk sc) (h : EndOk sc e) : (endL e).length ≤ 14 ∧ e.1.length ≤ 8 ∧ -99 ≤ e.2 ∧ e.2 ≤ 99 := by
  have hl : e.1.length ≤ 8 ∧ -99 ≤ e.2 ∧ e.2 ≤ 99 := by
    rcases h with ⟨h1, h2, h3⟩ | ⟨h1, h2, h3⟩
    · rw [h1]
      exact ⟨by decide +kernel, by omega, h3⟩
    · rcases hs _ h1 with h4 | h4
      · rw [h4]
        exact ⟨by decide +kernel, h2, h3⟩
      · exact ⟨(name_len h4).2, h2, h3⟩
  refine ⟨?_, hl⟩
  have n1 := (num_small hl.2.1 hl.2.2).1
  have n2 := (num_small (i := -e.2) (by omega) (by omega)).1
  have l1 := len_tl e.1
  have p1 : (tl " + ").length = 3 := by decide +kernel
  have p2 : (tl " - ").length = 3 := by decide +kernel
  unfold endL
  split
  · omega
  · split
    · omega
    · split
      · rw [List.length_append, List.length_append]
        omega
      · rw [List.length_append, List.length_append]
        omega
end OG

set_option Elab.async false
set_option linter.all false
set_option maxRecDepth 100000
set_option maxHeartbeats 4000000
namespace OG
open PySem PySem.Spec PyProof.Rows L2
/-! ### sizes of texts -/
theorem joinL_len (s : List Nat) : ∀ ls : List (List Nat), (TL.joinL s ls).length ≤ (ls.map (fun l => l.length + s.length)).sum
  | [] => Nat.le_refl _
  | [p] => by
    show p.length ≤ (p.length + s.length) + 0
    omega
  | p :: q :: r => by
    have ih := joinL_len s (q :: r)
    show (p ++ (s ++ TL.joinL s (q :: r))).length ≤ (p.length + s.length) + ((q :: r).map (fun l => l.length + s.length)).sum
    rw [List.length_append, List.length_append]
    omega
theorem scOk_snoc {sc : List Str} {x : Str} (h : ScOk sc) (n : nameB x = true) : ScOk (sc ++ [x]) := fun y hy => by
  rcases List.mem_append.mp hy with h1 | h1
  · exact h y h1
  · rw [List.mem_singleton.mp h1]
    exact .inr n
mutual
theorem thing_size {C : Str → Prop} {A : Prop} : ∀ (t : Thing) (sc : List Str) (n : Nat), TOk C A sc n t → ScOk sc → (thingL t).length + 2 ≤ 80 * cntT t
  | .step k, sc, n, h, hs => by
    have e := (num_small (i := k) (by have := h.1; omega) h.2).1
    have c : (tl "step ").length = 5 := by decide +kernel
    show (tl "step " ++ numL k).length + 2 ≤ 80 * 1
    rw [List.length_append]
    omega
  | .loop x a b body, sc, n, h, hs => by
    obtain ⟨h1, h2, h3, h4, h5, m, rfl, h6⟩ := h
    have hn := name_len h1
    have e1 := (end_small hs h3).1
    have e2 := (end_small hs h4).1
    have ih := things_size body _ _ h6 (scOk_snoc hs h1)
    have j := joinL_len (tl "; ") (thingsL body)
    have c0 : (tl "; ").length = 2 := by decide +kernel
    have c1 : (tl "for ").length = 4 := by decide +kernel
    have c2 : (tl " from ").length = 6 := by decide +kernel
    have c3 : (tl " to ").length = 4 := by decide +kernel
    have c4 : (tl " (").length = 2 := by decide +kernel
    have c5 : (tl ")").length = 1 := by decide +kernel
    have l := len_tl x
    rw [c0] at j
    show (tl "for " ++ tl x ++ tl " from " ++ endL a ++ tl " to " ++ endL b ++ tl " (" ++ TL.joinL (tl "; ") (thingsL body) ++ tl ")").length + 2 ≤ 80 * (1 + cntB body)
    simp only [List.length_append]
    omega
  | .test a b x y, sc, n, h, hs => by
    obtain ⟨h3, h4, h5, m, rfl, h6, h7⟩ := h
    have e1 := (end_small hs h3).1
    have e2 := (end_small hs h4).1
    have ih := things_size x _ _ h6 hs
    have j := joinL_len (tl "; ") (thingsL x)
    have ih2 := things_size y _ _ h7 hs
    have j2 := joinL_len (tl "; ") (thingsL y)
    have c0 : (tl "; ").length = 2 := by decide +kernel
    have c1 : (tl "if ").length = 3 := by decide +kernel
    have c2 : (tl " <= ").length = 4 := by decide +kernel
    have c4 : (tl " (").length = 2 := by decide +kernel
    have c5 : (tl ")").length = 1 := by decide +kernel
    have c6 : (tl " else (").length = 7 := by decide +kernel
    rw [c0] at j j2
    cases y with
    | nil =>
      show (tl "if " ++ endL a ++ tl " <= " ++ endL b ++ tl " (" ++ TL.joinL (tl "; ") (thingsL x) ++ tl ")" ++ []).length + 2 ≤ 80 * (1 + cntB x + 0)
      simp only [List.length_append, List.length_nil]
      omega
    | cons t r =>
      show (tl "if " ++ endL a ++ tl " <= " ++ endL b ++ tl " (" ++ TL.joinL (tl "; ") (thingsL x) ++ tl ")" ++ (tl " else (" ++ TL.joinL (tl "; ") (thingsL (t :: r)) ++ tl ")")).length + 2 ≤ 80 * (1 + cntB x + cntB (t :: r))
      simp only [List.length_append]
      omega
  | .twice b, sc, n, h, hs => by
    obtain ⟨h5, m, rfl, h6⟩ := h
    have ih := things_size b _ _ h6 hs
    have j := joinL_len (tl "; ") (thingsL b)
    have c0 : (tl "; ").length = 2 := by decide +kernel
    have c1 : (tl "double (").length = 8 := by decide +kernel
    have c5 : (tl ")").length = 1 := by decide +kernel
    rw [c0] at j
    show (tl "double (" ++ TL.joinL (tl "; ") (thingsL b) ++ tl ")").length + 2 ≤ 80 * (1 + cntB b)
    simp only [List.length_append]
    omega
  | .call x e, sc, n, h, hs => by
    have e1 := (end_small hs h.2.2).1
    have hn := name_len h.1
    have c1 : (tl "call ").length = 5 := by decide +kernel
    have c2 : (tl " with ").length = 6 := by decide +kernel
    have l := len_tl x
    show (tl "call " ++ tl x ++ tl " with " ++ endL e).length + 2 ≤ 80 * 1
    simp only [List.length_append]
    omega
  | .again k w, sc, n, h, hs => by
    obtain ⟨_, h1, h2, h3⟩ := h
    have e := (num_small (i := k) (by omega) (by omega)).1
    have c1 : (tl "again ").length = 6 := by decide +kernel
    have c2 : (tl " on ").length = 4 := by decide +kernel
    have c3 : (tl w).length ≤ 6 := by
      rcases h3 with rfl | rfl | rfl
      · decide +kernel
      · decide +kernel
      · decide +kernel
    show (tl "again " ++ numL k ++ tl " on " ++ tl w).length + 2 ≤ 80 * 1
    simp only [List.length_append]
    omega
theorem things_size {C : Str → Prop} {A : Prop} : ∀ (ts : List Thing) (sc : List Str) (n : Nat), TsOk C A sc n ts → ScOk sc → ((thingsL ts).map (fun l => l.length + 2)).sum ≤ 80 * cntB ts
  | [], _, _, _, _ => Nat.le_refl _
  | t :: r, sc, n, h, hs => by
    have h1 := thing_size t sc n h.1 hs
    have h2 := things_size r sc n h.2 hs
    show ((thingL t).length + 2) + ((thingsL r).map (fun l => l.length + 2)).sum ≤ 80 * (cntT t + cntB r)
    omega
end
theorem plan_size {C : Str → Prop} {A : Prop} {ts : List Thing} {sc : List Str} {n : Nat} (h : TsOk C A sc n ts) (hs : ScOk sc) : (planL ts).length ≤ 80 * cntB ts := by
  have j := joinL_len (tl "; ") (thingsL ts)
  have c0 : (tl "; ").length = 2 := by decide +kernel
  rw [c0] at j
  exact Nat.le_trans j (things_size ts sc n h hs)
theorem cnt_pos : ∀ t : Thing, 1 ≤ cntT t
  | .step _ => Nat.le_refl _
  | .loop _ _ _ b => Nat.le_add_right _ _
  | .test _ _ x y => by show 1 ≤ 1 + cntB x + cntB y; omega
  | .twice b => Nat.le_add_right _ _
  | .call _ _ => Nat.le_refl _
  | .again _ _ => Nat.le_refl _
theorem cnt_len : ∀ ts : List Thing, ts.length ≤ cntB ts
  | [] => Nat.le_refl _
  | t :: r => by
    have h1 := cnt_pos t
    have h2 := cnt_len r
    show r.length + 1 ≤ cntT t + cntB r
    omega
theorem cnt_mem {t : Thing} : ∀ {ts : List Thing}, t ∈ ts → cntT t ≤ cntB ts
  | [], h => by cases h
  | u :: r, h => by
    show cntT t ≤ cntT u + cntB r
    rcases List.mem_cons.mp h with rfl | h
    · omega
    · have := cnt_mem h
      omega
/-! ### a comprehension over a tuple, its element a call that leaves all as it was -/
theorem lc_tup_map {K : PySem.W.Frag} {a : Addr} {xs : List V} {g : TG} {te : TE} {vs : List Nat} {σ : L2.St} {H1 : Hp} {D : Addr} {Qd : Hp → Prop} (ys : List V) (i0 : Nat) (hg : g = gName i0) (hw : ∀ v, wipe ((wipe σ vs).set i0 v) vs = wipe σ vs)
    (hlen : ys.length = xs.length) (hz : xs.length < 100000) (hS : H1 a = some (.tup xs)) (hD : H1 D = none)
    (he : ∀ (i : Nat) (x y : V) (H2 : Hp) (Q : VK), xs[i]? = some x → ys[i]? = some y → Same H1 H2 → (∀ H3, Same H2 H3 → Q y H3) → te ((wipe σ vs).set i0 (some x)) H2 Q)
    (hd : ∀ H', Same H1 H' → H' D = some (.lst ys) → Qd H') :
    ∃ W : Nat → Nat → Hp → Prop, (∃ m, W 0 m (upd H1 D (.lst []))) ∧ ∀ i m H, W i m H →
      ((Itt K a).stop i H ∧ Qd H) ∨ ((Itt K a).go i H ∧ ∃ Nx : Hp → Prop, (∀ H', Nx H' → ∃ m', m' < m ∧ W (i + 1) m' H') ∧ ∀ x H', (Itt K a).yld i H x H' → g x (wipe σ vs) H' fun σ2 H2 => wipe σ2 vs = wipe σ vs ∧ tYes σ2 H2 fun b H3 =>
        if b = true then te σ2 H3 fun y H4 => ∃ acc, H4 D = some (.lst acc) ∧ acc.length < sizeLine ∧ Nx (upd H4 D (.lst (acc ++ [y]))) else Nx H3) := by
  subst hg
  refine lc_tup (xs := xs) (fun i H' => Same H1 H' ∧ H' D = some (.lst (ys.take i))) ⟨same_new hD, upd_same⟩ (fun i H' hi hP => SqT.of (hP.1 _ _ hS)) (fun i x H' hx hP => ?_) (fun H' hP => ?_)
  · obtain ⟨sm, hl⟩ := hP
    have hi : i < ys.length := by
      rw [hlen]
      obtain ⟨h, _⟩ := List.getElem?_eq_some_iff.mp hx
      exact h
    refine ⟨hw _, yes_go ?_⟩
    refine he i x ys[i] H' _ hx (List.getElem?_eq_getElem hi) sm fun H3 s3 => ?_
    refine ⟨ys.take i, s3 _ _ hl, ?_, Same.upd_new (sm.trans s3) hD, ?_⟩
    · rw [List.length_take]
      exact szl (by omega)
    · rw [upd_same, List.take_add_one, List.getElem?_eq_getElem hi]
      rfl
  · obtain ⟨sm, hl⟩ := hP
    rw [← hlen, List.take_length] at hl
    exact hd H' sm hl
/-! ### what the writers promise -/
def spEndText : Sp := fun vs H Q _ => ∃ (v : V) (e : Str × Int), vs = [v] ∧ Rp H v (encE e) ∧ e.1.length ≤ 100 ∧ -99 ≤ e.2 ∧ e.2 ≤ 99 ∧ ∀ H', Same H H' → Q (.str (S (endL e))) H'
def spThingText (n : Nat) : Sp := fun vs H Q _ => ∃ (v : V) (t : Thing) (C : Str → Prop) (A : Prop) (sc : List Str), vs = [v] ∧ Rp H v (enc t) ∧ TOk C A sc n t ∧ ScOk sc ∧ cntT t ≤ 1000 ∧ ∀ H', Same H H' → Q (.str (S (thingL t))) H'
def spPlanText (n : Nat) : Sp := fun vs H Q _ => ∃ (v : V) (ts : List Thing) (C : Str → Prop) (A : Prop) (sc : List Str), vs = [v] ∧ Rp H v (.tup (encs ts)) ∧ TsOk C A sc n ts ∧ ScOk sc ∧ cntB ts ≤ 1000 ∧ ∀ H', Same H H' → Q (.str (S (planL ts))) H'
/-- the same for the things of one kind -/
def spOne (kind : Thing → Prop) (n : Nat) : Sp := fun vs H Q _ => ∃ (v : V) (t : Thing) (C : Str → Prop) (A : Prop) (sc : List Str), vs = [v] ∧ kind t ∧ Rp H v (enc t) ∧ TOk C A sc n t ∧ ScOk sc ∧ cntT t ≤ 1000 ∧ ∀ H', Same H H' → Q (.str (S (thingL t))) H'
theorem endL_len {e : Str × Int} (h : e.1.length ≤ 100) (h1 : -99 ≤ e.2) (h2 : e.2 ≤ 99) : (endL e).length ≤ 110 := by
  have n1 := (num_small h1 h2).1
  have n2 := (num_small (i := -e.2) (by omega) (by omega)).1
  have l1 := len_tl e.1
  have p1 : (tl " + ").length = 3 := by decide +kernel
  have p2 : (tl " - ").length = 3 := by decide +kernel
  unfold endL
  split
  · omega
  · split
    · omega
    · split
      · rw [List.length_append, List.length_append]
        omega
      · rw [List.length_append, List.length_append]
        omega
/-! ### how a heap goes on: what M tells may be written, tuples stay -/
structure Go (M : Addr → Prop) (H H' : Hp) : Prop where
  sx : Sx M H H'
  im : Imm H H'
theorem Go.refl (M : Addr → Prop) (H : Hp) : Go M H H := ⟨Sx.refl M H, Imm.refl H⟩
theorem Go.trans {M : Addr → Prop} {H H1 H2 : Hp} (a : Go M H H1) (b : Go M H1 H2) : Go M H H2 := ⟨a.sx.trans b.sx, a.im.trans b.im⟩
theorem Go.same {M : Addr → Prop} {H H' : Hp} (a : Same H H') : Go M H H' := ⟨Sx.of_same a, Imm.same a⟩
theorem Go.new {M : Addr → Prop} {H H' : Hp} {p : Addr} {o : HO} (a : Go M H H') (h : H' p = none) : Go M H (upd H' p o) := a.trans (Go.same (same_new h))
theorem Go.mono {M N : Addr → Prop} {H H' : Hp} (a : Go M H H') (h : ∀ b, M b → N b) : Go N H H' := ⟨a.sx.mono h, a.im⟩
theorem Go.but {M : Addr → Prop} {H H' : Hp} {d L : Addr} (h : Dr H d L) (a : But d H H') (m : M d) : Go M H H' := ⟨Sx.of_but a m, h.imm a⟩
theorem Go.set {M : Addr → Prop} {H H' : Hp} {p : Addr} {o : HO} {l : List V} (a : Go M H H') (m : M p) (h : H' p = some (.lst l)) : Go M H (upd H' p o) :=
  ⟨a.sx.upd_in m, a.im.trans ((Imm.refl H').upd fun xs e => by rw [h] at e; cases e)⟩
theorem Go.own {M : Addr → Prop} {H H' : Hp} {p : Addr} {o : HO} (a : Go M H H') (h : H p = none) : Go M H (upd H' p o) :=
  ⟨a.sx.upd_new h, a.im.upd fun xs e => by rw [h] at e; cases e⟩
theorem Go.at {M : Addr → Prop} {H H' : Hp} {p : Addr} {o : HO} (a : Go M H H') (h : H p = some o) (n : ¬ M p) : H' p = some o := a.sx p o n h
/-- what is not tracked behind was not tracked ahead, where M's own are tracked behind -/
theorem Go.free {M : Addr → Prop} {H H' : Hp} {p : Addr} (a : Go M H H') (h : H' p = none) (n : ¬ M p) : H p = none := by
  cases q : H p with
  | none => rfl
  | some o =>
    rw [a.sx p o n q] at h
    cases h
theorem mem_ints2 {v : V} {a b : Int} (h : v ∈ [V.int a, .int b]) : ∃ m, v = .int m ∧ (m = a ∨ m = b) := by
  rcases List.mem_cons.mp h with rfl | h
  · exact ⟨a, rfl, .inl rfl⟩
  rcases List.mem_cons.mp h with rfl | h
  · exact ⟨b, rfl, .inr rfl⟩
  · cases h
theorem mem_ints3 {v : V} {a b c : Int} (h : v ∈ [V.int a, .int b, .int c]) : ∃ m, v = .int m ∧ (m = a ∨ m = b ∨ m = c) := by
  rcases List.mem_cons.mp h with rfl | h
  · exact ⟨a, rfl, .inl rfl⟩
  obtain ⟨m, e, q⟩ := mem_ints2 h
  exact ⟨m, e, .inr q⟩
theorem mem_ints {v : V} {ns : List Int} (h : v ∈ ns.map V.int) : ∃ m, v = .int m ∧ m ∈ ns := by
  obtain ⟨m, hm, e⟩ := List.mem_map.mp h
  exact ⟨m, e.symm, hm⟩
theorem mem_strs {v : V} {ns : List Str} (h : v ∈ ns.map V.str) : ∃ m, v = .str m ∧ m ∈ ns := by
  obtain ⟨m, hm, e⟩ := List.mem_map.mp h
  exact ⟨m, e.symm, hm⟩
/-! ### what the drawing promises -/
/-- the kit: room, the names that may be called (none), figures, wide -/
def Kt (H : Hp) (k kd : Addr) (r : Int) (fig wide : Bool) : Prop := H k = some (.lst [.int r, .ref kd, .bl fig, .bl wide]) ∧ H kd = some (.dK [])
def M2 (d k : Addr) : Addr → Prop := fun b => b = d ∨ b = k
/-- _law_some_end(draw, scope, wide) -/
def spSomeEnd : Sp := fun vs H Q _ => ∃ (d L sc : Addr) (ns : List Str) (wide : Bool), vs = [.ref d, .ref sc, .bl wide] ∧ Dr H d L ∧ H sc = some (.lst (ns.map V.str)) ∧ sc ≠ d ∧ ns ≠ [] ∧ ns.length < 100 ∧
  ∀ (v : V) (e : Str × Int) (H' : Hp), Rp H' v (encE e) → EndOk ns e → Dr H' d L → Go (· = d) H H' → Q v H'
/-- _law_fresh(draw, taken) -/
def spFresh : Sp := fun vs H Q _ => ∃ (d L sc : Addr) (ns : List Str), vs = [.ref d, .ref sc] ∧ Dr H d L ∧ H sc = some (.lst (ns.map V.str)) ∧ sc ≠ d ∧ ns.length < 26 ∧
  ∀ (x : Str) (H' : Hp), nameB x = true → x ∉ ns → Dr H' d L → Go (· = d) H H' → Q (.str x) H'
/-- no name may be called -/
abbrev C0 : Str → Prop := fun _ => False
/-- _law_leaf(draw, kit, scope, deep) -/
def spLeaf : Sp := fun vs H Q _ => ∃ (d L k kd sc : Addr) (dp r : Int) (fig wide : Bool), vs = [.ref d, .ref k, .ref sc, .int dp] ∧ Dr H d L ∧ Kt H k kd r fig wide ∧ k ≠ d ∧
  ∀ (v : V) (t : Thing) (H' : Hp), Rp H' v (enc t) → (∀ ns n, TOk C0 False ns n t) → cntT t = 1 → Dr H' d L → Go (· = d) H H' → Q v H'
/-- what a drawing of things is handed -/
def spDraw (post : Nat → List Str → V → Hp → Nat → Prop) (n : Nat) : Sp := fun vs H Q _ => ∃ (d L k kd sc : Addr) (r : Nat) (fig wide : Bool) (ns : List Str), vs = [.ref d, .ref k, .ref sc, .int (4 - n)] ∧ Dr H d L ∧ Kt H k kd r fig wide ∧ k ≠ d ∧ k ≠ L ∧ 1 ≤ r ∧ r ≤ 100 ∧
  H sc = some (.lst (ns.map V.str)) ∧ sc ≠ d ∧ sc ≠ k ∧ ScOk ns ∧ ns ≠ [] ∧ ns.length + n ≤ 20 ∧
  ∀ (v : V) (c r' : Nat) (H' : Hp), post n ns v H' c → c + r' = r → Dr H' d L → Kt H' k kd r' fig wide → Go (M2 d k) H H' → Q v H'
def spDrawThing : Nat → Sp := spDraw fun n ns v H' c => ∃ t, Rp H' v (enc t) ∧ TOk C0 False ns n t ∧ cntT t = c
def spDrawBody : Nat → Sp := spDraw fun n ns v H' c => ∃ ts, ts ≠ [] ∧ Rp H' v (.tup (encs ts)) ∧ TsOk C0 False ns n ts ∧ cntB ts = c
/-- _law_drawn(draw, room, figures, wide) -/
def spDrawn : Sp := fun vs H Q _ => ∃ (d L : Addr) (r : Nat) (fig wide : Bool), vs = [.ref d, .int r, .bl fig, .bl wide] ∧ Dr H d L ∧ 1 ≤ r ∧ r ≤ 100 ∧
  ∀ (v : V) (ts : List Thing) (H' : Hp), ts ≠ [] → Rp H' v (.tup (encs ts)) → TsOk C0 False ["n"] 4 ts → cntB ts ≤ r → Dr H' d L → Go (· = d) H H' → Q v H'
/-- of fewer than 26 names one of the doubled letters is none -/
theorem nodup_sub : ∀ {xs ys : List Str}, xs.Nodup → (∀ x ∈ xs, x ∈ ys) → xs.length ≤ ys.length
  | [], _, _, _ => Nat.zero_le _
  | x :: r, ys, h, s => by
    obtain ⟨h1, h2⟩ := List.nodup_cons.mp h
    have hx := s x List.mem_cons_self
    have ih := nodup_sub (xs := r) (ys := ys.erase x) h2 (fun y hy => by
      have hne : y ≠ x := fun e => h1 (e ▸ hy)
      exact (List.mem_erase_of_ne hne).mpr (s y (List.mem_cons_of_mem _ hy)))
    rw [List.length_erase_of_mem hx] at ih
    have : 0 < ys.length := List.length_pos_of_mem hx
    rw [List.length_cons]
    omega
def spare : List Str := abc.map fun c => S [c, c]
theorem spare_nodup : spare.Nodup := by decide +kernel
theorem spare_free {ns : List Str} (h : ns.length < 26) : ∃ x ∈ spare, x ∉ ns := by
  by_cases c : ∃ x ∈ spare, x ∉ ns
  · exact c
  · have : spare.length ≤ ns.length := nodup_sub spare_nodup (fun x hx => by
      by_cases hn : x ∈ ns
      · exact hn
      · exact absurd ⟨x, hx, hn⟩ c)
    have e : spare.length = 26 := by decide +kernel
    omega
theorem spare_name {x : Str} (h : x ∈ spare) : nameB x = true := by
  obtain ⟨c, hc, rfl⟩ := List.mem_map.mp h
  exact name_two c hc
end OG

set_option Elab.async false
set_option linter.all false
set_option maxRecDepth 100000
set_option maxHeartbeats 4000000
namespace OG
open PySem PySem.Spec PyProof.Rows L2
/-! ### two values that stand for one datum -/
def Eq2 (H : Hp) : Nat → V → V → Prop
  | 0, v, w => v = w ∧ flatV v = true
  | n + 1, v, w => (v = w ∧ flatV v = true) ∨
    (∃ (a b : Addr) (vs ws : List V), v = .ref a ∧ w = .ref b ∧ ((H a = some (.tup vs) ∧ H b = some (.tup ws)) ∨ (H a = some (.lst vs) ∧ H b = some (.lst ws))) ∧ vs.length = ws.length ∧ vs.length < 100000 ∧
      ∀ (i : Nat) x y, vs[i]? = some x → ws[i]? = some y → Eq2 H n x y)
theorem Eq2.same {H H' : Hp} (s : Same H H') : ∀ {n : Nat} {v w : V}, Eq2 H n v w → Eq2 H' n v w
  | 0, _, _, h => h
  | n + 1, v, w, h => by
    rcases h with h | ⟨a, b, vs, ws, e1, e2, h, hl, hz, q⟩
    · exact .inl h
    · refine .inr ⟨a, b, vs, ws, e1, e2, ?_, hl, hz, fun i x y hx hy => Eq2.same s (q i x y hx hy)⟩
      rcases h with ⟨h1, h2⟩ | ⟨h1, h2⟩
      · exact .inl ⟨s _ _ h1, s _ _ h2⟩
      · exact .inr ⟨s _ _ h1, s _ _ h2⟩
theorem Eq2.flat {H : Hp} {v : V} (h : flatV v = true) : ∀ n, Eq2 H n v v
  | 0 => ⟨rfl, h⟩
  | n + 1 => .inl ⟨rfl, h⟩
mutual
/-- how deep tuples stand in one another -/
def depD : D → Nat
  | .tup xs => 1 + depL xs
  | _ => 0
def depL : List D → Nat
  | [] => 0
  | x :: xs => max (depD x) (depL xs)
end
mutual
/-- no tuple is too long -/
def fitD : D → Prop
  | .tup xs => xs.length < 100000 ∧ fitL xs
  | _ => True
def fitL : List D → Prop
  | [] => True
  | x :: xs => fitD x ∧ fitL xs
end
theorem fit_get : ∀ {xs : List D} {i : Nat} {x : D}, fitL xs → xs[i]? = some x → fitD x
  | [], _, _, _, h => by simp at h
  | y :: ys, 0, x, f, h => by
    have : y = x := Option.some.inj h
    exact this ▸ f.1
  | y :: ys, i + 1, x, f, h => fit_get (xs := ys) (i := i) f.2 h
theorem dep_get : ∀ {xs : List D} {i : Nat} {x : D}, xs[i]? = some x → depD x ≤ depL xs
  | [], _, _, h => by simp at h
  | y :: ys, 0, x, h => by
    have : y = x := Option.some.inj h
    rw [← this]
    exact Nat.le_max_left _ _
  | y :: ys, i + 1, x, h => Nat.le_trans (dep_get (xs := ys) (i := i) h) (Nat.le_max_right _ _)
theorem eq2_of {H : Hp} : ∀ (n : Nat) (x : D) (v w : V), Rp H v x → Rp H w x → depD x ≤ n → fitD x → Eq2 H n v w
  | n, .non, _, _, h, k, _, _ => by rw [show _ = V.non from h, show _ = V.non from k]; exact Eq2.flat rfl n
  | n, .bl b, _, _, h, k, _, _ => by rw [show _ = V.bl b from h, show _ = V.bl b from k]; exact Eq2.flat rfl n
  | n, .int i, _, _, h, k, _, _ => by rw [show _ = V.int i from h, show _ = V.int i from k]; exact Eq2.flat rfl n
  | n, .str z, _, _, h, k, _, _ => by rw [show _ = V.str z from h, show _ = V.str z from k]; exact Eq2.flat rfl n
  | 0, .tup xs, _, _, _, _, hd, _ => by
    have : 1 + depL xs ≤ 0 := hd
    omega
  | n + 1, .tup xs, v, w, h, k, hd, hf => by
    obtain ⟨a, vs, e1, h1, r1⟩ := h
    obtain ⟨b, ws, e2, h2, r2⟩ := k
    have l1 := r1.length
    have l2 := r2.length
    have hd2 : depL xs ≤ n := by
      have : 1 + depL xs ≤ n + 1 := hd
      omega
    refine .inr ⟨a, b, vs, ws, e1, e2, .inl ⟨h1, h2⟩, l1.trans l2.symm, by rw [l1]; exact hf.1, fun i x y hx hy => ?_⟩
    obtain ⟨d1, g1, p1⟩ := r1.get hx
    obtain ⟨d2, g2, p2⟩ := r2.get hy
    have e : d1 = d2 := Option.some.inj (g1.symm.trans g2)
    subst e
    exact eq2_of n d1 x y p1 p2 (Nat.le_trans (dep_get g1) hd2) (fit_get hf.2 g1)
def spSame (n : Nat) : Sp := fun vs H Q _ => ∃ v w : V, vs = [v, w] ∧ Eq2 H n v w ∧ ∀ H', Same H H' → Q (.bl true) H'
def prevS : Nat → Sp
  | 0 => fun _ _ _ _ => False
  | n + 1 => spSame n
/-- zip of two tuples -/
theorem walk_zipT {K : PySem.W.Frag} {a b : Addr} {xs ys : List V} {n : Nat} (hn : n = min xs.length ys.length) : Walk (RZ.ItzT K a b) n (fun H => SqT K H a xs ∧ SqT K H b ys) (YPair (fun i => xs[i]?) (fun i => ys[i]?)) := by
  subst hn
  refine ⟨fun i _ hi q => ?_, fun _ q => ⟨xs, ys, q.1, q.2, by omega⟩, fun i H v H' _ q y => ?_⟩
  · have h1 : i < xs.length := by omega
    have h2 : i < ys.length := by omega
    exact ⟨xs, ys, xs[i], ys[i], q.1, q.2, by simp [h1], by simp [h2]⟩
  · obtain ⟨T, x, z, h1, h2, h3, h4, h5⟩ := y
    exact ⟨T, x, z, h1, h2, h3, h4 xs q.1, h5 ys q.2⟩
theorem fn_none {P : Program} {w : World} {K : PySem.W.Frag} {mg : Str → Option Value} {base : Heap} {f : Addr} {fd : FuncData} {k : Nat} {ps : List Str} : FnOk P w K mg base CX0 k f fd ps (fun _ _ _ _ => False) :=
  ⟨fun _ _ _ _ h => h.elim, fun _ _ _ _ _ _ _ _ _ _ _ _ _ h => h.elim⟩
theorem all_trues : ∀ n : Nat, (List.replicate n true).all id = true
  | 0 => rfl
  | n + 1 => by rw [List.replicate_succ, List.all_cons, all_trues n]; rfl
theorem pg_tupK {X : Cx} {K : PySem.W.Frag} {es : List Expr} {k : Nat} {t : TGs} {n : Nat} {pos : Pos} (hK : X.K = K) (hc : X.calm = true) (h : PGs X es t) (hn : (assignEach es X.env).length = n := by rfl) (hst : (assignEach es X.env).findIdx? (·.1) = none := by rfl) : PG X (.Tuple es k pos) (gTup K n t) := by
  subst hK
  exact pg_tup hc h hn hst
end OG

set_option Elab.async false
set_option linter.all false
set_option maxRecDepth 100000
set_option maxHeartbeats 4000000
namespace OG
open PySem PySem.Spec PyProof.Rows L2
theorem str_to {Q : VK} {a b : Str} {H : Hp} (h : Q (.str b) H) (e : tl a = tl b) : Q (.str a) H := by rw [str_ext e]; exact h
theorem szs {a b : Str} (h : a.length + b.length ≤ 100000) : (a ++ b).length ≤ sizeLine := by rw [len_app]; exact sz h
theorem szc {a b : Str} (h : a.length + b.length ≤ 100000) : a.length + b.length ≤ sizeLine := sz h
theorem l_emp : Str.empty.length = 0 := rfl
theorem l_0 : ("" : Str).length = 0 := by decide +kernel
theorem l_plus : (" + " : Str).length = 3 := by decide +kernel
theorem l_minus : (" - " : Str).length = 3 := by decide +kernel
theorem l_step : ("step " : Str).length = 5 := by decide +kernel
theorem l_for : ("for " : Str).length = 4 := by decide +kernel
theorem l_from : (" from " : Str).length = 6 := by decide +kernel
theorem l_to : (" to " : Str).length = 4 := by decide +kernel
theorem l_open : (" (" : Str).length = 2 := by decide +kernel
theorem l_shut : (")" : Str).length = 1 := by decide +kernel
theorem l_if : ("if " : Str).length = 3 := by decide +kernel
theorem l_le : (" <= " : Str).length = 4 := by decide +kernel
theorem l_else : (" else (" : Str).length = 7 := by decide +kernel
theorem l_double : ("double (" : Str).length = 8 := by decide +kernel
theorem l_call : ("call " : Str).length = 5 := by decide +kernel
theorem l_with : (" with " : Str).length = 6 := by decide +kernel
theorem l_again : ("again " : Str).length = 6 := by decide +kernel
theorem l_on : (" on " : Str).length = 4 := by decide +kernel
theorem numL_len {i : Int} (h0 : -99 ≤ i) (h1 : i ≤ 99) : ((toString i : Str)).length ≤ 3 := by
  have := (num_small h0 h1).1
  unfold numL at this
  rw [← len_tl] at this
  exact this
theorem int_log {i : Int} (h0 : -99 ≤ i) (h1 : i ≤ 99) : i.natAbs.log2 < 1920 := (num_small h0 h1).2
theorem strs_len (ls : List (List Nat)) : ((ls.map S).map (·.length)).sum = (ls.map (·.length)).sum := by
  rw [List.map_map]
  congr 1
theorem sum_le_two : ∀ ls : List (List Nat), (ls.map (·.length)).sum + ls.length * 2 = (ls.map (fun l => l.length + 2)).sum
  | [] => rfl
  | l :: r => by
    have ih := sum_le_two r
    rw [List.map_cons, List.map_cons, List.sum_cons, List.sum_cons, List.length_cons]
    omega
/-- '; '.join of the things' texts -/
theorem join_things (ts : List Thing) : Txt.join "; " (ts.map fun t => S (thingL t)) = S (planL ts) := by
  have e := SX.join_S (tl "; ") (thingsL ts)
  have e1 : SX.S (tl "; ") = ("; " : Str) := S_tl _
  rw [e1] at e
  have e2 : (thingsL ts).map SX.S = ts.map fun t => S (thingL t) := by
    rw [thingsL_map, List.map_map]
    rfl
  rw [e2] at e
  exact e
theorem things_sum {C : Str → Prop} {A : Prop} {ts : List Thing} {sc : List Str} {n : Nat} (h : TsOk C A sc n ts) (hs : ScOk sc) (hc : cntB ts ≤ 1000) :
    (((ts.map fun t => S (thingL t))).map (·.length)).sum + (ts.map fun t => S (thingL t)).length * ("; " : Str).length ≤ 16777216 := by
  have c0 : ("; " : Str).length = 2 := by decide +kernel
  have e : (ts.map fun t => S (thingL t)) = (thingsL ts).map S := by
    rw [thingsL_map, List.map_map]
    rfl
  rw [e, strs_len, c0, List.length_map, sum_le_two]
  have := things_size ts sc n h hs
  omega
theorem body_len {C : Str → Prop} {A : Prop} {ts : List Thing} {sc : List Str} {n : Nat} (h : TsOk C A sc n ts) (hs : ScOk sc) (hc : cntB ts ≤ 1000) : (planL ts).length ≤ 80000 := by
  have := plan_size h hs
  omega
theorem rpl_things {H : Hp} {vs : List V} {ts : List Thing} (h : RpL H vs (encs ts)) {i : Nat} {x : V} (hx : vs[i]? = some x) : ∃ t, ts[i]? = some t ∧ Rp H x (enc t) := by
  obtain ⟨d, hd, hr⟩ := h.get hx
  rw [encs_map, List.getElem?_map] at hd
  cases ht : ts[i]? with
  | none => rw [ht] at hd; cases hd
  | some t =>
    rw [ht] at hd
    have : enc t = d := Option.some.inj hd
    exact ⟨t, rfl, this ▸ hr⟩
end OG

set_option Elab.async false
set_option linter.all false
set_option maxRecDepth 100000
set_option maxHeartbeats 4000000
namespace OG
open PySem PySem.Spec PyProof.Rows L2
mutual
def toPy : D → PyData
  | .non => .none
  | .bl b => .bool b
  | .int n => .int n
  | .str z => .str z
  | .tup xs => .tuple (toPys xs)
def toPys : List D → List PyData
  | [] => []
  | x :: xs => toPy x :: toPys xs
end
mutual
theorem rp_dp {K : PySem.W.Frag} {H : Hp} : ∀ (x : D) (v : V), Rp H v x → Dp K H v (toPy x)
  | .non, _, h => by rw [show _ = V.non from h]; exact .non
  | .bl b, _, h => by rw [show _ = V.bl b from h]; exact .bl b
  | .int n, _, h => by rw [show _ = V.int n from h]; exact .int n
  | .str z, _, h => by rw [show _ = V.str z from h]; exact .str z
  | .tup xs, _, h => by
    obtain ⟨a, vs, e, q, r⟩ := h
    rw [e]
    exact .tup (SqT.of q) (rp_dps xs vs r)
theorem rp_dps {K : PySem.W.Frag} {H : Hp} : ∀ (xs : List D) (vs : List V), RpL H vs xs → DpAll K H vs (toPys xs)
  | [], _, h => by rw [show _ = [] from h]; exact .nil
  | x :: xs, _, h => by
    obtain ⟨v, r, e, q, t⟩ := h
    rw [e]
    exact .cons (rp_dp x v q) (rp_dps xs r t)
end
theorem abc_range : ∀ c ∈ abc, 97 ≤ c ∧ c ≤ 122 := by
  have h : abc.all (fun c => decide (97 ≤ c) && decide (c ≤ 122)) = true := by decide +kernel
  intro c hc
  have := List.all_eq_true.mp h c hc
  simpa only [Bool.and_eq_true, decide_eq_true_eq] using this
theorem name_strOk {z : Str} (h : nameB z = true) : PyData.strOk z = true := by
  have ha := name_abc h
  unfold PyData.strOk
  rw [Array.all_eq_true']
  intro c hc
  have := abc_range c (ha c (by simpa [tl] using hc))
  simp
  omega
theorem end_py {sc : List Str} {e : Str × Int} (hs : ScOk sc) (h : EndOk sc e) : (toPy (encE e)).canLay0 = true ∧ (toPy (encE e)).depth = 1 := by
  have h1 : PyData.strOk e.1 = true := by
    rcases h with ⟨h1, _⟩ | ⟨h1, _⟩
    · rw [h1]
      decide +kernel
    · rcases hs _ h1 with h2 | h2
      · rw [h2]
        decide +kernel
      · exact name_strOk h2
  refine ⟨?_, rfl⟩
  show (PyData.strOk e.1 && (true && true)) = true
  rw [h1]
  rfl
mutual
theorem thing_py {C : Str → Prop} {A : Prop} : ∀ (t : Thing) (sc : List Str) (n : Nat), TOk C A sc n t → ScOk sc → (toPy (enc t)).canLay0 = true ∧ (toPy (enc t)).depth ≤ 2 * n + 2
  | .step k, sc, n, h, hs => ⟨by show (PyData.strOk "step" && (true && true)) = true; decide +kernel, by show 1 ≤ 2 * n + 2; omega⟩
  | .loop x a b body, sc, n, h, hs => by
    obtain ⟨h1, h2, h3, h4, h5, m, rfl, h6⟩ := h
    obtain ⟨a1, a2⟩ := end_py hs h3
    obtain ⟨b1, b2⟩ := end_py hs h4
    obtain ⟨c1, c2⟩ := things_py body _ _ h6 (scOk_snoc hs h1)
    have f1 : PyData.strOk "for" = true := by decide +kernel
    constructor
    · show (PyData.strOk "for" && (PyData.strOk x && ((toPy (encE a)).canLay0 && ((toPy (encE b)).canLay0 && (PyData.canLayAll0 (toPys (encs body)) && true))))) = true
      rw [f1, name_strOk h1, a1, b1, c1]
      rfl
    · show max 0 (max 0 (max (toPy (encE a)).depth (max (toPy (encE b)).depth (max (PyData.depthAll (toPys (encs body)) + 1) 0)))) + 1 ≤ 2 * (m + 1) + 2
      rw [a2, b2]
      omega
  | .test a b x y, sc, n, h, hs => by
    obtain ⟨h3, h4, h5, m, rfl, h6, h7⟩ := h
    obtain ⟨a1, a2⟩ := end_py hs h3
    obtain ⟨b1, b2⟩ := end_py hs h4
    obtain ⟨c1, c2⟩ := things_py x _ _ h6 hs
    obtain ⟨d1, d2⟩ := things_py y _ _ h7 hs
    have f1 : PyData.strOk "if" = true := by decide +kernel
    constructor
    · show (PyData.strOk "if" && ((toPy (encE a)).canLay0 && ((toPy (encE b)).canLay0 && (PyData.canLayAll0 (toPys (encs x)) && (PyData.canLayAll0 (toPys (encs y)) && true))))) = true
      rw [f1, a1, b1, c1, d1]
      rfl
    · show max 0 (max (toPy (encE a)).depth (max (toPy (encE b)).depth (max (PyData.depthAll (toPys (encs x)) + 1) (max (PyData.depthAll (toPys (encs y)) + 1) 0)))) + 1 ≤ 2 * (m + 1) + 2
      rw [a2, b2]
      omega
  | .twice b, sc, n, h, hs => by
    obtain ⟨h5, m, rfl, h6⟩ := h
    obtain ⟨c1, c2⟩ := things_py b _ _ h6 hs
    have f1 : PyData.strOk "double" = true := by decide +kernel
    constructor
    · show (PyData.strOk "double" && (PyData.canLayAll0 (toPys (encs b)) && true)) = true
      rw [f1, c1]
      rfl
    · show max 0 (max (PyData.depthAll (toPys (encs b)) + 1) 0) + 1 ≤ 2 * (m + 1) + 2
      omega
  | .call x e, sc, n, h, hs => by
    obtain ⟨a1, a2⟩ := end_py hs h.2.2
    have f1 : PyData.strOk "call" = true := by decide +kernel
    constructor
    · show (PyData.strOk "call" && (PyData.strOk x && ((toPy (encE e)).canLay0 && true))) = true
      rw [f1, name_strOk h.1, a1]
      rfl
    · show max 0 (max 0 (max (toPy (encE e)).depth 0)) + 1 ≤ 2 * n + 2
      rw [a2]
      omega
  | .again k w, sc, n, h, hs => by
    obtain ⟨_, _, _, h3⟩ := h
    have f1 : PyData.strOk "again" = true := by decide +kernel
    have f2 : PyData.strOk w = true := by
      rcases h3 with rfl | rfl | rfl
      · decide +kernel
      · decide +kernel
      · decide +kernel
    constructor
    · show (PyData.strOk "again" && (true && (PyData.strOk w && true))) = true
      rw [f1, f2]
      rfl
    · show 1 ≤ 2 * n + 2
      omega
theorem things_py {C : Str → Prop} {A : Prop} : ∀ (ts : List Thing) (sc : List Str) (n : Nat), TsOk C A sc n ts → ScOk sc → PyData.canLayAll0 (toPys (encs ts)) = true ∧ PyData.depthAll (toPys (encs ts)) ≤ 2 * n + 2
  | [], _, _, _, _ => ⟨rfl, Nat.zero_le _⟩
  | t :: r, sc, n, h, hs => by
    obtain ⟨a1, a2⟩ := thing_py t sc n h.1 hs
    obtain ⟨b1, b2⟩ := things_py r sc n h.2 hs
    constructor
    · show ((toPy (enc t)).canLay0 && PyData.canLayAll0 (toPys (encs r))) = true
      rw [a1, b1]
      rfl
    · show max (toPy (enc t)).depth (PyData.depthAll (toPys (encs r))) ≤ 2 * n + 2
      omega
end
/-- a body against the empty tuple -/
theorem body_eqv {C : Str → Prop} {A : Prop} {ts : List Thing} {sc : List Str} {n : Nat} (h : TsOk C A sc n ts) (hs : ScOk sc) (hn : n ≤ 20) :
    SeqAt.shaped (toPy (.tup (encs ts))) = true ∧ PyData.eqv (toPy (.tup (encs ts))) (.tuple []) = ts.isEmpty := by
  obtain ⟨a1, a2⟩ := things_py ts sc n h hs
  constructor
  · unfold SeqAt.shaped
    rw [show (toPy (.tup (encs ts))).canLay0 = true from a1]
    have : (toPy (.tup (encs ts))).depth ≤ 64 := by
      show PyData.depthAll (toPys (encs ts)) + 1 ≤ 64
      omega
    rw [decide_eq_true this]
    rfl
  · cases ts with
    | nil => rfl
    | cons t r => rfl
end OG

set_option Elab.async false
set_option linter.all false
set_option maxRecDepth 100000
set_option maxHeartbeats 4000000
namespace OG
open PySem PySem.Spec PyProof.Rows L2
def cutD (xs : List D) (lo hi : Option Int) : List D := (xs.drop (HT.sIx xs.length 0 lo)).take (HT.sIx xs.length xs.length hi - HT.sIx xs.length 0 lo)
theorem sl_rp {K : PySem.W.Frag} {H : Hp} {v : V} {xs : List D} {lo hi : Option Int} {Q : VK} (h : Rp H v (.tup xs)) (q : ∀ v' H', Same H H' → Rp H' v' (.tup (cutD xs lo hi)) → Q v' H') : rSlA K v lo hi H Q := by
  obtain ⟨a, vs, rfl, ha, r⟩ := id h
  have l := r.length
  refine ⟨a, vs, rfl, SqT.of ha, fun hw => ?_, fun hw p np => ?_⟩
  · have e : cutD xs lo hi = xs := by
      unfold cutD
      rw [← l, hw.1, hw.2, List.drop_zero, Nat.sub_zero, l, List.take_length]
    have := q (.ref a) H (Same.refl H)
    rw [e] at this
    exact this h
  · have s : Same H (upd H p (.tup (cutV vs lo hi))) := same_new np
    refine q (.ref p) _ s (rp_tup upd_same ?_)
    unfold cutV cutD
    rw [← l]
    exact ((r.drop _).take _).to (Imm.same s)
theorem cat_rp {K : PySem.W.Frag} {H : Hp} {x y : V} {xs ys : List D} {Q : VK} (hx : Rp H x (.tup xs)) (hy : Rp H y (.tup ys)) (hz : xs.length + ys.length ≤ 100000) (q : ∀ v' H', Same H H' → Rp H' v' (.tup (xs ++ ys)) → Q v' H') : rCatA K x y H Q := by
  obtain ⟨a, vs, rfl, ha, r⟩ := id hx
  obtain ⟨b, ws, rfl, hb, t⟩ := id hy
  have l := r.length
  have m := t.length
  refine ⟨a, b, vs, ws, rfl, rfl, SqT.of ha, SqT.of hb, sz (by omega), fun e => ?_, fun _ e => ?_, fun _ _ p np => ?_⟩
  · have : xs = [] := List.eq_nil_of_length_eq_zero (by rw [← l, e]; rfl)
    subst this
    exact q (.ref b) H (Same.refl H) hy
  · have : ys = [] := List.eq_nil_of_length_eq_zero (by rw [← m, e]; rfl)
    subst this
    have := q (.ref a) H (Same.refl H)
    rw [List.append_nil] at this
    exact this hx
  · have s : Same H (upd H p (.tup (vs ++ ws))) := same_new np
    exact q (.ref p) _ s (rp_tup upd_same ((r.append t).to (Imm.same s)))
theorem cutD_to (xs : List D) (k : Nat) : cutD xs none (some (k : Int)) = xs.take k := by
  unfold cutD
  rw [HT.sIx_none, HT.sIx_nat, List.drop_zero, Nat.sub_zero]
  by_cases h : k ≤ xs.length
  · rw [Nat.min_eq_left h]
  · rw [Nat.min_eq_right (by omega), List.take_length, List.take_of_length_le (by omega)]
theorem cutD_from (xs : List D) (k : Nat) : cutD xs (some (k : Int)) none = xs.drop k := by
  unfold cutD
  rw [HT.sIx_none, HT.sIx_nat]
  by_cases h : k ≤ xs.length
  · rw [Nat.min_eq_left h, List.take_of_length_le (by rw [List.length_drop]; omega)]
  · rw [Nat.min_eq_right (by omega), List.drop_length, Nat.sub_self, List.drop_eq_nil_of_le (by omega)]
    rfl
theorem encs_take (ts : List Thing) (k : Nat) : (encs ts).take k = encs (ts.take k) := by rw [encs_map, encs_map, List.map_take]
theorem encs_drop (ts : List Thing) (k : Nat) : (encs ts).drop k = encs (ts.drop k) := by rw [encs_map, encs_map, List.map_drop]
theorem cnt_take : ∀ (ts : List Thing) (k : Nat), cntB (ts.take k) ≤ cntB ts
  | _, 0 => Nat.zero_le _
  | [], k + 1 => Nat.le_refl _
  | t :: r, k + 1 => by
    have := cnt_take r k
    show cntT t + cntB (r.take k) ≤ cntT t + cntB r
    omega
theorem cnt_drop : ∀ (ts : List Thing) (k : Nat), cntB (ts.drop k) ≤ cntB ts
  | _, 0 => Nat.le_refl _
  | [], k + 1 => Nat.le_refl _
  | t :: r, k + 1 => by
    have := cnt_drop r k
    show cntB (r.drop k) ≤ cntT t + cntB r
    omega
mutual
theorem tok_mono {C C' : Str → Prop} {A A' : Prop} (hC : ∀ x, C x → C' x) (hA : A → A') : ∀ (t : Thing) (sc : List Str) (n : Nat), TOk C A sc n t → TOk C' A' sc n t
  | .step _, _, _, h => h
  | .loop x a b body, sc, n, h => by
    obtain ⟨h1, h2, h3, h4, h5, m, e, h6⟩ := h
    exact ⟨h1, h2, h3, h4, h5, m, e, tsok_mono hC hA body _ _ h6⟩
  | .test a b x y, sc, n, h => by
    obtain ⟨h3, h4, h5, m, e, h6, h7⟩ := h
    exact ⟨h3, h4, h5, m, e, tsok_mono hC hA x _ _ h6, tsok_mono hC hA y _ _ h7⟩
  | .twice b, sc, n, h => by
    obtain ⟨h5, m, e, h6⟩ := h
    exact ⟨h5, m, e, tsok_mono hC hA b _ _ h6⟩
  | .call x e, sc, n, h => ⟨h.1, hC _ h.2.1, h.2.2⟩
  | .again k w, sc, n, h => ⟨hA h.1, h.2⟩
theorem tsok_mono {C C' : Str → Prop} {A A' : Prop} (hC : ∀ x, C x → C' x) (hA : A → A') : ∀ (ts : List Thing) (sc : List Str) (n : Nat), TsOk C A sc n ts → TsOk C' A' sc n ts
  | [], _, _, _ => trivial
  | t :: r, sc, n, h => ⟨tok_mono hC hA t sc n h.1, tsok_mono hC hA r sc n h.2⟩
end
theorem tsok_append {C : Str → Prop} {A : Prop} {sc : List Str} {n : Nat} {a b : List Thing} (h : TsOk C A sc n a) (k : TsOk C A sc n b) : TsOk C A sc n (a ++ b) := by
  rw [tsok_iff] at h k ⊢
  intro t ht
  rcases List.mem_append.mp ht with h1 | h1
  · exact h t h1
  · exact k t h1
theorem tsok_take {C : Str → Prop} {A : Prop} {sc : List Str} {n : Nat} {a : List Thing} (h : TsOk C A sc n a) (k : Nat) : TsOk C A sc n (a.take k) := by
  rw [tsok_iff] at h ⊢
  exact fun t ht => h t (List.mem_of_mem_take ht)
theorem tsok_drop {C : Str → Prop} {A : Prop} {sc : List Str} {n : Nat} {a : List Thing} (h : TsOk C A sc n a) (k : Nat) : TsOk C A sc n (a.drop k) := by
  rw [tsok_iff] at h ⊢
  exact fun t ht => h t (List.mem_of_mem_drop ht)
theorem scOk_n : ScOk ["n"] := fun x hx => .inl (List.mem_singleton.mp hx)
abbrev CT : Str → Prop := fun _ => True
def spLaw (K : PySem.W.Frag) : Sp := fun vs H Q _ => ∃ (a : Addr) (ns : List Int), vs = [.ref a] ∧ SqL K H a (ns.map V.int) ∧ ns.length ≤ 63 ∧ ∀ H', Q (.bl true) H'
/-! depth and fit of a plan's datum -/
theorem depD_end (e : Str × Int) : depD (encE e) = 1 := rfl
mutual
theorem thing_dep {C : Str → Prop} {A : Prop} : ∀ (t : Thing) (sc : List Str) (n : Nat), TOk C A sc n t → depD (enc t) ≤ 2 * n + 2
  | .step k, _, n, _ => by show 1 ≤ 2 * n + 2; omega
  | .loop x a b body, sc, n, h => by
    obtain ⟨_, _, _, _, _, m, rfl, h6⟩ := h
    have := things_dep body _ _ h6
    show 1 + max 0 (max 0 (max 1 (max 1 (max (1 + depL (encs body)) 0)))) ≤ 2 * (m + 1) + 2
    omega
  | .test a b x y, sc, n, h => by
    obtain ⟨_, _, _, m, rfl, h6, h7⟩ := h
    have h8 := things_dep x _ _ h6
    have h9 := things_dep y _ _ h7
    show 1 + max 0 (max 1 (max 1 (max (1 + depL (encs x)) (max (1 + depL (encs y)) 0)))) ≤ 2 * (m + 1) + 2
    omega
  | .twice b, sc, n, h => by
    obtain ⟨_, m, rfl, h6⟩ := h
    have := things_dep b _ _ h6
    show 1 + max 0 (max (1 + depL (encs b)) 0) ≤ 2 * (m + 1) + 2
    omega
  | .call x e, _, n, _ => by show 1 + max 0 (max 0 (max 1 0)) ≤ 2 * n + 2; omega
  | .again k w, _, n, _ => by show 1 ≤ 2 * n + 2; omega
theorem things_dep {C : Str → Prop} {A : Prop} : ∀ (ts : List Thing) (sc : List Str) (n : Nat), TsOk C A sc n ts → depL (encs ts) ≤ 2 * n + 2
  | [], _, _, _ => Nat.zero_le _
  | t :: r, sc, n, h => by
    have h1 := thing_dep t sc n h.1
    have h2 := things_dep r sc n h.2
    show max (depD (enc t)) (depL (encs r)) ≤ 2 * n + 2
    omega
end
theorem plan_dep {C : Str → Prop} {A : Prop} {ts : List Thing} {sc : List Str} {n k : Nat} (h : TsOk C A sc n ts) (hk : 2 * n + 3 ≤ k) : depD (.tup (encs ts)) ≤ k := by
  have := things_dep ts sc n h
  show 1 + depL (encs ts) ≤ k
  omega
mutual
theorem thing_fit : ∀ (t : Thing), cntT t ≤ 1000 → fitD (enc t)
  | .step k, _ => ⟨by show 2 < 100000; decide, trivial, trivial, trivial⟩
  | .loop x a b body, h => by
    have h2 : 1 + cntB body ≤ 1000 := h
    have hl := cnt_len body
    exact ⟨by show 5 < 100000; decide, trivial, trivial, ⟨by show 2 < 100000; decide, trivial, trivial, trivial⟩, ⟨by show 2 < 100000; decide, trivial, trivial, trivial⟩, ⟨by rw [encs_length]; omega, things_fit body (by omega)⟩, trivial⟩
  | .test a b x y, h => by
    have h2 : 1 + cntB x + cntB y ≤ 1000 := h
    have hx := cnt_len x
    have hy := cnt_len y
    exact ⟨by show 5 < 100000; decide, trivial, ⟨by show 2 < 100000; decide, trivial, trivial, trivial⟩, ⟨by show 2 < 100000; decide, trivial, trivial, trivial⟩, ⟨by rw [encs_length]; omega, things_fit x (by omega)⟩, ⟨by rw [encs_length]; omega, things_fit y (by omega)⟩, trivial⟩
  | .twice b, h => by
    have h2 : 1 + cntB b ≤ 1000 := h
    have hl := cnt_len b
    exact ⟨by show 2 < 100000; decide, trivial, ⟨by rw [encs_length]; omega, things_fit b (by omega)⟩, trivial⟩
  | .call x e, _ => ⟨by show 3 < 100000; decide, trivial, trivial, ⟨by show 2 < 100000; decide, trivial, trivial, trivial⟩, trivial⟩
  | .again k w, _ => ⟨by show 3 < 100000; decide, trivial, trivial, trivial, trivial⟩
theorem things_fit : ∀ (ts : List Thing), cntB ts ≤ 1000 → fitL (encs ts)
  | [], _ => trivial
  | t :: r, h => by
    have h2 : cntT t + cntB r ≤ 1000 := h
    exact ⟨thing_fit t (by omega), things_fit r (by omega)⟩
end
theorem plan_fit {C : Str → Prop} {A : Prop} {ts : List Thing} {sc : List Str} {n : Nat} (_ : TsOk C A sc n ts) (h : cntB ts ≤ 1000) : fitD (.tup (encs ts)) := by
  have hl := cnt_len ts
  exact ⟨by rw [encs_length]; omega, things_fit ts h⟩
end OG

set_option Elab.async false
set_option linter.all false
set_option maxRecDepth 100000
set_option maxHeartbeats 4000000
namespace OG
open PySem PySem.Spec PyProof.Rows L2
/-! ### all things of a plan, and whom it calls -/
def bodiesT : Thing → List (List Thing)
  | .step _ => []
  | .loop _ _ _ b => [b]
  | .test _ _ x y => [x, y]
  | .twice b => [b]
  | .call _ _ => []
  | .again _ _ => []
mutual
def everyT : Thing → List Thing
  | .step k => [.step k]
  | .loop x a b body => .loop x a b body :: everyB body
  | .test a b x y => .test a b x y :: (everyB x ++ everyB y)
  | .twice b => .twice b :: everyB b
  | .call x e => [.call x e]
  | .again k w => [.again k w]
def everyB : List Thing → List Thing
  | [] => []
  | t :: r => everyT t ++ everyB r
end
theorem everyB_append : ∀ a b : List Thing, everyB (a ++ b) = everyB a ++ everyB b
  | [], b => rfl
  | t :: r, b => by
    show everyT t ++ everyB (r ++ b) = everyT t ++ everyB r ++ everyB b
    rw [everyB_append r b, List.append_assoc]
theorem everyT_eq (t : Thing) : everyT t = t :: (bodiesT t).flatMap everyB := by
  cases t <;> simp [everyT, bodiesT]
theorem everyB_take {ts : List Thing} {i : Nat} {t : Thing} (h : ts[i]? = some t) : everyB (ts.take (i + 1)) = everyB (ts.take i) ++ t :: (bodiesT t).flatMap everyB := by
  rw [List.take_add_one, h, everyB_append]
  show everyB (ts.take i) ++ (everyT t ++ everyB []) = _
  rw [everyT_eq]
  show _ ++ (_ ++ []) = _
  rw [List.append_nil]
mutual
theorem everyT_len : ∀ t : Thing, (everyT t).length = cntT t
  | .step _ => rfl
  | .loop x a b body => by
    show (everyB body).length + 1 = 1 + cntB body
    rw [everyB_len body]; omega
  | .test a b x y => by
    show (everyB x ++ everyB y).length + 1 = 1 + cntB x + cntB y
    rw [List.length_append, everyB_len x, everyB_len y]; omega
  | .twice b => by
    show (everyB b).length + 1 = 1 + cntB b
    rw [everyB_len b]; omega
  | .call _ _ => rfl
  | .again _ _ => rfl
theorem everyB_len : ∀ ts : List Thing, (everyB ts).length = cntB ts
  | [] => rfl
  | t :: r => by
    show (everyT t ++ everyB r).length = cntT t + cntB r
    rw [List.length_append, everyT_len t, everyB_len r]
end
theorem cnt_take_le (ts : List Thing) (i : Nat) : cntB (ts.take i) ≤ cntB ts := cnt_take ts i
/-- a thing's bodies have one bracket less -/
theorem bodies_ok {C : Str → Prop} {A : Prop} {sc : List Str} {n : Nat} {t : Thing} (h : TOk C A sc n t) : ∀ b ∈ bodiesT t, ∃ sc' m, n = m + 1 ∧ TsOk C A sc' m b := by
  cases t with
  | step k => intro b hb; cases hb
  | loop x e1 e2 body =>
    obtain ⟨_, _, _, _, _, m, e, h6⟩ := h
    intro b hb
    rw [List.mem_singleton.mp hb]
    exact ⟨_, m, e, h6⟩
  | test e1 e2 x y =>
    obtain ⟨_, _, _, m, e, h6, h7⟩ := h
    intro b hb
    rcases List.mem_cons.mp hb with rfl | hb
    · exact ⟨_, m, e, h6⟩
    · rw [List.mem_singleton.mp hb]
      exact ⟨_, m, e, h7⟩
  | twice b0 =>
    obtain ⟨_, m, e, h6⟩ := h
    intro b hb
    rw [List.mem_singleton.mp hb]
    exact ⟨_, m, e, h6⟩
  | call x e => intro b hb; cases hb
  | again k w => intro b hb; cases hb
theorem bodies_cnt {t : Thing} : ∀ b ∈ bodiesT t, cntB b ≤ cntT t := by
  cases t with
  | step k => intro b hb; cases hb
  | loop x e1 e2 body =>
    intro b hb
    rw [List.mem_singleton.mp hb]
    show cntB body ≤ 1 + cntB body
    omega
  | test e1 e2 x y =>
    intro b hb
    show cntB b ≤ 1 + cntB x + cntB y
    rcases List.mem_cons.mp hb with rfl | hb
    · omega
    · rw [List.mem_singleton.mp hb]
      omega
  | twice b0 =>
    intro b hb
    rw [List.mem_singleton.mp hb]
    show cntB b0 ≤ 1 + cntB b0
    omega
  | call x e => intro b hb; cases hb
  | again k w => intro b hb; cases hb
def encBs (bs : List (List Thing)) : List D := bs.map fun b => .tup (encs b)
theorem rpl_bodies {H : Hp} {vs : List V} {bs : List (List Thing)} (h : RpL H vs (encBs bs)) {i : Nat} {x : V} (hx : vs[i]? = some x) : ∃ b, bs[i]? = some b ∧ Rp H x (.tup (encs b)) := by
  obtain ⟨d, hd, hr⟩ := h.get hx
  unfold encBs at hd
  rw [List.getElem?_map] at hd
  cases ht : bs[i]? with
  | none => rw [ht] at hd; cases hd
  | some t =>
    rw [ht] at hd
    have : D.tup (encs t) = d := Option.some.inj hd
    exact ⟨t, rfl, this ▸ hr⟩
theorem flat_take_len {α β : Type} (f : α → List β) (l : List α) (k : Nat) : ((l.take k).flatMap f).length ≤ (l.flatMap f).length := by
  have e : l.flatMap f = (l.take k).flatMap f ++ (l.drop k).flatMap f := by rw [← List.flatMap_append, List.take_append_drop]
  rw [e, List.length_append]
  omega
theorem part_len {ts : List Thing} {i : Nat} {t : Thing} (h : ts[i]? = some t) (k : Nat) : (everyB (ts.take i) ++ t :: ((bodiesT t).take k).flatMap everyB).length ≤ cntB ts := by
  have e := congrArg List.length (everyB_take h)
  have h1 := cnt_take ts (i + 1)
  rw [everyB_len, List.length_append, List.length_cons] at e
  have h2 := flat_take_len everyB (bodiesT t) k
  rw [List.length_append, List.length_cons]
  omega
theorem flat_step {bs : List (List Thing)} {j : Nat} {b : List Thing} (h : bs[j]? = some b) : (bs.take (j + 1)).flatMap everyB = (bs.take j).flatMap everyB ++ everyB b := by
  rw [List.take_add_one, h, List.flatMap_append]
  show _ ++ (everyB b ++ []) = _
  rw [List.append_nil]
theorem encs_cons_append (a : List Thing) (t : Thing) (b : List Thing) : encs (a ++ t :: b) = encs a ++ enc t :: encs b := by rw [encs_append]; rfl
theorem flat_strs (zs : List Str) : (zs.map V.str).all flatV = true := by
  rw [List.all_eq_true]
  intro x hx
  obtain ⟨z, _, rfl⟩ := List.mem_map.mp hx
  rfl
def kindT : Thing → Str
  | .step _ => "step"
  | .loop _ _ _ _ => "for"
  | .test _ _ _ _ => "if"
  | .twice _ => "double"
  | .call _ _ => "call"
  | .again _ _ => "again"
theorem rp_kind {H : Hp} {v : V} {t : Thing} (h : Rp H v (enc t)) : ∃ a vs, v = .ref a ∧ H a = some (.tup (.str (kindT t) :: vs)) := by
  cases t with
  | step k =>
    obtain ⟨a, v1, v2, rfl, ha, rfl, _⟩ := rp_t2 h
    exact ⟨a, _, rfl, ha⟩
  | loop x e1 e2 b =>
    obtain ⟨a, v1, v2, v3, v4, v5, rfl, ha, rfl, _⟩ := rp_t5 h
    exact ⟨a, _, rfl, ha⟩
  | test e1 e2 x y =>
    obtain ⟨a, v1, v2, v3, v4, v5, rfl, ha, rfl, _⟩ := rp_t5 h
    exact ⟨a, _, rfl, ha⟩
  | twice b =>
    obtain ⟨a, v1, v2, rfl, ha, rfl, _⟩ := rp_t2 h
    exact ⟨a, _, rfl, ha⟩
  | call x e =>
    obtain ⟨a, v1, v2, v3, rfl, ha, rfl, _⟩ := rp_t3 h
    exact ⟨a, _, rfl, ha⟩
  | again k w =>
    obtain ⟨a, v1, v2, v3, rfl, ha, rfl, _⟩ := rp_t3 h
    exact ⟨a, _, rfl, ha⟩
/-- a comparison of two texts -/
theorem dec_str {x y : Str} (h : ¬ x = y) : decide (V.str x = V.str y) = false := decide_eq_false fun z => h (V.str.inj z)
theorem kind_call {t : Thing} (h : kindT t = "call") : ∃ x e, t = .call x e := by
  cases t with
  | call x e => exact ⟨x, e, rfl⟩
  | step k => exact absurd h (by show ¬ (("step" : Str) = "call"); decide +kernel)
  | loop x a b c => exact absurd h (by show ¬ (("for" : Str) = "call"); decide +kernel)
  | test x a b c => exact absurd h (by show ¬ (("if" : Str) = "call"); decide +kernel)
  | twice b => exact absurd h (by show ¬ (("double" : Str) = "call"); decide +kernel)
  | again k w => exact absurd h (by show ¬ (("again" : Str) = "call"); decide +kernel)
theorem kind_step {t : Thing} (h : kindT t = "step") : ∃ k, t = .step k := by
  cases t with
  | step k => exact ⟨k, rfl⟩
  | loop x a b c => exact absurd h (by show ¬ (("for" : Str) = "step"); decide +kernel)
  | test x a b c => exact absurd h (by show ¬ (("if" : Str) = "step"); decide +kernel)
  | twice b => exact absurd h (by show ¬ (("double" : Str) = "step"); decide +kernel)
  | call x e => exact absurd h (by show ¬ (("call" : Str) = "step"); decide +kernel)
  | again k w => exact absurd h (by show ¬ (("again" : Str) = "step"); decide +kernel)
theorem kind_if {t : Thing} (h : kindT t = "if") : ∃ x a b c, t = .test x a b c := by
  cases t with
  | step k => exact absurd h (by show ¬ (("step" : Str) = "if"); decide +kernel)
  | loop x a b c => exact absurd h (by show ¬ (("for" : Str) = "if"); decide +kernel)
  | test x a b c => exact ⟨x, a, b, c, rfl⟩
  | twice b => exact absurd h (by show ¬ (("double" : Str) = "if"); decide +kernel)
  | call x e => exact absurd h (by show ¬ (("call" : Str) = "if"); decide +kernel)
  | again k w => exact absurd h (by show ¬ (("again" : Str) = "if"); decide +kernel)
theorem kind_for {t : Thing} (h : kindT t = "for") : ∃ x a b c, t = .loop x a b c := by
  cases t with
  | step k => exact absurd h (by show ¬ (("step" : Str) = "for"); decide +kernel)
  | loop x a b c => exact ⟨x, a, b, c, rfl⟩
  | test x a b c => exact absurd h (by show ¬ (("if" : Str) = "for"); decide +kernel)
  | twice b => exact absurd h (by show ¬ (("double" : Str) = "for"); decide +kernel)
  | call x e => exact absurd h (by show ¬ (("call" : Str) = "for"); decide +kernel)
  | again k w => exact absurd h (by show ¬ (("again" : Str) = "for"); decide +kernel)
theorem kind_double {t : Thing} (h : kindT t = "double") : ∃ b, t = .twice b := by
  cases t with
  | step k => exact absurd h (by show ¬ (("step" : Str) = "double"); decide +kernel)
  | loop x a b c => exact absurd h (by show ¬ (("for" : Str) = "double"); decide +kernel)
  | test x a b c => exact absurd h (by show ¬ (("if" : Str) = "double"); decide +kernel)
  | twice b => exact ⟨b, rfl⟩
  | call x e => exact absurd h (by show ¬ (("call" : Str) = "double"); decide +kernel)
  | again k w => exact absurd h (by show ¬ (("again" : Str) = "double"); decide +kernel)
theorem kind_again {t : Thing} (h : kindT t = "again") : ∃ k w, t = .again k w := by
  cases t with
  | step k => exact absurd h (by show ¬ (("step" : Str) = "again"); decide +kernel)
  | loop x a b c => exact absurd h (by show ¬ (("for" : Str) = "again"); decide +kernel)
  | test x a b c => exact absurd h (by show ¬ (("if" : Str) = "again"); decide +kernel)
  | twice b => exact absurd h (by show ¬ (("double" : Str) = "again"); decide +kernel)
  | call x e => exact absurd h (by show ¬ (("call" : Str) = "again"); decide +kernel)
  | again k w => exact ⟨k, w, rfl⟩
def addC (acc : List Str) : Thing → List Str
  | .call x _ => if x ∈ acc then acc else acc ++ [x]
  | _ => acc
theorem addC_len (acc : List Str) (t : Thing) : (addC acc t).length ≤ acc.length + 1 := by
  cases t with
  | call x e =>
    show (if x ∈ acc then acc else acc ++ [x]).length ≤ _
    split
    · omega
    · rw [List.length_append]; exact Nat.le_refl _
  | _ => exact Nat.le_succ _
theorem foldC_len : ∀ (ts : List Thing) (acc : List Str), (ts.foldl addC acc).length ≤ acc.length + ts.length
  | [], _ => Nat.le_refl _
  | t :: r, acc => by
    have h1 := foldC_len r (addC acc t)
    have h2 := addC_len acc t
    rw [List.foldl_cons, List.length_cons]
    omega
theorem addC_no {acc : List Str} {t : Thing} (h : ¬ kindT t = "call") : addC acc t = acc := by
  cases t with
  | call x e => exact absurd rfl h
  | _ => rfl
def callsL (ts : List Thing) : List Str := (everyB ts).foldl addC []
/-- bodies_of(thing), _law_bodies(_law_thing) -/
def spBodies : Sp := fun vs H Q _ => ∃ (v : V) (t : Thing), vs = [v] ∧ Rp H v (enc t) ∧
  ∀ (p : Addr) (us : List V) (H' : Hp), Same H H' → H p = none → H' p = some (.lst us) → RpL H' us (encBs (bodiesT t)) → Q (.ref p) H'
/-- things_of(body), _law_every(_law_plan) -/
def spEvery (n : Nat) : Sp := fun vs H Q _ => ∃ (v : V) (ts : List Thing) (C : Str → Prop) (A : Prop) (sc : List Str), vs = [v] ∧ Rp H v (.tup (encs ts)) ∧ TsOk C A sc n ts ∧ cntB ts ≤ 1000 ∧
  ∀ (p : Addr) (us : List V) (H' : Hp), Same H H' → H p = none → H' p = some (.lst us) → RpL H' us (encs (everyB ts)) → Q (.ref p) H'
def prevE : Nat → Sp
  | 0 => fun _ _ _ _ => False
  | m + 1 => spEvery m
/-- calls_of(plan), _law_calls(_law_plan) -/
def spCalls (n : Nat) : Sp := fun vs H Q _ => ∃ (v : V) (ts : List Thing) (C : Str → Prop) (A : Prop) (sc : List Str), vs = [v] ∧ Rp H v (.tup (encs ts)) ∧ TsOk C A sc n ts ∧ cntB ts ≤ 1000 ∧
  ∀ (p : Addr) (H' : Hp), Same H H' → H p = none → H' p = some (.lst ((callsL ts).map V.str)) → Q (.ref p) H'
/-- _law_with_calls(draw, plan, names) -/
def spWith (n : Nat) : Sp := fun vs H Q _ => ∃ (d L nm : Addr) (v : V) (ts : List Thing) (ns : List Str) (sc : List Str), vs = [.ref d, v, .ref nm] ∧ Dr H d L ∧ Rp H v (.tup (encs ts)) ∧ TsOk CT False sc n ts ∧ ("n" : Str) ∈ sc ∧ cntB ts ≤ 1000 ∧
  H nm = some (.lst (ns.map V.str)) ∧ nm ≠ d ∧ ns ≠ [] ∧ ns.length < 100 ∧ (∀ x ∈ ns, nameB x = true) ∧
  ∀ (v' : V) (ts' : List Thing) (H' : Hp), (ts ≠ [] → ts' ≠ []) → Rp H' v' (.tup (encs ts')) → TsOk CT False sc n ts' → cntB ts' = cntB ts → Dr H' d L → Go (· = d) H H' → Q v' H'
def prevC : Nat → Sp
  | 0 => fun _ _ _ _ => False
  | m + 1 => spWith m
end OG

set_option Elab.async false
set_option linter.all false
set_option maxRecDepth 100000
set_option maxHeartbeats 4000000
namespace OGX
open PySem PySem.Spec PyProof.Rows L2 OG
/-! ### a tuple of any number of classes in an except clause -/
section
variable {M : Model} {A : Around} {E : Value → Shared → Prop} {s : Shared} {α : Type}
theorem loop_all {f : Value → α → Sem (ForInStep α)} {r : α} : ∀ {cs : List Value} {Q : α → Shared → Prop}, (∀ c ∈ cs, ∀ Q' : ForInStep α → Shared → Prop, Q' (.yield r) s → wpAny M A (f c r) Q' E s) → Q r s → wpAny M A (forIn cs r f) Q E s
  | [], Q, _, q => by
    simp only [List.forIn_nil]
    exact wpAny_pure q
  | c :: cs, Q, st, q => by
    simp only [List.forIn_cons]
    exact wpAny_bind (st c List.mem_cons_self _ (loop_all (fun d hd => st d (List.mem_cons_of_mem _ hd)) q))
theorem loop_find {f : Value → α → Sem (ForInStep α)} {r r1 : α} {b : Value → Bool} : ∀ {cs : List Value} {Q : α → Shared → Prop}, (∀ c ∈ cs, ∀ Q' : ForInStep α → Shared → Prop, Q' (if b c then .done r1 else .yield r) s → wpAny M A (f c r) Q' E s) → Q (if cs.any b then r1 else r) s → wpAny M A (forIn cs r f) Q E s
  | [], Q, _, q => by
    simp only [List.forIn_nil]
    exact wpAny_pure q
  | c :: cs, Q, st, q => by
    simp only [List.forIn_cons]
    refine wpAny_bind (st c List.mem_cons_self _ ?_)
    rw [List.any_cons] at q
    cases hb : b c with
    | true =>
      rw [hb, Bool.true_or, if_pos rfl] at q
      exact wpAny_pure q
    | false =>
      rw [hb, Bool.false_or] at q
      exact loop_find (fun d hd => st d (List.mem_cons_of_mem _ hd)) q
end
theorem exm_all {K : PySem.W.Frag} {cls : Value} : ∀ {cs : List Value} {b : Bool}, PySem.W.exmAny K cls cs = some b → (∀ c ∈ cs, ∃ d, PySem.W.exmOne K cls c = some d) ∧ b = cs.any (fun c => PySem.W.exmOne K cls c == some true)
  | [], b, h => ⟨fun c hc => (nomatch hc), (Option.some.inj h).symm⟩
  | c :: cs, b, h => by
    obtain ⟨b1, d1, h1, h2, rfl⟩ := PySem.W.exmAny_cons h
    obtain ⟨r1, r2⟩ := exm_all h2
    refine ⟨fun d hd => ?_, ?_⟩
    · rcases List.mem_cons.mp hd with rfl | hd
      · exact ⟨b1, h1⟩
      · exact r1 d hd
    · rw [List.any_cons, ← r2, h1]
      cases b1 <;> rfl
theorem exm_tups {M : Model} {K : PySem.W.Frag} {cs : List Value} {cls : Value} {tp e : Addr} {b : Bool} {h : Heap} (X : K.In h) (LT : PySem.W.Looks M h (typeOf (.ref e)) cls) (hp : h.get? tp = some { cls := .type "tuple", data := .seq cs.toArray }) (hx : PySem.W.exmAny K cls cs = some b) :
    PySem.W.Looks M h (excMatches (.ref e) (.ref tp)) b := by
  intro A Q E s k₀ q
  obtain ⟨hh, g, d, tk, os⟩ := s
  have k : ∀ b o, h.get? b = some o → hh.get? b = some o := k₀
  have LT0 : PySem.W.Looks M h (isInstance (.ref tp) (.type "tuple")) true := ((PySem.W.Looks.ld hp).andThen .now).andThen (PySem.W.Looks.of_pure isSubtype_tuple_tuple)
  obtain ⟨all, eb⟩ := exm_all hx
  have LT := LT.keeps k
  have LT0 := LT0.keeps k
  have hp' := k _ _ hp
  unfold excMatches
  refine wpAny_bind (LT0.at ?_)
  dsimp only
  rw [if_pos rfl]
  first
    | refine wpAny_bind (wpAny_seqItems hp' rfl ?_)
    | refine wpAny_bind (wpAny_bind (wpAny_seqItems hp' rfl (wpAny_pure ?_)))
  dsimp only [Option.getD_some, Option.getD]
  refine wpAny_bind (wpAny_pure ?_)
  refine wpAny_bind (loop_all (fun c hc Q' q' => ?_) ?_)
  · obtain ⟨d1, h1⟩ := all c hc
    obtain ⟨e1, _⟩ := PySem.W.exm_cls (M := M) X h1
    have e1 := e1.keeps k
    refine wpAny_bind (e1.at ?_)
    simp only [Bool.not_true, Bool.false_eq_true, if_false]
    exact wpAny_pure q'
  · refine wpAny_bind (LT.at ?_)
    refine wpAny_bind (loop_find (b := fun c => PySem.W.exmOne K cls c == some true) (r1 := (some true, ())) (fun c hc Q' q' => ?_) ?_)
    · obtain ⟨d1, h1⟩ := all c hc
      obtain ⟨_, s1⟩ := PySem.W.exm_cls (M := M) X h1
      have s1 := s1.keeps k
      rw [h1] at q'
      refine wpAny_bind (s1.at ?_)
      cases d1 with
      | true => exact wpAny_pure q'
      | false => exact wpAny_pure q'
    · rw [← eb]
      cases b with
      | true => exact wpAny_pure q
      | false => exact wpAny_pure q
/-! ### several except clauses, each with a name for what is caught: a class or a tuple of classes each; what stands behind the last one that is read is not reached -/
inductive NamesL (X : Cx) : List Expr → List Value → Prop where
  | nil : NamesL X [] []
  | cons {x : Str} {c : Value} {np : Pos} {es : List Expr} {cs : List Value} (h : Names X x c) (r : NamesL X es cs) : NamesL X (.Name x np :: es) (c :: cs)
inductive TestX (X : Cx) : Expr → List Value → Prop where
  | one {x : Str} {c : Value} {np : Pos} (h : Names X x c) : TestX X (.Name x np) [c]
  | tup {es : List Expr} {cs : List Value} {k : Nat} {tpos : Pos} (h : NamesL X es cs) (hl : cs.length ≤ sizeLine) : TestX X (.Tuple es k tpos) cs
section
variable {X : Cx} {pins : List (Addr × Obj)} {σ : L2.St} {H : Hp} {s : Shared}
theorem name_run {x : Str} {c : Value} {np : Pos} {a : Addr} {pn : List (Addr × Obj)} (S : L2.Inv (X.suite a pn) pins σ H s) (hc : Names X x c) {Q E : Value → Shared → Prop} (q : Q c s) : wpAny (model X.prog X.w) (X.A.mark (some (Value.ref a))) (eval (Expr.Name x np) X.env) Q E s := by
  obtain ⟨hg, hdbg, hm | ⟨hm, hv, hnn⟩⟩ := hc
  · exact ld_glob (X := X.suite a pn) S hg hm q hdbg
  · exact ld_blt (X := X.suite a pn) S hg hm hv q hnn hdbg
theorem names_run {a : Addr} {pn : List (Addr × Obj)} {pos : Pos} (S : L2.Inv (X.suite a pn) pins σ H s) {E : Value → Shared → Prop} {es : List Expr} {cs : List Value} (h : NamesL X es cs) : ∀ {Q : List Value → Shared → Prop}, Q cs s → wpAny (model X.prog X.w) (X.A.mark (some (Value.ref a))) (spliced (backTo pos (starEach es X.env))) Q E s := by
  induction h with
  | nil => exact fun q => wpAny_items_nil q
  | cons hc r ih => exact fun q => wpAny_items_cons (name_run S hc (ih q))
theorem test_run {a : Addr} {pn : List (Addr × Obj)} {cls : Value} {b : Bool} {te : Expr} {cs : List Value} (S : L2.Inv (X.suite a pn) pins σ H s) (h : TestX X te cs) (LT : PySem.W.Looks (model X.prog X.w) s.heap (typeOf (.ref a)) cls) (hx : PySem.W.exmAny X.K cls cs = some b)
    {Q : Bool → Shared → Prop} {E1 E2 : Value → Shared → Prop} (q : ∀ h', (∀ b o, s.heap.get? b = some o → h'.get? b = some o) → Q b { s with heap := h' }) :
    wpAny (model X.prog X.w) (X.A.mark (some (Value.ref a))) (eval te X.env) (fun c s₁ => wpAny (model X.prog X.w) (X.A.mark (some (Value.ref a))) (excMatches (.ref a) c) Q E1 s₁) E2 s := by
  have KX : X.K.In s.heap := S.kIn
  cases h with
  | one hc =>
    obtain ⟨b1, d1, h1, h2, eb⟩ := PySem.W.exmAny_cons hx
    have e2 : false = d1 := Option.some.inj h2
    subst e2
    rw [Bool.or_false] at eb
    subst eb
    exact name_run S hc ((PySem.W.exm_one (M := model X.prog X.w) KX LT h1).here (q s.heap fun _ _ z => z))
  | tup hc hl =>
    refine wpAny_Tuple (names_run S hc ⟨hl, ?_⟩)
    have kp : ∀ b o, s.heap.get? b = some o → (s.heap.push { cls := .type "tuple", data := .seq cs.toArray }).get? b = some o := fun _ _ z => Heap.get?_push_of_some _ z
    exact (exm_tups (KX.keeps kp) (LT.keeps kp) (Heap.get?_push_size s.heap rfl) hx).here (q _ kp)
end
theorem flying_kept {B : Heap} {stk : List Env} {a : Addr} {Z : Obj → Prop} {h h' : Heap} (k : ∀ b o, h.get? b = some o → h'.get? b = some o) (f : HandSPX.FlyingZ B stk a Z h) : HandSPX.FlyingZ B stk a Z h' := by
  obtain ⟨f1, f2, f3, oe, vs, T, oT, ts, he, hz, hd, h1, hnT, hTe, hT, hdT, h3⟩ := f
  exact ⟨fun b o e => k b o (f1 b o e), f2, f3.of_keeps fun b o e _ => ⟨o, k b o e, rfl⟩, oe, vs, T, oT, ts, k _ _ he, hz, hd, h1, hnT, hTe, k _ _ hT, hdT, h3⟩
abbrev Clause := List Value × Nat × (Addr → Value → Option Addr → TS)
inductive Hds (X : Cx) : List ExceptHandler → List Clause → Prop where
  | nil {hds : List ExceptHandler} : Hds X hds []
  | cons {te : Expr} {n : Str} {cs : List Value} {i : Nat} {ts : Addr → Value → Option Addr → TS} {b₀ : Stmt} {suite : List Stmt} {pos' : Pos} {hds : List ExceptHandler} {l : List Clause}
      (hi : X.N[i]? = some n) (hln : X.env.kindOf n = some NameKind.local) (hc : TestX X te cs)
      (hsu : ∀ (a : Addr) (oe : Obj) (cls : Value) (d : Option Addr) (pn : List (Addr × Obj)), Zc cls d oe → (∃ vs, oe.data = Data.fields vs) → PSs (X.suite a ((a, oe) :: pn)) (b₀ :: suite) (ts a cls d))
      (r : Hds X hds l) : Hds X (ExceptHandler.ExceptHandler (some te) (some n) (b₀ :: suite) pos' :: hds) ((cs, i, ts) :: l)
def outX (D : Ends) (i : Nat) : Ends := { nx := fun σ' H' => D.nx (List.set σ' i none) H', rt := D.rt, bk := fun σ' H' => D.bk (List.set σ' i none) H', ct := fun σ' H' => D.ct (List.set σ' i none) H' }
def wMany (K : PySem.W.Frag) (n : Nat) (D : Ends) : List Clause → WX
  | [] => fun _ _ _ _ => False
  | (cs, i, ts) :: r => fun cls d σ H => ∃ b, PySem.W.exmAny K cls cs = some b ∧ (b = true → σ.length = n → ∀ a, H a = none → ts a cls d (outX D i) (List.set σ i (some (.ref a))) H) ∧ (b = false → wMany K n D r cls d σ H)
theorem handle_X {X : Cx} (ok : X.Ok) (hN : X.N.Nodup) {pins : List (Addr × Obj)} {σ : L2.St} {H : Hp} {cls : Value} {d : Option Addr} {a : Addr} {B : Heap} {stk : List Env} {D : Ends}
    (na : H a = none) (nL : a ≠ X.env.locals) (nF : ¬ a ∈ X.fs) {hds : List ExceptHandler} {l : List Clause} (h : Hds X hds l) :
    ∀ {s3 : Shared}, HandSPX.FlyingZ B stk a (Zc cls d) s3.heap → L2.Inv X pins σ H s3 →
    (∀ h4, HandSPX.FlyingZ B stk a (Zc cls d) h4 → s3.heap.UpToSlots h4 → L2.Inv X pins σ H { s3 with heap := h4 }) →
    wMany X.K X.N.length D l cls d σ H → wpAny (model X.prog X.w) X.A (handleBy (Value.ref a) X.env hds) (SP X pins D) X.xe s3 := by
  induction h with
  | nil => exact fun _ _ _ w => w.elim
  | @cons te n cs i ts b₀ suite pos' hds l hi hln hc hsu r ih =>
    rintro s3 fl J3 land ⟨b, hb1, hyes, hno⟩
    obtain ⟨oe3, vs3, he3, hz3, hd3⟩ := HandSPX.FlyingZ.there fl
    have S3 := Inv.suite J3 he3 hd3 na nL nF
    refine wpAny_handleBy_cons (codeAny_handlers_test ?_) (by intro e; cases e)
    have LT : PySem.W.Looks (model X.prog X.w) s3.heap (typeOf (Value.ref a)) cls := fun A Q E s k q => wpAny_typeOf_ref (k a oe3 he3) (by rw [hz3.1]; exact q)
    refine test_run S3 hc LT hb1 fun h' kp => ?_
    have fl' := flying_kept kp fl
    have J' : L2.Inv X pins σ H { s3 with heap := h' } := J3.kept (t' := s3.toks) kp
    have land' : ∀ h4, HandSPX.FlyingZ B stk a (Zc cls d) h4 → h'.UpToSlots h4 → L2.Inv X pins σ H { s3 with heap := h4 } := fun h4 f4 u4 => land h4 f4 (Heap.UpToSlots.trans (fun b o e _ => ⟨o.slots, kp b o e⟩) u4)
    cases b with
    | false => exact ih fl' J' land' (hno rfl)
    | true =>
      refine codeAny_handlers_suite_as (HandSPX.lands_againZ fl' fun h4 fl4 up4 => ?_)
      have J4 := land' h4 fl4 up4
      obtain ⟨oe4, vs4, he4, hz4, hd4⟩ := HandSPX.FlyingZ.there fl4
      have S4 := Inv.suite J4 he4 hd4 na nL nF
      refine store_ok (X := X.suite a ((a, oe4) :: (X.pn ++ pins))) (v := .ref a) S4 hN hi (.inl hln) rfl (fun s5 S5 => ?_) (.inr hln)
      refine wpAny_mono ((hsu a oe4 cls d (X.pn ++ pins) hz4 ⟨vs4, hd4⟩).run [] s5 _ _ (outX D i) S5 (hyes rfl J3.len a na)) (fun f s6 hsp => ?_) (fun e s6 he => he.elim)
      cases f with
      | next =>
        obtain ⟨σ6, H6, S6, q6⟩ := hsp
        exact gone_ok (Inv.unsuite S6 ok) hN hi hln fun s7 J7 => ⟨_, H6, J7, q6⟩
      | brk =>
        obtain ⟨σ6, H6, S6, q6⟩ := hsp
        exact gone_ok (Inv.unsuite S6 ok) hN hi hln fun s7 J7 => ⟨_, H6, J7, q6⟩
      | cont =>
        obtain ⟨σ6, H6, S6, q6⟩ := hsp
        exact gone_ok (Inv.unsuite S6 ok) hN hi hln fun s7 J7 => ⟨_, H6, J7, q6⟩
      | ret u =>
        obtain ⟨v, σ6, H6, S6, r6, q6⟩ := hsp
        exact gone_ok (Inv.unsuite S6 ok) hN hi hln fun s7 J7 => ⟨v, _, H6, J7, r6, q6⟩
theorem ps_try_X {X : Cx} {body : List Stmt} {h₀ : ExceptHandler} {hds : List ExceptHandler} {l : List Clause} {pos : Pos} {tb : WX → TS}
    (hs : X.stack = X.env :: X.outer) (hf : X.env.frame = some X.env.locals) (hN : X.N.Nodup)
    (hb : ∀ (W : WX) (pn : List (Addr × Obj)) (xe : Value → Shared → Prop), Takes (X.tr pn xe) W → PassesOwn (model X.prog X.w) X.A X.env xe → PSs (X.tr pn xe) body (tb W))
    (hh : Hds X (h₀ :: hds) l) : PS X (Stmt.Try body (h₀ :: hds) [] [] pos) fun D σ H => tb (wMany X.K X.N.length D l) D σ H := by
  refine ⟨fun pins s σ H D I h => ?_⟩
  have ok := I.ok
  have hfr : X.A.frames = some (X.env :: X.outer) := by rw [ok.frames, hs]
  refine wpAny_Try_except (wpAny_mono ((hb (wMany X.K X.N.length D l) (X.pn ++ pins) _ (fun u s' xx => ?_) PassesOwn.looking).run [] s σ H D (Inv.toTry I _) h) (fun f s1 hsp => ?_) fun e s1 he => he)
  · obtain ⟨a, B, sI, pins', σ', H', cls, d, rfl, J', nb, up, sky, na, os, ag, w⟩ := xx
    have J := Inv.ofTry J' ok
    have sky' : Sky B (X.env :: X.outer) a (Zc cls d) X.env.locals s'.heap := by
      rw [← hs]
      exact sky
    refine Sky.land Zc.steady hfr hf sky' fun h3 fl3 up3 => ?_
    obtain ⟨oe3, vs3, he3, hz3, hd3⟩ := HandSPX.FlyingZ.there fl3
    have nfr : ¬ a ∈ List.filterMap (fun x => x.frame) (X.env :: X.outer) := fun hm => by
      obtain ⟨_, o', e', hnf⟩ := Heap.FunFrames.mem fl3.2.2.1 hm
      rw [he3] at e'
      cases e'
      exact hnf _ hd3
    have nL : a ≠ X.env.locals := fun z => nfr (List.mem_filterMap.mpr ⟨X.env, List.mem_cons_self, by rw [hf, z]⟩)
    have nF : ¬ a ∈ X.fs := fun hm => by
      obtain ⟨e, he, q⟩ := List.mem_filterMap.mp hm
      exact nfr (List.mem_filterMap.mpr ⟨e, List.mem_cons_of_mem X.env he, q⟩)
    exact handle_X (s3 := { heap := h3, gens := s'.gens, drawn := s'.drawn, toks := s'.toks, os := s'.os }) ok hN na nL nF hh fl3 (Inv.landed J nb fl3.1 (Heap.UpToSlots.trans up up3) os ag) (fun h4 fl4 up4 => Inv.landed J nb fl4.1 (Heap.UpToSlots.trans (Heap.UpToSlots.trans up up3) up4) os ag) w
  · cases f with
    | next =>
      obtain ⟨σ', H', J', q⟩ := hsp
      exact wpAny_execs_nil ⟨σ', H', Inv.ofTry J' ok, q⟩
    | brk =>
      obtain ⟨σ', H', J', q⟩ := hsp
      exact ⟨σ', H', Inv.ofTry J' ok, q⟩
    | cont =>
      obtain ⟨σ', H', J', q⟩ := hsp
      exact ⟨σ', H', Inv.ofTry J' ok, q⟩
    | ret u =>
      obtain ⟨v, σ', H', J', r, q⟩ := hsp
      exact ⟨v, σ', H', Inv.ofTry J' ok, r, q⟩
/-! ### a def read off a class of the program and called: C.m(o, ..) -/
theorem pe_cfun {X : Cx} {CX : CXT} {k : Nat} {C f : Addr} {mc : Value} {fd : FuncData} {ps : List Str} {sp : Sp} {dvs : List V} {ds : List Value} {E : XK} {x m : Str} {p apos pos : Pos} {e : Expr} {es : List Expr} {t : TA} {pl : Sem Bool}
    (F : FnOk X.prog X.w X.K X.mg X.base CX k f fd ps sp) (hr : Room k X.A) (hg : Gl X x) (hm : X.mg x = some (Value.ref C)) (r : ClX.CRead X.K C mc)
    (hv : PySem.W.findCls X.K (Value.ref C) mc m = some (PySem.W.CFound.val (Value.ref f))) (hk : PySem.W.keepIn X.K (Value.ref f) = true) (hb : L2.Binds X.K fd ps ds) (hd : Vals dvs ds) (hx : Passes CX X E) (ha : PA X (e :: es) t)
    (hdb : (x == Str.ofString "__debug__") = false := by rfl)
    (hst : starEach (e :: es) X.env = (false, eval e X.env) :: starEach es X.env := by rfl)
    (hpl : ((backTo pos (starEach es X.env)).any fun x => x.fst) = false := by rfl)
    (ht : eval (((Expr.Name x p).Attribute m apos).Call (e :: es) [] pos) X.env = (do
        let ov ← eval (Expr.Name x p) X.env
        standAt apos.atName
        let __x ← holding [ov] (getMethod ov m pl)
        match __x with
        | (f, first) => callWith pos f first (backTo pos (starEach (e :: es) X.env)) (backToKw pos (keywordEach [] X.env))) := by rfl) :
    PE X (((Expr.Name x p).Attribute m apos).Call (e :: es) [] pos) (tCall sp dvs E t) := by
  refine ⟨fun pins s σ H Q I h => ?_⟩
  refine PySem.W.methodCall_KW (ld_glob I hg hm ?_ hdb) ht
  refine PySem.W.method_cls (Inv.kIn I) r.ga (PySem.W.cls_value (Inv.kIn I) r.rd hv rfl ?_)
  have I1 := Inv.tok I (s.toks + 1)
  refine PySem.W.callWith_K I.ok.mod.kin hk ?_ hst hpl
  refine thn (ha.run pos pins _ σ H (fun vs H1 => sp (vs ++ dvs) H1 Q E) I1 h) fun us s1 z => ?_
  obtain ⟨vs, H1, I2, rv, q⟩ := z
  exact ⟨Inv.kIn I2, run_fn F hr hb hd hx I2 rv q⟩
end OGX

set_option Elab.async false
set_option linter.all false
set_option maxRecDepth 100000
set_option maxHeartbeats 4000000
namespace OGX
open PySem PySem.Spec PyProof.Rows L2 OG L2H
/-! ### a def called in an except suite: its promise is told of the exception that is handled -/
abbrev SpX := Addr → Value → Option Addr → Sp
structure FnX (P : Program) (w : World) (K : PySem.W.Frag) (mg : Str → Option Value) (base : Heap) (k : Nat) (f : Addr) (fd : FuncData) (ps : List Str) (sp : SpX) : Prop where
  len : ∀ a cls d vs H Q E, sp a cls d vs H Q E → vs.length = ps.length
  run : ∀ (A : Around) (outer : List Env) (s : Shared) (H : Hp) (args : Args) (us : List Value) (vs : List V) (Q : VK) (E : XK) (a : Addr) (oe : Obj) (cls : Value) (d : Option Addr), RoomH k A → Zc cls d oe → (∃ vs, oe.data = Data.fields vs) → PinOk outer H s (a, oe) → Env0 P w K mg base A outer s H → BindsTo s fd args (ps.zip us) → Vals vs us → sp a cls d vs H Q E →
    codeAny (model P w) A (.call (.ref f) args) (CR C8.CX0 outer P w H s Q E) s
theorem fn_ofX {P : Program} {w : World} {K : PySem.W.Frag} {mg : Str → Option Value} {base : Heap} {k : Nat} {f : Addr} {name qual : Str} {params : Arguments} {body : List Stmt} {scope : Scope} {dV kV doc pm cdv ct oc : Value} {an od : Option Addr}
    {osl : Array (Option Value)} {N ps : List Str} {sp : SpX} (lk : K.lookup f = some ⟨oc, od, .func (PySem.W.fnOf name qual params body scope dV kV doc pm an cdv ct), osl⟩) (hcd : PySem.W.codeIn K cdv qual = true) (S : FnScope N ps scope)
    (len : ∀ a cls d vs H Q E, sp a cls d vs H Q E → vs.length = ps.length)
    (hbody : ∀ (A : Around) (outer : List Env) (s : Shared) (H : Hp) (vs : List V) (Q : VK) (E : XK) (a : Addr) (oe : Obj) (cls : Value) (d : Option Addr), Zc cls d oe → (∃ vs, oe.data = Data.fields vs) → RoomH k (A.deeper (envOfC qual scope s.heap.objs.size f cdv)) → sp a cls d vs H Q E →
      ∃ t, PSs (cxH C8.CX0 P w K mg base N qual scope f cdv A outer s H E (a, oe)) body t ∧ t { nx := fun _ H' => Q .non H', rt := Q } (L2.start N vs) H) :
    FnX P w K mg base (k + 1) f (PySem.W.fnOf name qual params body scope dV kV doc pm an cdv ct) ps sp := by
  constructor
  · exact len
  intro A outer s H args us vs Q E a oe cls d room isZ isF pin around bound vals told
  have stays : ∀ {b : Addr} {o : Obj}, base.get? b = some o → s.heap.get? b = some o := fun {b o} z => (around.bs b o z).1
  have written : K.In s.heap := around.mod.kin.keeps fun _ _ z => stays z
  have kinds : ∀ y ∈ ps.zip us, scope.names.lookup y.1 = some .local ∨ (scope.names.lookup y.1 = some .cell ∧ ((cellsFrom (s.heap.objs.size + 1) scope.names []).lookup y.1).isSome = true) := by
    intro y hy
    have := S.par y.1 (List.of_mem_zip (a := y.1) (b := y.2) hy).1
    exact this.imp id fun z => And.intro z (PySem.W.cellsFrom_some _ _ _ (.inl z))
  refine codeAny_call_function room.depth (written _ _ lk) rfl S.co S.gen rfl (PySem.W.codeRec_of written hcd) (bound _ _ _ _ (wpAny_newFunctionEnv_cells S.kind kinds ?_))
  rintro env rfl s1 inside
  refine ⟨(around.mod.nolimit.keeps fun _ _ z => stays z).keeps inside.toInCall.keep, codeAny_func ?_⟩
  obtain ⟨reading, rule, holds⟩ := hbody A outer s H vs Q E a oe cls d isZ isF (room.deeper _) told
  have J0 := inv_startH (CX := C8.CX0) (E := E) S pin around (len _ _ _ _ _ _ _ told) vals inside
  have ran := rule.run [] s1 _ H _ J0 holds
  refine wpAny_mono ran ?_ fun _ _ z => z
  rintro (_ | _ | _ | u) s' ends
  all_goals first
    | (obtain ⟨v, σ', H', J, rv, z⟩ := ends; exact ⟨v, H', J.os, J.bare, J.base, J.hok, rv, z⟩)
    | (obtain ⟨σ', H', J, z⟩ := ends; exact ⟨V.non, H', J.os, J.bare, J.base, J.hok, rfl, z⟩)
    | (obtain ⟨_, _, _, z⟩ := ends; exact False.elim z)
def tCallX (sp : SpX) (a : Addr) (cls : Value) (d : Option Addr) (t : TA) : TE := fun σ H Q => t σ H fun vs H1 => sp a cls d vs H1 Q (fun _ _ _ => False)
section
variable {X : Cx} {k : Nat} {f a : Addr} {oe : Obj} {cls : Value} {d : Option Addr} {pn : List (Addr × Obj)} {fd : FuncData} {ps : List Str} {sp : SpX} {x : Str} {q pos : Pos} {e : Expr} {es : List Expr} {t : TA}
theorem pe_callX (F : FnX X.prog X.w X.K X.mg X.base k f fd ps sp) (hr : RoomH k X.A) (hz : Zc cls d oe) (hf : ∃ vs, oe.data = Data.fields vs) (hg : Gl X x) (hm : X.mg x = some (.ref f)) (hk : PySem.W.keepIn X.K (.ref f) = true) (hb : L2.Binds X.K fd ps [])
    (ha : PA (X.suite a ((a, oe) :: pn)) (e :: es) t) (hdb : (x == ("__debug__" : Str)) = false := by decide) (he : starEach (e :: es) X.env = (false, eval e X.env) :: starEach es X.env := by rfl) (hpl : (backTo pos (starEach es X.env)).any (·.1) = false := by rfl) :
    PE (X.suite a ((a, oe) :: pn)) (.Call (.Name x q) (e :: es) [] pos) (tCallX sp a cls d t) := by
  refine ⟨fun pins s σ H Q I h => ?_⟩
  refine wpAny_Call_Name_kw (ld_glob (X := X.suite a ((a, oe) :: pn)) I hg hm ?_ hdb)
  refine PySem.W.callWith_K (h₀ := X.base) I.ok.mod.kin hk (thn (ha.run pos pins s σ H _ I h) fun us s1 ⟨vs, H1, I1, r, q⟩ => ⟨I1.kIn, ?_⟩) he hpl
  have hl : us.length = ps.length := by rw [← r.length]; exact F.len _ _ _ _ _ _ _ q
  have b := hb s1 us I1.kIn (by rw [List.append_nil]; exact hl)
  rw [List.append_nil] at b
  have P1 := I1.pin (a, oe) (List.mem_append_left _ List.mem_cons_self)
  have hpin : PinOk X.stack H1 s1 (a, oe) := ⟨P1.1, P1.2.1, fun hm => (List.mem_cons.mp (I1.stkSub a hm)).elim P1.2.2.1 P1.2.2.2.1, P1.2.2.2.2⟩
  refine wpAny_call (codeAny_mono (F.run (X.suite a ((a, oe) :: pn)).A X.stack s1 H1 ⟨us, []⟩ us vs Q (fun _ _ _ => False) a oe cls d ⟨hr.dp, hr.un⟩ hz hf hpin I1.env0 b r q) fun r s' hq => ?_)
  cases r with
  | error e => exact (show False from hq).elim
  | ok fl =>
    cases fl with
    | ret u => exact I1.after hq
    | next => exact False.elim hq
    | brk => exact False.elim hq
    | cont => exact False.elim hq
end
/-! ### isinstance of an exception that has fields; its fields -/
def rIsX (K : PySem.W.Frag) (a : Addr) (cls : Value) (d : Option Addr) : List V → Hp → VK → Prop := fun xs H Q => ∃ (D dd : Addr) (fs : List (Str × V)) (c : V) (cv : Value) (b : Bool), xs = [.ref a, c] ∧ cls = .ref D ∧ d = some dd ∧ ExcC K D ∧ H dd = some (.xd fs) ∧ (∀ u, RelV c u → u = cv) ∧ PySem.W.kitOne K (.ref D) cv = some b ∧ Q (.bl b) H
section
variable {X : Cx} {a : Addr} {oe : Obj} {cls : Value} {d : Option Addr}
theorem call_isX (hp : (a, oe) ∈ X.pn) (hz : Zc cls d oe) (hf : ∃ vs, oe.data = .fields vs) : CallR X (.builtin "isinstance") (rIsX X.K a cls d) := by
  intro pins s σ H xs us Q I r h
  obtain ⟨D, dd, fs, c, cv, b, rfl, rfl, rfl, C, ea, hcv, e, q⟩ := h
  cases r with
  | cons rx rr =>
    cases rr with
    | cons rt rr =>
      cases rr
      cases rx
      have ec := hcv _ rt
      subst ec
      obtain ⟨hget, _⟩ := I.pin (a, oe) (List.mem_append.mpr (.inl hp))
      obtain ⟨vs, hv⟩ := hf
      have hx : ObjOk X.prog X.w H s.heap dd (.xd fs) := I.hok dd _ ea
      obtain ⟨mA, hns, hr⟩ := hx
      obtain ⟨od, ho, hl⟩ := lookIn_ns hns
      have J : PySem.W.InstAt s.heap a oe D (some od) := ⟨hget, hz.1, by unfold PySem.W.notCls; rw [hv] <;> rfl, by rw [hz.2]; exact ho⟩
      have hcl : (PySem.W.clsIn X.K D).isSome = true := by
        have hd := C.hd
        unfold PySem.W.hasDictIn at hd
        cases hc : PySem.W.clsIn X.K D with
        | none => rw [hc] at hd; cases hd
        | some _ => rfl
      exact PySem.W.kia_one (PySem.W.kitx_exc hcl C.hg C.hk C.hs C.ha C.hn C.ht C.hm) I.kIn J e (fun z => nomatch z) fun tk => ⟨.bl b, H, I.kept (t' := tk) fun _ _ z => z, rfl, q⟩
theorem pe_xfX {C : Addr} {e : Expr} {te : TE} {pos : Pos} {n : Str} (hp : (a, oe) ∈ X.pn) (T : XfC X.K C) (hno : PySem.W.findIn X.K (.ref C) n = some none) (hz : Zc cls d oe) (hf : ∃ vs, oe.data = .fields vs) (he : PE X e te)
    (hb : attributeBase e n X.env (eval e X.env) = eval e X.env := by rfl) : PE X (.Attribute e n pos) (tXf a cls d C n te) := by
  have field : ∀ {pins : List (Addr × Obj)} {s1 : Shared} {σ : L2.St} {H1 : Hp} {Q : VK} {dd : Addr} {fs : List (Str × V)} {v : V}, L2.Inv X pins σ H1 s1 → H1 dd = some (.xd fs) → fs.lookup n = some v → Zc (.ref C) (some dd) oe → Q v H1 →
      wpAny (model X.prog X.w) X.A (getAttr (.ref a) n true) (EP X pins σ Q) X.xe s1 := fun {pins s1 σ H1 Q dd fs v} J1 hdd hlk hzz hq => by
    obtain ⟨fvs, hfv⟩ := hf
    have there := (J1.pin (a, oe) (List.mem_append_left _ hp)).1
    have dct : ObjOk X.prog X.w H1 s1.heap dd (.xd fs) := J1.hok dd _ hdd
    obtain ⟨names, isNs, told⟩ := dct
    obtain ⟨dobj, dget, dlook⟩ := lookIn_ns isNs
    have rel := told n
    rw [hlk] at rel
    obtain ⟨fval, hfval, rfval⟩ := RelO.some_of rel
    have inst : PySem.W.InstAt s1.heap a oe C (some dobj) := ⟨there, hzz.1, (by unfold PySem.W.notCls; rw [hfv]), (by rw [hzz.2]; exact dget)⟩
    have found : PySem.W.findObj X.K C (some dobj) n = some (.value fval) := PySem.W.findObj_own T.hdC hno rfl (by rw [dlook n, hfval])
    exact HandSPX.exc_get J1.kIn inst T.ga T.gg T.exC found (handed_of rfval) ⟨v, H1, J1.tok _, rfval, hq⟩
  constructor
  intro pins s σ H Q I h
  have base := he.run pins s σ H _ I h
  refine attr_of hb (thn base ?_)
  rintro u s1 ⟨x, H1, J1, rx, rfl, rfl, dd, fs, v, rfl, hdd, hlk, hq⟩
  cases rx
  exact field J1 hdd hlk hz hq
end
end OGX

set_option Elab.async false
set_option linter.all false
set_option maxRecDepth 100000
set_option maxHeartbeats 4000000
namespace OGX
open PySem PySem.Spec PyProof.Rows L2 OG
/-! ### an exception of the program's own, made with no argument: C() -/
/-- what its __init__ must promise -/
def tMk0 (C : Addr) (sp : Sp) : L2.St → Hp → XK → Prop := fun _ H Q => ∀ a, H a = none → sp [.ref a] (upd H a (exo a C none))
  (fun v G => v = .non ∧ ∃ (dd : Addr) (fl : List (Str × V)), G a = some (exo a C (some dd)) ∧ G dd = some (exd dd fl) ∧ H dd = none ∧ Q (.ref C) (some dd) (upd (del G a) dd (.xd fl))) (fun _ _ _ => False)
theorem pmk_oex0 {X : Cx} {CX : CXT} {x : Str} {C g : Addr} {k : Nat} {fd : FuncData} {sp : Sp} {p pos : Pos} (cl : OexC X.K C) (ini : PySem.W.findIn X.K (.ref C) "__init__" = some (some (.ref g))) (isf : PySem.W.typeIn X.K (.ref g) = some (.type "function"))
    (ok : FnOk X.prog X.w X.K X.mg X.base CX k g fd ["self"] sp) (room : Room (k + 1) X.A) (bd : L2.Binds X.K fd ["self"] []) (pass : Passes CX X (fun _ _ _ => False)) (gl : Gl X x) (at_ : X.mg x = some (.ref C)) (nd : (x == ("__debug__" : Str)) = false := by decide) :
    PMk X (.Call (.Name x p) [] [] pos) (tMk0 C sp) := by
  intro pins s0 σ H Q inv told
  obtain ⟨_, _, _, _, bm, _, _, _, _, _, _, _, _, _, _, isC, refs⟩ := cl.cls
  refine wpAny_Call_Name_kw (ld_glob inv gl at_ ?_ nd)
  refine PySem.W.callWith_K0 inv.kIn cl.kC ?_
  obtain ⟨hh, gn, dw, tk, oss⟩ := s0
  let top : Addr := hh.objs.size + 1
  let grown : Heap := (hh.push (PySem.W.kdv_tup [])).push (PySem.HandSPX.excO C hh.objs.size)
  have above : hh.objs.size ≤ top := Nat.le_succ _
  have free : H top = none := inv.hok.fresh above
  have mine := told top free
  have keeps : ∀ b o, hh.get? b = some o → grown.get? b = some o := fun b o z => by
    have z1 := Heap.get?_push_of_some (PySem.W.kdv_tup []) z
    exact Heap.get?_push_of_some _ z1
  have there : grown.get? top = some (PySem.HandSPX.excO C hh.objs.size) := by
    show ((hh.push (PySem.W.kdv_tup [])).push (PySem.HandSPX.excO C hh.objs.size)).get? (hh.objs.size + 1) = _
    heap_get
  have inv2 : L2.Inv X pins σ (upd H top (exo top C none)) ⟨grown, gn, dw, tk, oss⟩ := inv.laid (t' := tk) (h' := grown) keeps above (exo_ok there)
  have vals : Vals [V.ref top] [Value.ref top] := .cons rfl .nil
  have one : ([Value.ref top] ++ ([] : List Value)).length = ["self"].length := rfl
  have bound := bd _ [Value.ref top] inv2.kIn one
  have ran := ok.run _ X.stack _ _ ⟨[Value.ref top], []⟩ [Value.ref top] [V.ref top] _ (fun _ _ _ => False) (room.make C [] []) (inv2.env0.make C [] []) bound vals mine
  show wpAny _ _ (call (.ref C) []) _ _ _
  have few : ([] : List Value).length ≤ sizeLine := Nat.zero_le _
  refine wpAny_call (PySem.HandSPX.call_own F.excBase_ValueError (fun Y => PySem.HandSPX.refsVE_contains Y bm refs) (inv.kIn _ _ isC) (PySem.W.looks_findIn inv.kIn ini) (fun me => PySem.W.bind_fn inv.kIn me isf) few (codeAny_mono ran ?_))
  rintro (er | fl) s' ends
  · exact pass pins σ _ _ er s' inv2 ends
  · cases fl with
    | ret u =>
      obtain ⟨v, G, os2, bare, un, hok, rel, rfl, dd, fs, h1, h2, h3, h4⟩ := ends
      obtain ⟨_, _, _, _, _⟩ := s'
      exact ⟨rel, mk_end (raises_own cl.exC cl.tyC) inv above keeps un hok os2 bare h1 h2 h3 h4⟩
    | next => exact absurd ends id
    | brk => exact absurd ends id
    | cont => exact absurd ends id
end OGX

set_option Elab.async false
set_option linter.all false
set_option maxRecDepth 100000
set_option maxHeartbeats 4000000
namespace OG
open PySem PySem.Spec PyProof.Rows L2
/-! ### plans of any names: how deep, and what stands where a name is wanted -/
def NmOk (x : Str) : Prop := x = "n" ∨ nameB x = true
def EnOk (e : Str × Int) : Prop := e.1 = "" ∨ NmOk e.1
mutual
def ShT : Nat → Thing → Prop
  | _, .step _ => True
  | n, .loop x a b body => nameB x = true ∧ EnOk a ∧ EnOk b ∧ ∃ m, n = m + 1 ∧ ShB m body
  | n, .test a b x y => EnOk a ∧ EnOk b ∧ ∃ m, n = m + 1 ∧ ShB m x ∧ ShB m y
  | n, .twice b => ∃ m, n = m + 1 ∧ ShB m b
  | _, .call _ e => EnOk e
  | _, .again _ _ => True
def ShB : Nat → List Thing → Prop
  | _, [] => True
  | n, t :: r => ShT n t ∧ ShB n r
end
theorem shb_iff {n : Nat} : ∀ ts : List Thing, ShB n ts ↔ ∀ t ∈ ts, ShT n t
  | [] => ⟨fun _ _ h => (by cases h), fun _ => trivial⟩
  | t :: r => by
    show (ShT n t ∧ ShB n r) ↔ _
    rw [shb_iff r]
    constructor
    · rintro ⟨h1, h2⟩ u hu
      rcases List.mem_cons.mp hu with rfl | hu
      · exact h1
      · exact h2 u hu
    · intro h
      exact ⟨h t List.mem_cons_self, fun u hu => h u (List.mem_cons_of_mem _ hu)⟩
theorem shb_append {n : Nat} {a b : List Thing} (h : ShB n a) (k : ShB n b) : ShB n (a ++ b) := by
  rw [shb_iff] at h k ⊢
  intro t ht
  rcases List.mem_append.mp ht with h1 | h1
  · exact h t h1
  · exact k t h1
theorem shb_take {n : Nat} {a : List Thing} (h : ShB n a) (k : Nat) : ShB n (a.take k) := by
  rw [shb_iff] at h ⊢
  exact fun t ht => h t (List.mem_of_mem_take ht)
theorem shb_drop {n : Nat} {a : List Thing} (h : ShB n a) (k : Nat) : ShB n (a.drop k) := by
  rw [shb_iff] at h ⊢
  exact fun t ht => h t (List.mem_of_mem_drop ht)
theorem en_of {sc : List Str} {e : Str × Int} (hs : ScOk sc) (h : EndOk sc e) : EnOk e := by
  rcases h with ⟨h1, _⟩ | ⟨h1, _⟩
  · exact .inl h1
  · exact .inr (hs _ h1)
mutual
theorem sh_of {C : Str → Prop} {A : Prop} : ∀ (t : Thing) (sc : List Str) (n : Nat), TOk C A sc n t → ScOk sc → ShT n t
  | .step _, _, _, _, _ => trivial
  | .loop x a b body, sc, n, h, hs => by
    obtain ⟨h1, h2, h3, h4, h5, m, e, h6⟩ := h
    exact ⟨h1, en_of hs h3, en_of hs h4, m, e, shs_of body _ _ h6 (scOk_snoc hs h1)⟩
  | .test a b x y, sc, n, h, hs => by
    obtain ⟨h3, h4, h5, m, e, h6, h7⟩ := h
    exact ⟨en_of hs h3, en_of hs h4, m, e, shs_of x _ _ h6 hs, shs_of y _ _ h7 hs⟩
  | .twice b, sc, n, h, hs => by
    obtain ⟨h5, m, e, h6⟩ := h
    exact ⟨m, e, shs_of b _ _ h6 hs⟩
  | .call x e, sc, n, h, hs => en_of hs h.2.2
  | .again _ _, _, _, _, _ => trivial
theorem shs_of {C : Str → Prop} {A : Prop} : ∀ (ts : List Thing) (sc : List Str) (n : Nat), TsOk C A sc n ts → ScOk sc → ShB n ts
  | [], _, _, _, _ => trivial
  | t :: r, sc, n, h, hs => ⟨sh_of t sc n h.1 hs, shs_of r sc n h.2 hs⟩
end
theorem nm_len {x : Str} (h : NmOk x) : x.length ≤ 8 := by
  rcases h with rfl | h
  · decide +kernel
  · exact (name_len h).2
theorem en_len {e : Str × Int} (h : EnOk e) : e.1.length ≤ 8 := by
  rcases h with h | h
  · rw [h]
    decide +kernel
  · exact nm_len h
theorem name_ne_n {x : Str} (h : nameB x = true) : x ≠ "n" := fun z => name_kept h (by rw [z]; decide +kernel)
/-! ### what a plan is refused by -/
inductive Rf where
  | nam (x : Str)
  | two (x : Str)
  | mis
def encRf : Rf → D
  | .nam x => .tup [.str "NoName", .str x]
  | .two x => .tup [.str "Twice", .str x]
  | .mis => .tup [.str "Misplaced", .non]
def encO : Option Rf → D
  | none => .non
  | some r => encRf r
def encL : Option Rf → D
  | none => .tup [.str "told", .non]
  | some r => encRf r
def fldR : Rf → List (Str × V)
  | .nam x => [("name", .str x), ("word", .str "NoName")]
  | .two x => [("name", .str x), ("word", .str "Twice")]
  | .mis => [("word", .str "Misplaced")]
def wordR : Rf → Str
  | .nam _ => "NoName"
  | .two _ => "Twice"
  | .mis => "Misplaced"
def lookE (sc : List Str) (e : Str × Int) : Option Rf := if e.1 ≠ "" ∧ e.1 ∉ sc then some (.nam e.1) else none
mutual
def lookT : List Str → Thing → Option Rf
  | _, .step _ => none
  | sc, .loop x a b body => (if x ∈ sc then some (.two x) else none).or ((lookE sc a).or ((lookE sc b).or (lookB (sc ++ [x]) body)))
  | sc, .test a b x y => (lookE sc a).or ((lookE sc b).or ((lookB sc x).or (lookB sc y)))
  | sc, .twice b => lookB sc b
  | sc, .call _ e => lookE sc e
  | _, .again _ _ => some .mis
def lookB : List Str → List Thing → Option Rf
  | _, [] => none
  | sc, t :: r => (lookT sc t).or (lookB sc r)
end
/-- an again at the top: where it is bad by itself -/
def badA (k : Int) (w : Str) : Bool := decide (w = "less") && decide (1 < k)
def lookA : Thing → Option Rf
  | .again k w => if badA k w = true then some .mis else none
  | t => lookT ["n"] t
def isAg : Thing → Bool
  | .again _ _ => true
  | _ => false
def lookP : Nat → List Thing → Option Rf
  | _, [] => none
  | g, t :: r => (lookA t).or ((if isAg t = true ∧ 1 ≤ g then some .mis else none).or (lookP (if isAg t = true then g + 1 else g) r))
/-! ### how a look ends: all stands, or it is refused -/
def Out (c : Rf → Addr) (o : Option Rf) (H : Hp) (Q : VK) (E : XK) : Prop :=
  match o with
  | none => ∀ H', Same H H' → Q .non H'
  | some r => ∀ dd H', Same H H' → H dd = none → H' dd = some (.xd (fldR r)) → E (.ref (c r)) (some dd) H'
theorem Out.to {c : Rf → Addr} {o : Option Rf} {H H1 : Hp} {Q : VK} {E : XK} (h : Out c o H Q E) (s : Same H H1) : Out c o H1 Q E := by
  cases o with
  | none => exact fun H' s' => h H' (s.trans s')
  | some r => exact fun dd H' s' nd hd => h dd H' (s.trans s') (s.free nd) hd
theorem Out.first {c : Rf → Addr} {a b : Option Rf} {H : Hp} {Q R : VK} {E : XK} (h : Out c (a.or b) H Q E) (k : a = none → ∀ H1, Same H H1 → Out c b H1 Q E → R .non H1) : Out c a H R E := by
  cases a with
  | none => exact fun H' s => k rfl H' s (Out.to (o := b) (by simpa using h) s)
  | some r => exact fun dd H' s nd hd => h dd H' s nd hd
theorem look_drop {sc : List Str} {ts : List Thing} {i : Nat} {t : Thing} (h : ts[i]? = some t) : lookB sc (ts.drop i) = (lookT sc t).or (lookB sc (ts.drop (i + 1))) := by
  obtain ⟨hi, e⟩ := List.getElem?_eq_some_iff.mp h
  rw [List.drop_eq_getElem_cons hi, e]
  rfl
theorem lookP_drop {g : Nat} {ts : List Thing} {i : Nat} {t : Thing} (h : ts[i]? = some t) : lookP g (ts.drop i) = (lookA t).or ((if isAg t = true ∧ 1 ≤ g then some .mis else none).or (lookP (if isAg t = true then g + 1 else g) (ts.drop (i + 1)))) := by
  obtain ⟨hi, e⟩ := List.getElem?_eq_some_iff.mp h
  rw [List.drop_eq_getElem_cons hi, e]
  rfl
/-! ### the contracts -/
/-- names around as a tuple at ar; n stands ahead of them where it is asked -/
def spLkEnd (c : Rf → Addr) : Sp := fun vs H Q E => ∃ (v : V) (ar : Addr) (e : Str × Int) (sc : List Str), vs = [v, .ref ar] ∧ Rp H v (encE e) ∧ EnOk e ∧ H ar = some (.tup (sc.map V.str)) ∧ Out c (lookE ("n" :: sc) e) H Q E
def spLkThing (c : Rf → Addr) (kind : Thing → Prop) (n : Nat) : Sp := fun vs H Q E => ∃ (v : V) (ar : Addr) (t : Thing) (sc : List Str), vs = [v, .ref ar] ∧ kind t ∧ Rp H v (enc t) ∧ ShT n t ∧ H ar = some (.tup (sc.map V.str)) ∧ sc.length + n ≤ 30 ∧ Out c (lookT ("n" :: sc) t) H Q E
def spLkBody (c : Rf → Addr) (n : Nat) : Sp := fun vs H Q E => ∃ (v : V) (ar : Addr) (ts : List Thing) (sc : List Str), vs = [v, .ref ar] ∧ Rp H v (.tup (encs ts)) ∧ ShB n ts ∧ H ar = some (.tup (sc.map V.str)) ∧ sc.length + n ≤ 30 ∧ Out c (lookB ("n" :: sc) ts) H Q E
def spLkAgain (c : Rf → Addr) : Sp := fun vs H Q E => ∃ (v : V) (k : Int) (w : Str) (g : Nat), vs = [v, .int g] ∧ Rp H v (enc (.again k w)) ∧ Out c (if 1 < g ∨ badA k w = true then some .mis else none) H Q E
def spLkPlan (c : Rf → Addr) (n : Nat) : Sp := fun vs H Q E => ∃ (v : V) (ts : List Thing), vs = [v] ∧ Rp H v (.tup (encs ts)) ∧ ShB n ts ∧ n ≤ 20 ∧ Out c (lookP 0 ts) H Q E
/-- the law's own look -/
def lawT (dp : Nat) (sc : List Str) : Thing → Option Rf
  | .again k w => if 0 < dp ∨ badA k w = true then some .mis else none
  | t => lookT sc t
theorem lawT_in {dp : Nat} {sc : List Str} (t : Thing) : lawT (dp + 1) sc t = lookT sc t := by
  cases t with
  | again k w =>
    show (if 0 < dp + 1 ∨ badA k w = true then some Rf.mis else none) = some Rf.mis
    rw [if_pos (.inl (by omega))]
  | _ => rfl
theorem lawT_top (t : Thing) : lawT 0 ["n"] t = lookA t := by
  cases t with
  | again k w =>
    show (if 0 < 0 ∨ badA k w = true then some Rf.mis else none) = (if badA k w = true then some Rf.mis else none)
    by_cases h : badA k w = true
    · rw [if_pos (.inr h), if_pos h]
    · rw [if_neg (fun z => z.elim (by omega) h), if_neg h]
  | _ => rfl
def spLwThing (n : Nat) : Sp := fun vs H Q _ => ∃ (v : V) (l : Addr) (t : Thing) (sc : List Str) (dp : Nat), vs = [v, .ref l, .int dp] ∧ Rp H v (enc t) ∧ ShT n t ∧ H l = some (.lst (sc.map V.str)) ∧ sc.length + n ≤ 30 ∧ ∀ u H', Same H H' → Rp H' u (encO (lawT dp sc t)) → Q u H'
def prevLw : Nat → Sp
  | 0 => fun _ _ _ _ => False
  | m + 1 => spLwThing m
def spLooking (n : Nat) : Sp := fun vs H Q _ => ∃ (v : V) (ts : List Thing), vs = [v] ∧ Rp H v (.tup (encs ts)) ∧ ShB n ts ∧ n ≤ 20 ∧ ∀ u H', Same H H' → Rp H' u (encL (lookP 0 ts)) → Q u H'
/-- _law_unfit(draw, plan, names), _law_unfit_thing(draw, thing, names) -/
def NmsAt (H : Hp) (nm : Addr) (ns : List Str) : Prop := H nm = some (.lst (ns.map V.str)) ∧ 3 ≤ ns.length ∧ ns.length < 1000 ∧ (∀ x ∈ ns, NmOk x) ∧ ∀ x ∈ ns.drop 2, nameB x = true
def spUnThing (n : Nat) : Sp := fun vs H Q _ => ∃ (d L nm : Addr) (v : V) (t : Thing) (ns : List Str), vs = [.ref d, v, .ref nm] ∧ Dr H d L ∧ Rp H v (enc t) ∧ ShT n t ∧ cntT t ≤ 1000 ∧ NmsAt H nm ns ∧ nm ≠ d ∧
  ∀ (v' : V) (t' : Thing) (H' : Hp), Rp H' v' (enc t') → ShT n t' → cntT t' = cntT t → Dr H' d L → Go (· = d) H H' → Q v' H'
def spUnBody (n : Nat) : Sp := fun vs H Q _ => ∃ (d L nm : Addr) (v : V) (ts : List Thing) (ns : List Str), vs = [.ref d, v, .ref nm] ∧ Dr H d L ∧ Rp H v (.tup (encs ts)) ∧ ShB n ts ∧ cntB ts ≤ 1000 ∧ NmsAt H nm ns ∧ nm ≠ d ∧
  ∀ (v' : V) (ts' : List Thing) (H' : Hp), Rp H' v' (.tup (encs ts')) → ShB n ts' → cntB ts' = cntB ts → Dr H' d L → Go (· = d) H H' → Q v' H'
def prevUn : Nat → Sp
  | 0 => fun _ _ _ _ => False
  | m + 1 => spUnBody m
theorem NmsAt.go {H H' : Hp} {d nm : Addr} {ns : List Str} (h : NmsAt H nm ns) (g : Go (· = d) H H') (n : nm ≠ d) : NmsAt H' nm ns := ⟨g.at h.1 n, h.2⟩
theorem NmsAt.same {H H' : Hp} {nm : Addr} {ns : List Str} (h : NmsAt H nm ns) (g : Same H H') : NmsAt H' nm ns := ⟨g _ _ h.1, h.2⟩
theorem enc_fitL (o : Option Rf) : depD (encL o) ≤ 20 ∧ fitD (encL o) := by
  cases o with
  | none => exact ⟨by decide, ⟨by show 2 < 100000; decide, trivial, trivial, trivial⟩⟩
  | some r => cases r <;> exact ⟨by show 1 ≤ 20; decide, ⟨by show 2 < 100000; decide, trivial, trivial, trivial⟩⟩
end OG
namespace OG
open PySem PySem.Spec PyProof.Rows L2
/-! ### the law's look in its parts -/
def headT (sc : List Str) : Thing → Option Rf
  | .loop x _ _ _ => if x ∈ sc then some (.two x) else none
  | _ => none
def endsT : Thing → List (Str × Int)
  | .loop _ a b _ => [a, b]
  | .test a b _ _ => [a, b]
  | .call _ e => [e]
  | _ => []
def lookEs (sc : List Str) : List (Str × Int) → Option Rf
  | [] => none
  | e :: r => (lookE sc e).or (lookEs sc r)
def agT (dp : Nat) : Thing → Option Rf
  | .again k w => if 0 < dp ∨ badA k w = true then some .mis else none
  | _ => none
def scIn (sc : List Str) : Thing → List Str
  | .loop x _ _ _ => sc ++ [x]
  | _ => sc
def lookBs (sc : List Str) : List (List Thing) → Option Rf
  | [] => none
  | b :: r => (lookB sc b).or (lookBs sc r)
theorem lawT_split (dp : Nat) (sc : List Str) (t : Thing) : lawT dp sc t = (headT sc t).or ((lookEs sc (endsT t)).or ((agT dp t).or (lookBs (scIn sc t) (bodiesT t)))) := by
  cases t with
  | step k => rfl
  | loop x a b body => simp [lawT, lookT, headT, lookEs, endsT, agT, lookBs, scIn, bodiesT, Option.or_assoc]
  | test a b x y => simp [lawT, lookT, headT, lookEs, endsT, agT, lookBs, scIn, bodiesT, Option.or_assoc]
  | twice b => simp [lawT, lookT, headT, lookEs, endsT, agT, lookBs, scIn, bodiesT]
  | call x e => simp [lawT, lookT, headT, lookEs, endsT, agT, lookBs, scIn, bodiesT]
  | again k w => simp [lawT, headT, lookEs, endsT, agT, lookBs, bodiesT]
def Due (o : Option Rf) (H : Hp) (Q : VK) : Prop := ∀ u H', Same H H' → Rp H' u (encO o) → Q u H'
theorem Due.to {o : Option Rf} {H H1 : Hp} {Q : VK} (h : Due o H Q) (s : Same H H1) : Due o H1 Q := fun u H' s' r => h u H' (s.trans s') r
theorem Due.rest {a b : Option Rf} {H : Hp} {Q : VK} (h : Due (a.or b) H Q) (e : a = none) : Due b H Q := by
  rw [e, Option.none_or] at h
  exact h
theorem Due.now {a b : Option Rf} {H : Hp} {Q : VK} {r : Rf} (h : Due (a.or b) H Q) (e : a = some r) : Due (some r) H Q := by
  rw [e, Option.some_or] at h
  exact h
theorem rpl_encs {α : Type} {H : Hp} {f : α → D} {vs : List V} {es : List α} (h : RpL H vs (es.map f)) {i : Nat} {x : V} (hx : vs[i]? = some x) : ∃ e, es[i]? = some e ∧ Rp H x (f e) := by
  obtain ⟨d, hd, hr⟩ := h.get hx
  rw [List.getElem?_map] at hd
  cases ht : es[i]? with
  | none => rw [ht] at hd; cases hd
  | some t =>
    rw [ht] at hd
    have : f t = d := Option.some.inj hd
    exact ⟨t, rfl, this ▸ hr⟩
theorem es_drop {sc : List Str} {es : List (Str × Int)} {i : Nat} {e : Str × Int} (h : es[i]? = some e) : lookEs sc (es.drop i) = (lookE sc e).or (lookEs sc (es.drop (i + 1))) := by
  obtain ⟨hi, e1⟩ := List.getElem?_eq_some_iff.mp h
  rw [List.drop_eq_getElem_cons hi, e1]
  rfl
theorem bs_drop {sc : List Str} {bs : List (List Thing)} {i : Nat} {b : List Thing} (h : bs[i]? = some b) : lookBs sc (bs.drop i) = (lookB sc b).or (lookBs sc (bs.drop (i + 1))) := by
  obtain ⟨hi, e1⟩ := List.getElem?_eq_some_iff.mp h
  rw [List.drop_eq_getElem_cons hi, e1]
  rfl
theorem sh_bodies {n : Nat} {t : Thing} (h : ShT n t) : ∀ b ∈ bodiesT t, ∃ m, n = m + 1 ∧ ShB m b := by
  cases t with
  | step k => intro b hb; cases hb
  | loop x e1 e2 body =>
    obtain ⟨_, _, _, m, e, h6⟩ := h
    intro b hb
    rw [List.mem_singleton.mp hb]
    exact ⟨m, e, h6⟩
  | test e1 e2 x y =>
    obtain ⟨_, _, m, e, h6, h7⟩ := h
    intro b hb
    rcases List.mem_cons.mp hb with rfl | hb
    · exact ⟨m, e, h6⟩
    · rw [List.mem_singleton.mp hb]
      exact ⟨m, e, h7⟩
  | twice b0 =>
    obtain ⟨m, e, h6⟩ := h
    intro b hb
    rw [List.mem_singleton.mp hb]
    exact ⟨m, e, h6⟩
  | call x e => intro b hb; cases hb
  | again k w => intro b hb; cases hb
theorem rp_some {H : Hp} {u : V} {r : Rf} (h : Rp H u (encO (some r))) : u ≠ .non := by
  cases r <;> (obtain ⟨a, vs, rfl, _⟩ := h; intro z; cases z)
theorem scIn_len (sc : List Str) (t : Thing) : (scIn sc t).length ≤ sc.length + 1 := by
  cases t with
  | loop x a b c => show (sc ++ [x]).length ≤ _; rw [List.length_append]; exact Nat.le_refl _
  | _ => exact Nat.le_succ _
/-- the second place of a thing -/
theorem rp_two {H : Hp} {v : V} {t : Thing} (h : Rp H v (enc t)) : ∃ a y vs, v = .ref a ∧ H a = some (.tup (.str (kindT t) :: y :: vs)) ∧ ∀ x e f b, t = .loop x e f b → y = .str x := by
  cases t with
  | step k =>
    obtain ⟨a, v1, v2, rfl, ha, rfl, _⟩ := rp_t2 h
    exact ⟨a, _, _, rfl, ha, fun _ _ _ _ z => by cases z⟩
  | loop x e1 e2 b =>
    obtain ⟨a, v1, v2, v3, v4, v5, rfl, ha, rfl, rfl, _⟩ := rp_t5 h
    exact ⟨a, _, _, rfl, ha, fun _ _ _ _ z => by cases z; rfl⟩
  | test e1 e2 x y =>
    obtain ⟨a, v1, v2, v3, v4, v5, rfl, ha, rfl, _⟩ := rp_t5 h
    exact ⟨a, _, _, rfl, ha, fun _ _ _ _ z => by cases z⟩
  | twice b =>
    obtain ⟨a, v1, v2, rfl, ha, rfl, _⟩ := rp_t2 h
    exact ⟨a, _, _, rfl, ha, fun _ _ _ _ z => by cases z⟩
  | call x e =>
    obtain ⟨a, v1, v2, v3, rfl, ha, rfl, _⟩ := rp_t3 h
    exact ⟨a, _, _, rfl, ha, fun _ _ _ _ z => by cases z⟩
  | again k w =>
    obtain ⟨a, v1, v2, v3, rfl, ha, rfl, _⟩ := rp_t3 h
    exact ⟨a, _, _, rfl, ha, fun _ _ _ _ z => by cases z⟩
end OG
namespace OG
open PySem PySem.Spec PyProof.Rows L2
def lpOk : Thing → Prop
  | .loop x _ _ _ => nameB x = true
  | _ => True
mutual
theorem thing_names {C : Str → Prop} {A : Prop} : ∀ (t : Thing) (sc : List Str) (n : Nat), TOk C A sc n t → ∀ u ∈ everyT t, lpOk u
  | .step k, _, _, _, u, hu => by rw [List.mem_singleton.mp hu]; trivial
  | .loop x a b body, sc, n, h, u, hu => by
    obtain ⟨h1, _, _, _, _, m, _, h6⟩ := h
    rcases List.mem_cons.mp hu with rfl | hu
    · exact h1
    · exact things_names body _ _ h6 u hu
  | .test a b x y, sc, n, h, u, hu => by
    obtain ⟨_, _, _, m, _, h6, h7⟩ := h
    rcases List.mem_cons.mp hu with rfl | hu
    · trivial
    · rcases List.mem_append.mp hu with hu | hu
      · exact things_names x _ _ h6 u hu
      · exact things_names y _ _ h7 u hu
  | .twice b, sc, n, h, u, hu => by
    obtain ⟨_, m, _, h6⟩ := h
    rcases List.mem_cons.mp hu with rfl | hu
    · trivial
    · exact things_names b _ _ h6 u hu
  | .call x e, _, _, _, u, hu => by rw [List.mem_singleton.mp hu]; trivial
  | .again k w, _, _, _, u, hu => by rw [List.mem_singleton.mp hu]; trivial
theorem things_names {C : Str → Prop} {A : Prop} : ∀ (ts : List Thing) (sc : List Str) (n : Nat), TsOk C A sc n ts → ∀ u ∈ everyB ts, lpOk u
  | [], _, _, _, u, hu => by cases hu
  | t :: r, sc, n, h, u, hu => by
    rcases List.mem_append.mp hu with hu | hu
    · exact thing_names t sc n h.1 u hu
    · exact things_names r sc n h.2 u hu
end
end OG

set_option Elab.async false
set_option linter.all false
set_option maxRecDepth 100000
set_option maxHeartbeats 4000000
namespace K06
open PySem PySem.Spec PyProof.Rows L2 OG
open C8 (pss_cut pe_gc)
open OGX

def topS (i : Nat) : Stmt := PySem.Challenge.pw_outgrow_k06_plans_that_do_not_fit.main.body.getD i (.Pass ⟨0, 0, 0, 0⟩)
abbrev slook_plan : Stmt := topS 20
abbrev Nlook_plan : List Str := ["plan", "agains", "thing"]
theorem sclook_plan : FnScope Nlook_plan ["plan"] (defScope slook_plan) := ⟨rfl, rfl, rfl, by decide +kernel, rfl, by decide +kernel, by decide +kernel⟩

abbrev slook_again : Stmt := topS 21
abbrev Nlook_again : List Str := ["thing", "agains", "times", "word"]
theorem sclook_again : FnScope Nlook_again ["thing", "agains"] (defScope slook_again) := ⟨rfl, rfl, rfl, by decide +kernel, rfl, by decide +kernel, by decide +kernel⟩

abbrev slook_body : Stmt := topS 22
abbrev Nlook_body : List Str := ["body", "around", "thing"]
theorem sclook_body : FnScope Nlook_body ["body", "around"] (defScope slook_body) := ⟨rfl, rfl, rfl, by decide +kernel, rfl, by decide +kernel, by decide +kernel⟩

abbrev slook_thing : Stmt := topS 23
abbrev Nlook_thing : List Str := ["thing", "around", "look"]
theorem sclook_thing : FnScope Nlook_thing ["thing", "around"] (defScope slook_thing) := ⟨rfl, rfl, rfl, by decide +kernel, rfl, by decide +kernel, by decide +kernel⟩

abbrev slook_end : Stmt := topS 24
abbrev Nlook_end : List Str := ["end", "around", "name"]
theorem sclook_end : FnScope Nlook_end ["end", "around"] (defScope slook_end) := ⟨rfl, rfl, rfl, by decide +kernel, rfl, by decide +kernel, by decide +kernel⟩

abbrev slook_step : Stmt := topS 25
abbrev Nlook_step : List Str := ["thing", "around"]
theorem sclook_step : FnScope Nlook_step ["thing", "around"] (defScope slook_step) := ⟨rfl, rfl, rfl, by decide +kernel, rfl, by decide +kernel, by decide +kernel⟩

abbrev slook_for : Stmt := topS 26
abbrev Nlook_for : List Str := ["thing", "around", "name", "first", "last", "body"]
theorem sclook_for : FnScope Nlook_for ["thing", "around"] (defScope slook_for) := ⟨rfl, rfl, rfl, by decide +kernel, rfl, by decide +kernel, by decide +kernel⟩

abbrev slook_if : Stmt := topS 27
abbrev Nlook_if : List Str := ["thing", "around", "lesser", "greater", "body", "other"]
theorem sclook_if : FnScope Nlook_if ["thing", "around"] (defScope slook_if) := ⟨rfl, rfl, rfl, by decide +kernel, rfl, by decide +kernel, by decide +kernel⟩

abbrev slook_double : Stmt := topS 28
abbrev Nlook_double : List Str := ["thing", "around"]
theorem sclook_double : FnScope Nlook_double ["thing", "around"] (defScope slook_double) := ⟨rfl, rfl, rfl, by decide +kernel, rfl, by decide +kernel, by decide +kernel⟩

abbrev slook_call : Stmt := topS 29
abbrev Nlook_call : List Str := ["thing", "around"]
theorem sclook_call : FnScope Nlook_call ["thing", "around"] (defScope slook_call) := ⟨rfl, rfl, rfl, by decide +kernel, rfl, by decide +kernel, by decide +kernel⟩

abbrev srefuse_again : Stmt := topS 30
abbrev Nrefuse_again : List Str := ["thing", "around"]
theorem screfuse_again : FnScope Nrefuse_again ["thing", "around"] (defScope srefuse_again) := ⟨rfl, rfl, rfl, by decide +kernel, rfl, by decide +kernel, by decide +kernel⟩

abbrev sl_begin : Stmt := topS 33
abbrev Nl_begin : List Str := ["_law_script"]
theorem scl_begin : FnScope Nl_begin ["_law_script"] (defScope sl_begin) := ⟨rfl, rfl, rfl, by decide +kernel, rfl, by decide +kernel, by decide +kernel⟩

abbrev sl_take : Stmt := topS 34
abbrev Nl_take : List Str := ["_law_draw", "_law_sides", "_law_cell", "_law_got"]
theorem scl_take : FnScope Nl_take ["_law_draw", "_law_sides"] (defScope sl_take) := ⟨rfl, rfl, rfl, by decide +kernel, rfl, by decide +kernel, by decide +kernel⟩

abbrev sl_pick : Stmt := topS 35
abbrev Nl_pick : List Str := ["_law_draw", "_law_row"]
theorem scl_pick : FnScope Nl_pick ["_law_draw", "_law_row"] (defScope sl_pick) := ⟨rfl, rfl, rfl, by decide +kernel, rfl, by decide +kernel, by decide +kernel⟩

abbrev sl_some_end : Stmt := topS 36
abbrev Nl_some_end : List Str := ["_law_draw", "_law_scope", "_law_wide", "_law_more"]
theorem scl_some_end : FnScope Nl_some_end ["_law_draw", "_law_scope", "_law_wide"] (defScope sl_some_end) := ⟨rfl, rfl, rfl, by decide +kernel, rfl, by decide +kernel, by decide +kernel⟩

abbrev sl_leaf : Stmt := topS 37
abbrev Nl_leaf : List Str := ["_law_draw", "_law_kit", "_law_scope", "_law_deep", "_law_fit", "_law_name", "_law_end"]
theorem scl_leaf : FnScope Nl_leaf ["_law_draw", "_law_kit", "_law_scope", "_law_deep"] (defScope sl_leaf) := ⟨rfl, rfl, rfl, by decide +kernel, rfl, by decide +kernel, by decide +kernel⟩

abbrev sl_kept_words : Stmt := topS 38
abbrev Nl_kept_words : List Str := []
theorem scl_kept_words : FnScope Nl_kept_words [] (defScope sl_kept_words) := ⟨rfl, rfl, rfl, by decide +kernel, rfl, by decide +kernel, by decide +kernel⟩

abbrev sl_fresh : Stmt := topS 39
abbrev Nl_fresh : List Str := ["_law_draw", "_law_taken", "_law_size", "_law_name", "_law_spare", "_law_sign", "_law_k", "_law_one"]
theorem scl_fresh : FnScope Nl_fresh ["_law_draw", "_law_taken"] (defScope sl_fresh) := ⟨rfl, rfl, rfl, by decide +kernel, rfl, by decide +kernel, by decide +kernel⟩

abbrev sl_drawn_thing : Stmt := topS 40
abbrev Nl_drawn_thing : List Str := ["_law_draw", "_law_kit", "_law_scope", "_law_deep", "_law_fork", "_law_body", "_law_rest", "_law_one", "_law_other", "_law_name"]
theorem scl_drawn_thing : FnScope Nl_drawn_thing ["_law_draw", "_law_kit", "_law_scope", "_law_deep"] (defScope sl_drawn_thing) := ⟨rfl, rfl, rfl, by decide +kernel, rfl, by decide +kernel, by decide +kernel⟩

abbrev sl_drawn_body : Stmt := topS 41
abbrev Nl_drawn_body : List Str := ["_law_draw", "_law_kit", "_law_scope", "_law_deep", "_law_found", "_law_k"]
theorem scl_drawn_body : FnScope Nl_drawn_body ["_law_draw", "_law_kit", "_law_scope", "_law_deep"] (defScope sl_drawn_body) := ⟨rfl, rfl, rfl, by decide +kernel, rfl, by decide +kernel, by decide +kernel⟩

abbrev sl_drawn : Stmt := topS 42
abbrev Nl_drawn : List Str := ["_law_draw", "_law_room", "_law_figures", "_law_wide"]
theorem scl_drawn : FnScope Nl_drawn ["_law_draw", "_law_room", "_law_figures", "_law_wide"] (defScope sl_drawn) := ⟨rfl, rfl, rfl, by decide +kernel, rfl, by decide +kernel, by decide +kernel⟩

abbrev sl_bodies : Stmt := topS 43
abbrev Nl_bodies : List Str := ["_law_thing"]
theorem scl_bodies : FnScope Nl_bodies ["_law_thing"] (defScope sl_bodies) := ⟨rfl, rfl, rfl, by decide +kernel, rfl, by decide +kernel, by decide +kernel⟩

abbrev sl_every : Stmt := topS 44
abbrev Nl_every : List Str := ["_law_plan", "_law_found", "_law_thing", "_law_body"]
theorem scl_every : FnScope Nl_every ["_law_plan"] (defScope sl_every) := ⟨rfl, rfl, rfl, by decide +kernel, rfl, by decide +kernel, by decide +kernel⟩

abbrev sl_unfit_thing : Stmt := topS 45
abbrev Nl_unfit_thing : List Str := ["_law_draw", "_law_thing", "_law_names", "_law_fork", "_law_at"]
theorem scl_unfit_thing : FnScope Nl_unfit_thing ["_law_draw", "_law_thing", "_law_names"] (defScope sl_unfit_thing) := ⟨rfl, rfl, rfl, by decide +kernel, rfl, by decide +kernel, by decide +kernel⟩

abbrev sl_unfit : Stmt := topS 46
abbrev Nl_unfit : List Str := ["_law_draw", "_law_plan", "_law_names", "_law_thing"]
theorem scl_unfit : FnScope Nl_unfit ["_law_draw", "_law_plan", "_law_names"] (defScope sl_unfit) := ⟨rfl, rfl, rfl, by decide +kernel, rfl, by decide +kernel, by decide +kernel⟩

abbrev sl_same : Stmt := topS 47
abbrev Nl_same : List Str := ["_law_found", "_law_due", "_law_one", "_law_other"]
theorem scl_same : FnScope Nl_same ["_law_found", "_law_due"] (defScope sl_same) := ⟨rfl, rfl, rfl, by decide +kernel, rfl, by decide +kernel, by decide +kernel⟩

abbrev sl_class : Stmt := topS 48
abbrev Nl_class : List Str := ["_law_e"]
theorem scl_class : FnScope Nl_class ["_law_e"] (defScope sl_class) := ⟨rfl, rfl, rfl, by decide +kernel, rfl, by decide +kernel, by decide +kernel⟩

abbrev sl_tried : Stmt := topS 49
abbrev Nl_tried : List Str := ["_law_ask", "_law_e"]
theorem scl_tried : FnScope Nl_tried ["_law_ask"] (defScope sl_tried) := ⟨rfl, rfl, rfl, by decide +kernel, rfl, by decide +kernel, by decide +kernel⟩

abbrev sl_look_thing : Stmt := topS 50
abbrev Nl_look_thing : List Str := ["_law_thing", "_law_scope", "_law_deep", "_law_word", "_law_ends", "_law_end", "_law_body", "_law_one", "_law_found"]
theorem scl_look_thing : FnScope Nl_look_thing ["_law_thing", "_law_scope", "_law_deep"] (defScope sl_look_thing) := ⟨rfl, rfl, rfl, by decide +kernel, rfl, by decide +kernel, by decide +kernel⟩

abbrev sl_looking : Stmt := topS 51
abbrev Nl_looking : List Str := ["_law_plan", "_law_agains", "_law_thing", "_law_found"]
theorem scl_looking : FnScope Nl_looking ["_law_plan"] (defScope sl_looking) := ⟨rfl, rfl, rfl, by decide +kernel, rfl, by decide +kernel, by decide +kernel⟩

abbrev slaw : Stmt := topS 52
abbrev Nlaw : List Str := ["_law_script", "_law_draw", "_law_turn", "_law_plan", "_law_names", "_law_step", "_law_at", "_law_thing"]
theorem sclaw : FnScope Nlaw ["_law_script"] (defScope slaw) := ⟨rfl, rfl, rfl, by decide +kernel, rfl, by decide +kernel, by decide +kernel⟩

structure Tops (w : World) (K : PySem.W.Frag) (mg : Str → Option Value) where
  flook_plan : Addr
  dlook_plan : FuncData
  Flook_plan : Fun K "look_plan" "look_plan" slook_plan flook_plan dlook_plan
  glook_plan : mg "look_plan" = some (.ref flook_plan)
  flook_again : Addr
  dlook_again : FuncData
  Flook_again : Fun K "look_again" "look_again" slook_again flook_again dlook_again
  glook_again : mg "look_again" = some (.ref flook_again)
  flook_body : Addr
  dlook_body : FuncData
  Flook_body : Fun K "look_body" "look_body" slook_body flook_body dlook_body
  glook_body : mg "look_body" = some (.ref flook_body)
  flook_thing : Addr
  dlook_thing : FuncData
  Flook_thing : Fun K "look_thing" "look_thing" slook_thing flook_thing dlook_thing
  glook_thing : mg "look_thing" = some (.ref flook_thing)
  flook_end : Addr
  dlook_end : FuncData
  Flook_end : Fun K "look_end" "look_end" slook_end flook_end dlook_end
  glook_end : mg "look_end" = some (.ref flook_end)
  flook_step : Addr
  dlook_step : FuncData
  Flook_step : Fun K "look_step" "look_step" slook_step flook_step dlook_step
  glook_step : mg "look_step" = some (.ref flook_step)
  flook_for : Addr
  dlook_for : FuncData
  Flook_for : Fun K "look_for" "look_for" slook_for flook_for dlook_for
  glook_for : mg "look_for" = some (.ref flook_for)
  flook_if : Addr
  dlook_if : FuncData
  Flook_if : Fun K "look_if" "look_if" slook_if flook_if dlook_if
  glook_if : mg "look_if" = some (.ref flook_if)
  flook_double : Addr
  dlook_double : FuncData
  Flook_double : Fun K "look_double" "look_double" slook_double flook_double dlook_double
  glook_double : mg "look_double" = some (.ref flook_double)
  flook_call : Addr
  dlook_call : FuncData
  Flook_call : Fun K "look_call" "look_call" slook_call flook_call dlook_call
  glook_call : mg "look_call" = some (.ref flook_call)
  frefuse_again : Addr
  drefuse_again : FuncData
  Frefuse_again : Fun K "refuse_again" "refuse_again" srefuse_again frefuse_again drefuse_again
  grefuse_again : mg "refuse_again" = some (.ref frefuse_again)
  fl_begin : Addr
  dl_begin : FuncData
  Fl_begin : Fun K "_law_begin" "_law_begin" sl_begin fl_begin dl_begin
  gl_begin : mg "_law_begin" = some (.ref fl_begin)
  fl_take : Addr
  dl_take : FuncData
  Fl_take : Fun K "_law_take" "_law_take" sl_take fl_take dl_take
  gl_take : mg "_law_take" = some (.ref fl_take)
  fl_pick : Addr
  dl_pick : FuncData
  Fl_pick : Fun K "_law_pick" "_law_pick" sl_pick fl_pick dl_pick
  gl_pick : mg "_law_pick" = some (.ref fl_pick)
  fl_some_end : Addr
  dl_some_end : FuncData
  Fl_some_end : Fun K "_law_some_end" "_law_some_end" sl_some_end fl_some_end dl_some_end
  gl_some_end : mg "_law_some_end" = some (.ref fl_some_end)
  fl_leaf : Addr
  dl_leaf : FuncData
  Fl_leaf : Fun K "_law_leaf" "_law_leaf" sl_leaf fl_leaf dl_leaf
  gl_leaf : mg "_law_leaf" = some (.ref fl_leaf)
  fl_kept_words : Addr
  dl_kept_words : FuncData
  Fl_kept_words : Fun K "_law_kept_words" "_law_kept_words" sl_kept_words fl_kept_words dl_kept_words
  gl_kept_words : mg "_law_kept_words" = some (.ref fl_kept_words)
  fl_fresh : Addr
  dl_fresh : FuncData
  Fl_fresh : Fun K "_law_fresh" "_law_fresh" sl_fresh fl_fresh dl_fresh
  gl_fresh : mg "_law_fresh" = some (.ref fl_fresh)
  fl_drawn_thing : Addr
  dl_drawn_thing : FuncData
  Fl_drawn_thing : Fun K "_law_drawn_thing" "_law_drawn_thing" sl_drawn_thing fl_drawn_thing dl_drawn_thing
  gl_drawn_thing : mg "_law_drawn_thing" = some (.ref fl_drawn_thing)
  fl_drawn_body : Addr
  dl_drawn_body : FuncData
  Fl_drawn_body : Fun K "_law_drawn_body" "_law_drawn_body" sl_drawn_body fl_drawn_body dl_drawn_body
  gl_drawn_body : mg "_law_drawn_body" = some (.ref fl_drawn_body)
  fl_drawn : Addr
  dl_drawn : FuncData
  Fl_drawn : Fun K "_law_drawn" "_law_drawn" sl_drawn fl_drawn dl_drawn
  gl_drawn : mg "_law_drawn" = some (.ref fl_drawn)
  fl_bodies : Addr
  dl_bodies : FuncData
  Fl_bodies : Fun K "_law_bodies" "_law_bodies" sl_bodies fl_bodies dl_bodies
  gl_bodies : mg "_law_bodies" = some (.ref fl_bodies)
  fl_every : Addr
  dl_every : FuncData
  Fl_every : Fun K "_law_every" "_law_every" sl_every fl_every dl_every
  gl_every : mg "_law_every" = some (.ref fl_every)
  fl_unfit_thing : Addr
  dl_unfit_thing : FuncData
  Fl_unfit_thing : Fun K "_law_unfit_thing" "_law_unfit_thing" sl_unfit_thing fl_unfit_thing dl_unfit_thing
  gl_unfit_thing : mg "_law_unfit_thing" = some (.ref fl_unfit_thing)
  fl_unfit : Addr
  dl_unfit : FuncData
  Fl_unfit : Fun K "_law_unfit" "_law_unfit" sl_unfit fl_unfit dl_unfit
  gl_unfit : mg "_law_unfit" = some (.ref fl_unfit)
  fl_same : Addr
  dl_same : FuncData
  Fl_same : Fun K "_law_same" "_law_same" sl_same fl_same dl_same
  gl_same : mg "_law_same" = some (.ref fl_same)
  fl_class : Addr
  dl_class : FuncData
  Fl_class : Fun K "_law_class" "_law_class" sl_class fl_class dl_class
  gl_class : mg "_law_class" = some (.ref fl_class)
  fl_tried : Addr
  dl_tried : FuncData
  Fl_tried : Fun K "_law_tried" "_law_tried" sl_tried fl_tried dl_tried
  gl_tried : mg "_law_tried" = some (.ref fl_tried)
  fl_look_thing : Addr
  dl_look_thing : FuncData
  Fl_look_thing : Fun K "_law_look_thing" "_law_look_thing" sl_look_thing fl_look_thing dl_look_thing
  gl_look_thing : mg "_law_look_thing" = some (.ref fl_look_thing)
  fl_looking : Addr
  dl_looking : FuncData
  Fl_looking : Fun K "_law_looking" "_law_looking" sl_looking fl_looking dl_looking
  gl_looking : mg "_law_looking" = some (.ref fl_looking)
  flaw : Addr
  dlaw : FuncData
  Flaw : Fun K "law" "law" slaw flaw dlaw
  glaw : mg "law" = some (.ref flaw)
  mabs : mg "abs" = none
  mall : mg "all" = none
  mbool : mg "bool" = none
  mint : mg "int" = none
  misinstance : mg "isinstance" = none
  mlen : mg "len" = none
  mlist : mg "list" = none
  mrange : mg "range" = none
  msorted : mg "sorted" = none
  mstr : mg "str" = none
  mtuple : mg "tuple" = none
  mzip : mg "zip" = none
  aLOOKS : Addr
  cLOOKS : ∃ u, mg "LOOKS" = some u ∧ RelV (.ref aLOOKS) u
  eLOOKS : Array DictEntry
  nLOOKS : Nat
  DLOOKS : KDict K w aLOOKS eLOOKS nLOOKS
  kLOOKS_step : KDct K w aLOOKS "step" (.ref flook_step)
  sLOOKS_step : PySem.W.nsIn K aLOOKS "step" = some (some (.ref flook_step))
  kLOOKS_for : KDct K w aLOOKS "for" (.ref flook_for)
  sLOOKS_for : PySem.W.nsIn K aLOOKS "for" = some (some (.ref flook_for))
  kLOOKS_if : KDct K w aLOOKS "if" (.ref flook_if)
  sLOOKS_if : PySem.W.nsIn K aLOOKS "if" = some (some (.ref flook_if))
  kLOOKS_double : KDct K w aLOOKS "double" (.ref flook_double)
  sLOOKS_double : PySem.W.nsIn K aLOOKS "double" = some (some (.ref flook_double))
  kLOOKS_call : KDct K w aLOOKS "call" (.ref flook_call)
  sLOOKS_call : PySem.W.nsIn K aLOOKS "call" = some (some (.ref flook_call))
  kLOOKS_again : KDct K w aLOOKS "again" (.ref frefuse_again)
  sLOOKS_again : PySem.W.nsIn K aLOOKS "again" = some (some (.ref frefuse_again))
theorem Tops.blook_plan {w : World} {K : PySem.W.Frag} {mg : Str → Option Value} (T : Tops w K mg) : Binds K T.dlook_plan ["plan"] [] := T.Flook_plan.binds (ps := ["plan"]) fun _ _ _ _ _ _ us hl => match us, hl with | [_], _ => rfl
theorem Tops.blook_again {w : World} {K : PySem.W.Frag} {mg : Str → Option Value} (T : Tops w K mg) : Binds K T.dlook_again ["thing", "agains"] [] := T.Flook_again.binds (ps := ["thing", "agains"]) fun _ _ _ _ _ _ us hl => match us, hl with | [_, _], _ => rfl
theorem Tops.blook_body {w : World} {K : PySem.W.Frag} {mg : Str → Option Value} (T : Tops w K mg) : Binds K T.dlook_body ["body", "around"] [] := T.Flook_body.binds (ps := ["body", "around"]) fun _ _ _ _ _ _ us hl => match us, hl with | [_, _], _ => rfl
theorem Tops.blook_thing {w : World} {K : PySem.W.Frag} {mg : Str → Option Value} (T : Tops w K mg) : Binds K T.dlook_thing ["thing", "around"] [] := T.Flook_thing.binds (ps := ["thing", "around"]) fun _ _ _ _ _ _ us hl => match us, hl with | [_, _], _ => rfl
theorem Tops.blook_end {w : World} {K : PySem.W.Frag} {mg : Str → Option Value} (T : Tops w K mg) : Binds K T.dlook_end ["end", "around"] [] := T.Flook_end.binds (ps := ["end", "around"]) fun _ _ _ _ _ _ us hl => match us, hl with | [_, _], _ => rfl
theorem Tops.blook_step {w : World} {K : PySem.W.Frag} {mg : Str → Option Value} (T : Tops w K mg) : Binds K T.dlook_step ["thing", "around"] [] := T.Flook_step.binds (ps := ["thing", "around"]) fun _ _ _ _ _ _ us hl => match us, hl with | [_, _], _ => rfl
theorem Tops.blook_for {w : World} {K : PySem.W.Frag} {mg : Str → Option Value} (T : Tops w K mg) : Binds K T.dlook_for ["thing", "around"] [] := T.Flook_for.binds (ps := ["thing", "around"]) fun _ _ _ _ _ _ us hl => match us, hl with | [_, _], _ => rfl
theorem Tops.blook_if {w : World} {K : PySem.W.Frag} {mg : Str → Option Value} (T : Tops w K mg) : Binds K T.dlook_if ["thing", "around"] [] := T.Flook_if.binds (ps := ["thing", "around"]) fun _ _ _ _ _ _ us hl => match us, hl with | [_, _], _ => rfl
theorem Tops.blook_double {w : World} {K : PySem.W.Frag} {mg : Str → Option Value} (T : Tops w K mg) : Binds K T.dlook_double ["thing", "around"] [] := T.Flook_double.binds (ps := ["thing", "around"]) fun _ _ _ _ _ _ us hl => match us, hl with | [_, _], _ => rfl
theorem Tops.blook_call {w : World} {K : PySem.W.Frag} {mg : Str → Option Value} (T : Tops w K mg) : Binds K T.dlook_call ["thing", "around"] [] := T.Flook_call.binds (ps := ["thing", "around"]) fun _ _ _ _ _ _ us hl => match us, hl with | [_, _], _ => rfl
theorem Tops.brefuse_again {w : World} {K : PySem.W.Frag} {mg : Str → Option Value} (T : Tops w K mg) : Binds K T.drefuse_again ["thing", "around"] [] := T.Frefuse_again.binds (ps := ["thing", "around"]) fun _ _ _ _ _ _ us hl => match us, hl with | [_, _], _ => rfl
theorem Tops.bl_begin {w : World} {K : PySem.W.Frag} {mg : Str → Option Value} (T : Tops w K mg) : Binds K T.dl_begin ["_law_script"] [] := T.Fl_begin.binds (ps := ["_law_script"]) fun _ _ _ _ _ _ us hl => match us, hl with | [_], _ => rfl
theorem Tops.bl_take {w : World} {K : PySem.W.Frag} {mg : Str → Option Value} (T : Tops w K mg) : Binds K T.dl_take ["_law_draw", "_law_sides"] [] := T.Fl_take.binds (ps := ["_law_draw", "_law_sides"]) fun _ _ _ _ _ _ us hl => match us, hl with | [_, _], _ => rfl
theorem Tops.bl_pick {w : World} {K : PySem.W.Frag} {mg : Str → Option Value} (T : Tops w K mg) : Binds K T.dl_pick ["_law_draw", "_law_row"] [] := T.Fl_pick.binds (ps := ["_law_draw", "_law_row"]) fun _ _ _ _ _ _ us hl => match us, hl with | [_, _], _ => rfl
theorem Tops.bl_some_end {w : World} {K : PySem.W.Frag} {mg : Str → Option Value} (T : Tops w K mg) : Binds K T.dl_some_end ["_law_draw", "_law_scope", "_law_wide"] [] := T.Fl_some_end.binds (ps := ["_law_draw", "_law_scope", "_law_wide"]) fun _ _ _ _ _ _ us hl => match us, hl with | [_, _, _], _ => rfl
theorem Tops.bl_leaf {w : World} {K : PySem.W.Frag} {mg : Str → Option Value} (T : Tops w K mg) : Binds K T.dl_leaf ["_law_draw", "_law_kit", "_law_scope", "_law_deep"] [] := T.Fl_leaf.binds (ps := ["_law_draw", "_law_kit", "_law_scope", "_law_deep"]) fun _ _ _ _ _ _ us hl => match us, hl with | [_, _, _, _], _ => rfl
theorem Tops.bl_kept_words {w : World} {K : PySem.W.Frag} {mg : Str → Option Value} (T : Tops w K mg) : Binds K T.dl_kept_words [] [] := T.Fl_kept_words.binds (ps := []) fun _ _ _ _ _ _ us hl => match us, hl with | [], _ => rfl
theorem Tops.bl_fresh {w : World} {K : PySem.W.Frag} {mg : Str → Option Value} (T : Tops w K mg) : Binds K T.dl_fresh ["_law_draw", "_law_taken"] [] := T.Fl_fresh.binds (ps := ["_law_draw", "_law_taken"]) fun _ _ _ _ _ _ us hl => match us, hl with | [_, _], _ => rfl
theorem Tops.bl_drawn_thing {w : World} {K : PySem.W.Frag} {mg : Str → Option Value} (T : Tops w K mg) : Binds K T.dl_drawn_thing ["_law_draw", "_law_kit", "_law_scope", "_law_deep"] [] := T.Fl_drawn_thing.binds (ps := ["_law_draw", "_law_kit", "_law_scope", "_law_deep"]) fun _ _ _ _ _ _ us hl => match us, hl with | [_, _, _, _], _ => rfl
theorem Tops.bl_drawn_body {w : World} {K : PySem.W.Frag} {mg : Str → Option Value} (T : Tops w K mg) : Binds K T.dl_drawn_body ["_law_draw", "_law_kit", "_law_scope", "_law_deep"] [] := T.Fl_drawn_body.binds (ps := ["_law_draw", "_law_kit", "_law_scope", "_law_deep"]) fun _ _ _ _ _ _ us hl => match us, hl with | [_, _, _, _], _ => rfl
theorem Tops.bl_drawn {w : World} {K : PySem.W.Frag} {mg : Str → Option Value} (T : Tops w K mg) : Binds K T.dl_drawn ["_law_draw", "_law_room", "_law_figures", "_law_wide"] [] := T.Fl_drawn.binds (ps := ["_law_draw", "_law_room", "_law_figures", "_law_wide"]) fun _ _ _ _ _ _ us hl => match us, hl with | [_, _, _, _], _ => rfl
theorem Tops.bl_bodies {w : World} {K : PySem.W.Frag} {mg : Str → Option Value} (T : Tops w K mg) : Binds K T.dl_bodies ["_law_thing"] [] := T.Fl_bodies.binds (ps := ["_law_thing"]) fun _ _ _ _ _ _ us hl => match us, hl with | [_], _ => rfl
theorem Tops.bl_every {w : World} {K : PySem.W.Frag} {mg : Str → Option Value} (T : Tops w K mg) : Binds K T.dl_every ["_law_plan"] [] := T.Fl_every.binds (ps := ["_law_plan"]) fun _ _ _ _ _ _ us hl => match us, hl with | [_], _ => rfl
theorem Tops.bl_unfit_thing {w : World} {K : PySem.W.Frag} {mg : Str → Option Value} (T : Tops w K mg) : Binds K T.dl_unfit_thing ["_law_draw", "_law_thing", "_law_names"] [] := T.Fl_unfit_thing.binds (ps := ["_law_draw", "_law_thing", "_law_names"]) fun _ _ _ _ _ _ us hl => match us, hl with | [_, _, _], _ => rfl
theorem Tops.bl_unfit {w : World} {K : PySem.W.Frag} {mg : Str → Option Value} (T : Tops w K mg) : Binds K T.dl_unfit ["_law_draw", "_law_plan", "_law_names"] [] := T.Fl_unfit.binds (ps := ["_law_draw", "_law_plan", "_law_names"]) fun _ _ _ _ _ _ us hl => match us, hl with | [_, _, _], _ => rfl
theorem Tops.bl_same {w : World} {K : PySem.W.Frag} {mg : Str → Option Value} (T : Tops w K mg) : Binds K T.dl_same ["_law_found", "_law_due"] [] := T.Fl_same.binds (ps := ["_law_found", "_law_due"]) fun _ _ _ _ _ _ us hl => match us, hl with | [_, _], _ => rfl
theorem Tops.bl_class {w : World} {K : PySem.W.Frag} {mg : Str → Option Value} (T : Tops w K mg) : Binds K T.dl_class ["_law_e"] [] := T.Fl_class.binds (ps := ["_law_e"]) fun _ _ _ _ _ _ us hl => match us, hl with | [_], _ => rfl
theorem Tops.bl_tried {w : World} {K : PySem.W.Frag} {mg : Str → Option Value} (T : Tops w K mg) : Binds K T.dl_tried ["_law_ask"] [] := T.Fl_tried.binds (ps := ["_law_ask"]) fun _ _ _ _ _ _ us hl => match us, hl with | [_], _ => rfl
theorem Tops.bl_look_thing {w : World} {K : PySem.W.Frag} {mg : Str → Option Value} (T : Tops w K mg) : Binds K T.dl_look_thing ["_law_thing", "_law_scope", "_law_deep"] [] := T.Fl_look_thing.binds (ps := ["_law_thing", "_law_scope", "_law_deep"]) fun _ _ _ _ _ _ us hl => match us, hl with | [_, _, _], _ => rfl
theorem Tops.bl_looking {w : World} {K : PySem.W.Frag} {mg : Str → Option Value} (T : Tops w K mg) : Binds K T.dl_looking ["_law_plan"] [] := T.Fl_looking.binds (ps := ["_law_plan"]) fun _ _ _ _ _ _ us hl => match us, hl with | [_], _ => rfl
theorem Tops.blaw {w : World} {K : PySem.W.Frag} {mg : Str → Option Value} (T : Tops w K mg) : ∀ (s : Shared) (v : Value), BindsTo s T.dlaw ⟨[v], []⟩ [("_law_script", v)] := by
  obtain ⟨oc, od, kV, doc, pm, an, cdv, ct, osl, e, lk, hcd⟩ := T.Flaw.ex
  intro s v
  rw [e]
  exact .of_eq rfl
section
variable {P : Program} {w : World} {K : PySem.W.Frag} {mg : Str → Option Value} {base : Heap}
theorem ok_begin (T : Tops w K mg) : FnOk P w K mg base CX0 1 T.fl_begin T.dl_begin ["_law_script"] (spBegin K) := by
  refine T.Fl_begin.ok scl_begin (fun vs H Q E h => ?_) (fun cdv A outer s H vs Q E hr h => ?_)
  · obtain ⟨a, ns, rfl, _⟩ := h
    rfl
  obtain ⟨a, ns, rfl, hS, q⟩ := h
  refine ⟨_, (pss_one (ps_ret (pe_lst (pa_cons (pe_callTy call_list_of (by rfl) T.mlist (by decide +kernel) (pa_cons (pe_slice sl_list (pv 0) po_none (po_some pe_int)) pa_nil)) (pa_cons pe_int (pa_cons pe_int (pa_cons pe_int pa_nil))))))), ?_⟩
  refine ⟨_, rfl, 63, rfl, a, _, rfl, hS, fun p np => ?_⟩
  obtain ⟨ms, hms⟩ := cut_map ns none (some 63)
  refine ⟨p, _, rfl, .inl (SqL.of upd_same), fun L nL => ?_⟩
  refine ⟨(by show 4 ≤ sizeLine; decide), fun d nd => ?_⟩
  have nL0 : H L = none := (same_new np).free nL
  have s3 : Same H (upd (upd (upd H p (.lst (cutV (ns.map V.int) none (some 63)))) L (.lst (cutV (ns.map V.int) none (some 63)))) d (.lst [.ref L, .int 0, .int 0, .int 37])) :=
    ((same_new np).trans (same_new nL)).trans (same_new nd)
  have nd0 : H d = none := ((same_new np).trans (same_new nL)).free nd
  refine q d L _ s3 nd0 nL0 ⟨ms, 0, 0, 37, upd_same, ?_, by decide, by decide, by decide, by decide⟩
  rw [upd_ne (ne_of_none (upd_same) nd), upd_same, hms]
theorem ok_take (T : Tops w K mg) : FnOk P w K mg base CX0 1 T.fl_take T.dl_take ["_law_draw", "_law_sides"] spTake := by
  refine T.Fl_take.ok scl_take (fun vs H Q E h => ?_) (fun cdv A outer s H vs Q E hr h => ?_)
  · obtain ⟨d, L, k, rfl, _⟩ := h
    rfl
  obtain ⟨d, L, k, rfl, hD, k1, k2, q⟩ := h
  refine ⟨_, (pss_cut (ps_if (PW.pt (pw_and (pt_cmpR op_lt (pe_ix ix_list (pv 0) pe_int (fun _ _ => rfl)) (pv 1) (nomark _)) (pw_and1 (pt_cmpR op_lt (pe_ix ix_list (pv 0) pe_int (fun _ _ => rfl)) (pe_callB call_len_seq (by rfl) T.mlen PySem.boot_len (pa_cons (pe_ix ix_list (pv 0) pe_int (fun _ _ => rfl)) pa_nil)) (nomark _)))))
  (pss_cons (ps_set (i := 2) scl_take.nd rfl (Or.inl rfl) (pe_ix ix_list (pe_ix ix_list (pv 0) pe_int (fun _ _ => rfl)) (pe_ix ix_list (pv 0) pe_int (fun _ _ => rfl)) (fun _ _ => rfl)))
 (pss_cons (ps_asg (pe_op op_add (pe_ix ix_list (pv 0) pe_int (fun _ _ => rfl)) pe_int) (pg_sub (pv 0) pe_int set_list))
 (pss_cons (ps_asg pe_int (pg_sub (pv 0) pe_int set_list))
 (pss_one (ps_if (pt_cmpR op_ge (pe_callB call_abs (by rfl) T.mabs (by decide +kernel) (pa_cons (pv 2) pa_nil)) (pe_op op_pow pe_int pe_int) (nomark _))
  (pss_one (ps_asg (pe_callB call_abs (by rfl) T.mabs (by decide +kernel) (pa_cons (pv 2) pa_nil)) (pg_sub (pv 0) pe_int set_list)))
  (pss_one (ps_asg (pe_op op_mod (pe_op op_add (pe_op op_add (pe_op op_mul (pe_ix ix_list (pv 0) pe_int (fun _ _ => rfl)) pe_int) (pe_op op_mul (pe_op op_mod (pv 2) pe_int) pe_int)) pe_int) pe_int) (pg_sub (pv 0) pe_int set_list))))))))
  pss_nil)
 (pss_cons (ps_if (pt_cmpR op_ge (pe_ix ix_list (pv 0) pe_int (fun _ _ => rfl)) (pv 1) (nomark _))
  (pss_cons (ps_set (i := 3) scl_take.nd rfl (Or.inl rfl) (pe_op op_mod (pe_ix ix_list (pv 0) pe_int (fun _ _ => rfl)) (pv 1)))
 (pss_cons (ps_asg (pe_op op_fdiv (pe_ix ix_list (pv 0) pe_int (fun _ _ => rfl)) (pv 1)) (pg_sub (pv 0) pe_int set_list))
 (pss_one (ps_ret (pv 3)))))
  pss_nil)
 (pss_cons (ps_asg (pe_op op_mod (pe_op op_add (pe_op op_add (pe_op op_mul (pe_op op_mod (pe_op op_mul (pe_ix ix_list (pv 0) pe_int (fun _ _ => rfl)) (pe_ix ix_list (pv 0) pe_int (fun _ _ => rfl))) pe_int) pe_int) (pe_op op_mul (pe_ix ix_list (pv 0) pe_int (fun _ _ => rfl)) pe_int)) pe_int) pe_int) (pg_sub (pv 0) pe_int set_list))
 (pss_one (ps_ret (pe_op op_mod (pe_op op_add (pe_op op_fdiv (pe_ix ix_list (pv 0) pe_int (fun _ _ => rfl)) pe_int) (pe_op op_mul (pe_op op_mod (pe_ix ix_list (pv 0) pe_int (fun _ _ => rfl)) pe_int) pe_int)) (pv 1))))))), ?_⟩
  have hne := hD.ne
  refine ⟨fun σ' H' => (∃ x y, σ' = [some (.ref d), some (.int k), x, y]) ∧ Dr H' d L ∧ But d H H', ?_, ?_⟩
  · obtain ⟨ns, i, r, s, hd, hL, i0, r0, s0, s1⟩ := id hD
    refine ⟨_, rfl, d, _, 2, _, rfl, rfl, SqL.of hd, rfl, _, rfl, r, k, rfl, rfl, _, rfl, ite2 (fun c1 => ?_) (fun c1 => ?_)⟩
    · refine ⟨_, rfl, d, _, 1, _, rfl, rfl, SqL.of hd, rfl, _, rfl, d, _, 0, _, rfl, rfl, SqL.of hd, rfl, L, _, rfl, .inl (SqL.of hL), i, _, rfl, rfl, _, rfl, ite2 (fun c2 => ?_) (fun c2 => ?_)⟩
      · have c3 : i < ((ns.map V.int).length : Int) := of_decide_eq_true c2
        obtain ⟨v, hv, hm⟩ := atI_lt (xs := ns.map V.int) i0 c3
        obtain ⟨n, _, rfl⟩ := List.mem_map.mp hm
        refine ⟨_, rfl, d, _, 0, _, rfl, rfl, SqL.of hd, rfl, _, rfl, d, _, 1, _, rfl, rfl, SqL.of hd, rfl, L, _, i, _, rfl, rfl, SqL.of hL, hv, ?_⟩
        refine ⟨_, rfl, d, _, 1, _, rfl, rfl, SqL.of hd, rfl, i, 1, rfl, rfl, _, rfl, d, _, 1, 1, rfl, rfl, hd, rfl, ?_⟩
        refine ⟨_, rfl, d, _, 2, 2, rfl, rfl, upd_same, rfl, ?_⟩
        rw [upd_upd]
        refine ⟨_, rfl, n, rfl, 10, 18, rfl, rfl, ⟨by decide, by decide, by decide⟩, _, _, rfl, rfl, _, rfl, ite2 (fun c4 => ?_) (fun c4 => ?_)⟩
        · refine ⟨_, rfl, n, rfl, _, rfl, d, _, 2, 2, rfl, rfl, upd_same, rfl, ?_⟩
          rw [upd_upd]
          exact ⟨⟨_, _, rfl⟩, dr_set hL hne (by omega) (by split <;> omega) s0 s1, but_upd⟩
        · refine ⟨_, rfl, d, _, 3, _, rfl, rfl, SqL.of upd_same, rfl, s, 48271, rfl, rfl, .inr ⟨by decide, by decide⟩, _, rfl, n, 2147483629, rfl, rfl, (show (0 : Int) < 2147483629 by decide), _, 69621, rfl, rfl, .inr ⟨by decide, by decide⟩, _, _, rfl, rfl, _, 12345, rfl, rfl, _, 2147483647, rfl, rfl, (show (0 : Int) < 2147483647 by decide), _, rfl, d, _, 3, 3, rfl, rfl, upd_same, rfl, ?_⟩
          rw [upd_upd]
          have z := mod_lt (a := s * 48271 + n % 2147483629 * 69621 + 12345) (k := 2147483647) (by decide)
          exact ⟨⟨_, _, rfl⟩, dr_set hL hne (by omega) (Int.le_refl 0) z.1 z.2, but_upd⟩
      · exact ⟨⟨_, _, rfl⟩, hD, But.refl d H⟩
    · exact ⟨⟨_, _, rfl⟩, hD, But.refl d H⟩
  · rintro σ' H' ⟨⟨x, y, rfl⟩, hD', hB⟩
    obtain ⟨ns, i, r, s, hd, hL, i0, r0, s0, s1⟩ := id hD'
    refine ⟨_, rfl, d, _, 2, _, rfl, rfl, SqL.of hd, rfl, _, rfl, r, k, rfl, rfl, _, rfl, ite2 (fun c1 => ?_) (fun c1 => ?_)⟩
    · refine ⟨_, rfl, d, _, 2, _, rfl, rfl, SqL.of hd, rfl, _, rfl, r, k, rfl, rfl, (show (0 : Int) < k by omega), ?_⟩
      refine ⟨_, rfl, d, _, 2, _, rfl, rfl, SqL.of hd, rfl, _, rfl, r, k, rfl, rfl, ⟨by omega, k2⟩, _, rfl, d, _, 2, 2, rfl, rfl, hd, rfl, ?_⟩
      have z := mod_lt (a := r) k1
      refine ⟨_, rfl, q _ _ z.1 z.2 (dr_set hL hne i0 (Int.ediv_nonneg r0 (by omega)) s0 s1) (hB.trans but_upd)⟩
    · refine ⟨_, rfl, d, _, 3, _, rfl, rfl, SqL.of hd, rfl, _, rfl, d, _, 3, _, rfl, rfl, SqL.of hd, rfl, s, s, rfl, rfl, .inl ⟨by omega, by omega⟩, _, 2147483629, rfl, rfl, (show (0 : Int) < 2147483629 by decide), _, 5, rfl, rfl, .inr ⟨by decide, by decide⟩,
        _, rfl, d, _, 3, _, rfl, rfl, SqL.of hd, rfl, s, 16811, rfl, rfl, .inr ⟨by decide, by decide⟩, _, _, rfl, rfl, _, 2531011, rfl, rfl, _, 2147483647, rfl, rfl, (show (0 : Int) < 2147483647 by decide), _, rfl, d, _, 3, 3, rfl, rfl, hd, rfl, ?_⟩
      have z := mod_lt (a := s * s % 2147483629 * 5 + s * 16811 + 2531011) (k := 2147483647) (by decide)
      refine ⟨_, rfl, d, _, 3, _, rfl, rfl, SqL.of upd_same, rfl, _, 61, rfl, rfl, ⟨by decide, by decide⟩, _, rfl, d, _, 3, _, rfl, rfl, SqL.of upd_same, rfl, _, 8191, rfl, rfl, (show (0 : Int) < 8191 by decide), _, 31, rfl, rfl, .inr ⟨by decide, by decide⟩, _, _, rfl, rfl, _, rfl, _, k, rfl, rfl, (show (0 : Int) < k by omega), ?_⟩
      exact q _ _ (mod_lt k1).1 (mod_lt k1).2 (dr_set hL hne i0 r0 z.1 z.2) (hB.trans but_upd)
theorem ok_pick (T : Tops w K mg) : FnOk P w K mg base CX0 2 T.fl_pick T.dl_pick ["_law_draw", "_law_row"] (spPick K) := by
  have Gl_take : FnOk P w K mg base CX0 1 T.fl_take T.dl_take ["_law_draw", "_law_sides"] spTake := ok_take T
  refine T.Fl_pick.ok scl_pick (fun vs H Q E h => ?_) (fun cdv A outer s H vs Q E hr h => ?_)
  · obtain ⟨d, L, x, n, rfl, _⟩ := h
    rfl
  obtain ⟨d, L, x, n, rfl, hD, n0, n1, q⟩ := h
  refine ⟨_, (pss_one (ps_ret (pe_ix ix_seq (pv 1) (pe_call Gl_take (hr.mono (by omega)) (by rfl) T.gl_take T.Fl_take.kp T.bl_take .nil pass0 (pa_cons (pv 0) (pa_cons (pe_callB call_len (by rfl) T.mlen PySem.boot_len (pa_cons (pv 1) pa_nil)) pa_nil))) (fun _ _ => rfl)))), ?_⟩
  rcases q with ⟨z, rfl, rfl, q⟩ | ⟨a, xs, rfl, na, hS, rfl, q⟩
  · refine ⟨_, rfl, _, rfl, _, rfl, .str z, z.length, rfl, ⟨sz (by omega), rfl⟩, d, L, (z.length : Int), rfl, hD, by omega, by omega, fun g H' g0 g1 hD' hB => ?_⟩
    have e := len_tl z
    obtain ⟨c, hc, hm⟩ := atI_lt (xs := tl z) g0 (by omega)
    exact .inr (.inr ⟨z, g, c, rfl, rfl, sz (by omega), hc, q c H' hm hD' hB⟩)
  · refine ⟨_, rfl, _, rfl, _, rfl, .ref a, xs.length, rfl, .inl ⟨xs, hS, rfl⟩, d, L, (xs.length : Int), rfl, hD, by omega, by omega, fun g H' g0 g1 hD' hB => ?_⟩
    obtain ⟨v, hv, hm⟩ := atI_lt (xs := xs) g0 (by omega)
    exact .inl ⟨a, xs, g, v, rfl, rfl, SqL.but hS hB na, hv, q v H' hm hD' hB⟩
theorem ok_kept (T : Tops w K mg) : FnOk P w K mg base CX0 1 T.fl_kept_words T.dl_kept_words [] spKept := by
  refine T.Fl_kept_words.ok scl_kept_words (fun vs H Q E h => ?_) (fun cdv A outer s H vs Q E hr h => ?_)
  · obtain ⟨rfl, _⟩ := h
    rfl
  obtain ⟨rfl, q⟩ := h
  refine ⟨_, (pss_one (ps_ret (pe_split pe_str pe_str))), ?_⟩
  refine ⟨⟨_, rfl⟩, _, _, rfl, rfl, by decide +kernel, by decide +kernel, fun p np => ?_⟩
  refine q p _ np ?_
  rw [kept_split]
end
end K06

set_option Elab.async false
set_option linter.all false
set_option maxRecDepth 100000
set_option maxHeartbeats 4000000
namespace K06
open PySem PySem.Spec PyProof.Rows L2 OG
open C8 (pss_cut pe_gc)
open OGX

section
variable {P : Program} {w : World} {K : PySem.W.Frag} {mg : Str → Option Value} {base : Heap}
theorem ok_some_end (T : Tops w K mg) : FnOk P w K mg base CX0 3 T.fl_some_end T.dl_some_end ["_law_draw", "_law_scope", "_law_wide"] spSomeEnd := by
  have Gl_take : FnOk P w K mg base CX0 1 T.fl_take T.dl_take ["_law_draw", "_law_sides"] spTake := ok_take T
  have Gl_pick : FnOk P w K mg base CX0 2 T.fl_pick T.dl_pick ["_law_draw", "_law_row"] (spPick K) := ok_pick T
  refine T.Fl_some_end.ok (k := 2) scl_some_end (fun vs H Q E h => ?_) (fun cdv A outer s H vs Q E hr h => ?_)
  · obtain ⟨d, L, sc, ns, wide, rfl, _⟩ := h
    rfl
  obtain ⟨d, L, sc, ns, wide, rfl, hD, hsc, nsd, hne, hlen, q⟩ := h
  refine ⟨_, (pss_cons (ps_set (i := 3) scl_some_end.nd rfl (Or.inl rfl) (pe_ix ix_list (pe_lst (pa_cons pe_int (pa_cons (pe_call Gl_take (hr.mono (by omega)) (by rfl) T.gl_take T.Fl_take.kp T.bl_take .nil pass0 (pa_cons (pv 0) (pa_cons pe_int pa_nil))) (pa_cons (pe_call Gl_take (hr.mono (by omega)) (by rfl) T.gl_take T.Fl_take.kp T.bl_take .nil pass0 (pa_cons (pv 0) (pa_cons (pe_ix ix_list (pe_lst (pa_cons pe_int (pa_cons pe_int pa_nil))) (pe_callTy call_int1 (by rfl) T.mint (by decide +kernel) (pa_cons (pv 2) pa_nil)) (fun _ _ => rfl)) pa_nil))) pa_nil)))) (pe_call Gl_take (hr.mono (by omega)) (by rfl) T.gl_take T.Fl_take.kp T.bl_take .nil pass0 (pa_cons (pv 0) (pa_cons pe_int pa_nil))) (fun _ _ => rfl)))
 (pss_cons (ps_if (pt_cmpR op_eq (pe_call Gl_take (hr.mono (by omega)) (by rfl) T.gl_take T.Fl_take.kp T.bl_take .nil pass0 (pa_cons (pv 0) (pa_cons pe_int pa_nil))) pe_int (nomark _))
  (pss_one (ps_ret (pe_tup (pa_cons pe_str (pa_cons (pv 3) pa_nil)))))
  pss_nil)
 (pss_one (ps_ret (pe_tup (pa_cons (pe_call Gl_pick (hr.mono (by omega)) (by rfl) T.gl_pick T.Fl_pick.kp T.bl_pick .nil pass0 (pa_cons (pv 0) (pa_cons (pv 1) pa_nil))) (pa_cons (pe_op op_mul (pv 3) (pe_ix ix_list (pe_lst (pa_cons pe_int (pa_cons (pe_un un_neg pe_int) pa_nil))) (pe_call Gl_take (hr.mono (by omega)) (by rfl) T.gl_take T.Fl_take.kp T.bl_take .nil pass0 (pa_cons (pv 0) (pa_cons pe_int pa_nil))) (fun _ _ => rfl))) pa_nil))))))), ?_⟩
  -- more
  refine ⟨_, rfl, d, L, 5, rfl, hD, by decide, by decide, fun g1 H1 a1 b1 hD1 hB1 => ?_⟩
  have G1 : Go (· = d) H H1 := Go.but hD hB1 rfl
  refine ⟨_, rfl, (by show 2 ≤ sizeLine; decide), fun l nl => ?_⟩
  have hw : ∃ k : Int, atI [V.int 5, .int 100] (if wide = true then 1 else 0) = some (.int k) ∧ 1 ≤ k ∧ k ≤ 100 := by
    cases wide
    · exact ⟨5, rfl, by decide, by decide⟩
    · exact ⟨100, rfl, by decide, by decide⟩
  obtain ⟨kw, hkw, kw1, kw2⟩ := hw
  refine ⟨_, rfl, .inr ⟨wide, rfl, l, _, _, _, rfl, rfl, SqL.of upd_same, hkw, d, L, kw, rfl, hD1.new nl, kw1, by omega, fun g2 H2 a2 b2 hD2 hB2 => ?_⟩⟩
  have G2 : Go (· = d) H H2 := (G1.new nl).trans (Go.but (hD1.new nl) hB2 rfl)
  refine ⟨(by show 3 ≤ sizeLine; decide), fun l2 nl2 => ?_⟩
  refine ⟨_, rfl, d, L, 3, rfl, hD2.new nl2, by decide, by decide, fun g3 H3 a3 b3 hD3 hB3 => ?_⟩
  have G3 : Go (· = d) H H3 := (G2.new nl2).trans (Go.but (hD2.new nl2) hB3 rfl)
  have hl2 : H3 l2 = some (.lst [.int 0, .int g1, .int g2]) := by
    rw [hB3 l2 (hD2.neNew nl2).1]
    exact upd_same
  obtain ⟨v, hv, hm⟩ := atI_lt (xs := [V.int 0, .int g1, .int g2]) a3 b3
  obtain ⟨m, rfl, hm2⟩ := mem_ints3 hm
  have m0 : 0 ≤ m ∧ m ≤ 99 := by omega
  refine ⟨l2, _, g3, _, rfl, rfl, SqL.of hl2, hv, ?_⟩
  -- if take(draw, 3) == 0
  refine ⟨_, rfl, d, L, 3, rfl, hD3, by decide, by decide, fun g4 H4 a4 b4 hD4 hB4 => ?_⟩
  have G4 : Go (· = d) H H4 := G3.trans (Go.but hD3 hB4 rfl)
  refine ⟨rfl, _, rfl, ite2 (fun c1 => ?_) (fun c1 => ?_)⟩
  · refine ⟨_, rfl, (by show 2 ≤ sizeLine; decide), fun p np => ?_⟩
    exact q _ ("", m) _ (rp_tup upd_same (rpl_cons rfl (rpl_cons rfl rpl_nil))) (.inl ⟨rfl, m0.1, m0.2⟩) (hD4.new np) (G4.new np)
  · have hsc4 := G4.at hsc nsd
    have hpos : 0 < ns.length := List.length_pos_iff.mpr hne
    refine ⟨_, rfl, _, rfl, d, L, _, ns.length, rfl, hD4, hpos, by omega, .inr ⟨sc, ns.map V.str, rfl, nsd, SqL.of hsc4, List.length_map _, fun y H5 hy hD5 hB5 => ?_⟩⟩
    obtain ⟨x, rfl, hx⟩ := mem_strs hy
    have G5 : Go (· = d) H H5 := G4.trans (Go.but hD4 hB5 rfl)
    refine ⟨_, rfl, 1, rfl, (by show 2 ≤ sizeLine; decide), fun l3 nl3 => ?_⟩
    refine ⟨_, rfl, d, L, 2, rfl, hD5.new nl3, by decide, by decide, fun g6 H6 a6 b6 hD6 hB6 => ?_⟩
    have G6 : Go (· = d) H H6 := (G5.new nl3).trans (Go.but (hD5.new nl3) hB6 rfl)
    have hl3 : H6 l3 = some (.lst [.int 1, .int (-1)]) := by
      rw [hB6 l3 (hD5.neNew nl3).1]
      exact upd_same
    obtain ⟨v2, hv2, hmm⟩ := atI_lt (xs := [V.int 1, .int (-1)]) a6 b6
    obtain ⟨s2, rfl, hs2⟩ := mem_ints2 hmm
    refine ⟨l3, _, g6, _, rfl, rfl, SqL.of hl3, hv2, m, s2, rfl, rfl, .inl ⟨by omega, by omega⟩, ?_⟩
    refine ⟨(by show 2 ≤ sizeLine; decide), fun p np => ?_⟩
    have b1 : -99 ≤ m * s2 ∧ m * s2 ≤ 99 := by
      rcases hs2 with rfl | rfl
      · omega
      · omega
    exact q _ (x, m * s2) _ (rp_tup upd_same (rpl_cons rfl (rpl_cons rfl rpl_nil))) (.inr ⟨hx, b1.1, b1.2⟩) (hD6.new np) (G6.new np)
theorem ok_leaf (T : Tops w K mg) : FnOk P w K mg base CX0 4 T.fl_leaf T.dl_leaf ["_law_draw", "_law_kit", "_law_scope", "_law_deep"] spLeaf := by
  have Gl_take : FnOk P w K mg base CX0 1 T.fl_take T.dl_take ["_law_draw", "_law_sides"] spTake := ok_take T
  refine T.Fl_leaf.ok (k := 3) scl_leaf (fun vs H Q E h => ?_) (fun cdv A outer s H vs Q E hr h => ?_)
  · obtain ⟨d, L, k, kd, sc, dp, r, fig, wide, rfl, _⟩ := h
    rfl
  obtain ⟨d, L, k, kd, sc, dp, r, fig, wide, rfl, hD, ⟨hk, hkd⟩, nkd, q⟩ := h
  refine ⟨_, (pss_cons (ps_setLc (i := 4) (own := [("_law_name", 5)]) rfl scl_leaf.nd rfl rfl (sw_true rfl rfl rfl (by decide +kernel)) (pi_list (pe_callB (call_sortedD rfl) (by rfl) T.msorted (by decide +kernel) (pa_cons (pe_ix ix_list (pv 1) pe_int (fun _ _ => rfl)) pa_nil))) (blkOk_by (N := Nl_leaf) (sc := defScope sl_leaf) (by decide +kernel)) (fun _ _ _ _ _ => (pg_name (i := 5) scl_leaf.nd rfl (Or.inl rfl))) (fun _ _ _ _ _ => (pts_one (PW.pt (pw_and (pt_cmpR op_lt (pe_op op_add (pe_ix (ix_tupK (K := K) rfl) (pe_dget (hu_of hr) (pe_ix (ix_listK (K := K) rfl) (pv 1) pe_int (fun _ _ => rfl)) (pv 5) (fun _ _ => rfl)) pe_int (fun _ _ => rfl)) (pv 3)) pe_int (nomark _)) (pw_and1 (pt_cmpR op_lt (pe_ix (ix_tupK (K := K) rfl) (pe_dget (hu_of hr) (pe_ix (ix_listK (K := K) rfl) (pv 1) pe_int (fun _ _ => rfl)) (pv 5) (fun _ _ => rfl)) pe_int (fun _ _ => rfl)) pe_int (nomark _))))))) (fun _ _ _ _ _ => (pv 5)))
 (pss_cons (ps_if (PW.pt (pw_and (pt_cmpR (op_neD hr.units) (pv 4) (pe_lst pa_nil) (nomark _)) (pw_and1 (pt_cmpR op_eq (pe_call Gl_take (hr.mono (by omega)) (by rfl) T.gl_take T.Fl_take.kp T.bl_take .nil pass0 (pa_cons (pv 0) (pa_cons pe_int pa_nil))) pe_int (nomark _)))))
  pss_never
  pss_nil)
 (pss_one (ps_ret (pe_tup (pa_cons pe_str (pa_cons (pe_ix ix_list (pe_lst (pa_cons (pe_call Gl_take (hr.mono (by omega)) (by rfl) T.gl_take T.Fl_take.kp T.bl_take .nil pass0 (pa_cons (pv 0) (pa_cons pe_int pa_nil))) (pa_cons (pe_call Gl_take (hr.mono (by omega)) (by rfl) T.gl_take T.Fl_take.kp T.bl_take .nil pass0 (pa_cons (pv 0) (pa_cons pe_int pa_nil))) pa_nil))) (pe_call Gl_take (hr.mono (by omega)) (by rfl) T.gl_take T.Fl_take.kp T.bl_take .nil pass0 (pa_cons (pv 0) (pa_cons pe_int pa_nil))) (fun _ _ => rfl)) pa_nil))))))), ?_⟩
  -- fit = []
  refine ⟨_, rfl, k, _, 1, _, rfl, rfl, SqL.of hk, rfl, kd, [], [], rfl, .inl hkd, rfl, by decide, fun ys p hperm _ np => ?_⟩
  have ey : ys = [] := List.Perm.eq_nil hperm
  subst ey
  refine ⟨p, rfl, ⟨_, SqL.of upd_same⟩, fun F nF => ?_⟩
  refine lc_list (xs := []) (fun i H' => H' = upd (upd H p (.lst [])) F (.lst [])) rfl (fun i H' _ e => by subst e; exact SqL.of (by rw [upd_ne (ne_of_none upd_same nF)]; exact upd_same)) (fun i x H' hx _ => by cases hx) (fun H' e => ?_)
  subst e
  have hD1 : Dr (upd (upd H p (.lst [])) F (.lst [])) d L := (hD.new np).new nF
  have G1 : Go (· = d) H (upd (upd H p (.lst [])) F (.lst [])) := ((Go.refl _ H).new np).new nF
  -- if fit != [] and ..
  refine ⟨_, rfl, Nat.zero_le _, fun e ne => ?_⟩
  have hF : (upd (upd (upd H p (.lst [])) F (.lst [])) e (.lst [])) F = some (.lst []) := by
    rw [upd_ne (ne_of_none upd_same ne)]
    exact upd_same
  refine ⟨.list [], .list [], .lst (SqL.of hF) .nil, .lst (SqL.of upd_same) .nil, by decide +kernel, by decide +kernel, ?_⟩
  have ee : PyData.eqv (.list []) (.list []) = true := by decide +kernel
  rw [ee]
  refine ⟨false, rfl, iteF ?_⟩
  have hD2 := hD1.new (o := .lst []) ne
  have G2 := G1.new (o := .lst []) ne
  refine iteF ?_
  -- return ('step', ..)
  refine ⟨_, rfl, d, L, 5, rfl, hD2, by decide, by decide, fun g3 H3 a3 b3 hD3 hB3 => ?_⟩
  have G3 := G2.trans (Go.but hD2 hB3 (M := (· = d)) rfl)
  refine ⟨_, rfl, d, L, 100, rfl, hD3, by decide, by decide, fun g4 H4 a4 b4 hD4 hB4 => ?_⟩
  have G4 := G3.trans (Go.but hD3 hB4 (M := (· = d)) rfl)
  refine ⟨(by show 2 ≤ sizeLine; decide), fun l nl => ?_⟩
  refine ⟨_, rfl, d, L, 2, rfl, hD4.new nl, by decide, by decide, fun g5 H5 a5 b5 hD5 hB5 => ?_⟩
  have G5 := (G4.new nl).trans (Go.but (hD4.new nl) hB5 (M := (· = d)) rfl)
  have hl : H5 l = some (.lst [.int g3, .int g4]) := by
    rw [hB5 l (hD4.neNew nl).1]
    exact upd_same
  obtain ⟨v, hv, hm⟩ := atI_lt (xs := [V.int g3, .int g4]) a5 b5
  obtain ⟨m, rfl, hm2⟩ := mem_ints2 hm
  refine ⟨l, _, g5, _, rfl, rfl, SqL.of hl, hv, (by show 2 ≤ sizeLine; decide), fun t nt => ?_⟩
  exact q _ (.step m) _ (rp_tup upd_same (rpl_cons rfl (rpl_cons rfl rpl_nil))) (fun _ _ => ⟨by omega, by omega⟩) rfl (hD5.new nt) (G5.new nt)
theorem ok_fresh (T : Tops w K mg) : FnOk P w K mg base CX0 3 T.fl_fresh T.dl_fresh ["_law_draw", "_law_taken"] spFresh := by
  have Gl_take : FnOk P w K mg base CX0 1 T.fl_take T.dl_take ["_law_draw", "_law_sides"] spTake := ok_take T
  have Gl_pick : FnOk P w K mg base CX0 2 T.fl_pick T.dl_pick ["_law_draw", "_law_row"] (spPick K) := ok_pick T
  have Gl_kept_words : FnOk P w K mg base CX0 1 T.fl_kept_words T.dl_kept_words [] spKept := ok_kept T
  refine T.Fl_fresh.ok (k := 2) scl_fresh (fun vs H Q E h => ?_) (fun cdv A outer s H vs Q E hr h => ?_)
  · obtain ⟨d, L, sc, ns, rfl, _⟩ := h
    rfl
  obtain ⟨d, L, sc, ns, rfl, hD, hsc, nsd, hlen, q⟩ := h
  refine ⟨_, (pss_cons (ps_set (i := 2) scl_fresh.nd rfl (Or.inl rfl) (pe_ix ix_list (pe_lst (pa_cons pe_int (pa_cons pe_int (pa_cons pe_int (pa_cons pe_int (pa_cons pe_int (pa_cons (pe_op op_add pe_int (pe_call Gl_take (hr.mono (by omega)) (by rfl) T.gl_take T.Fl_take.kp T.bl_take .nil pass0 (pa_cons (pv 0) (pa_cons pe_int pa_nil)))) pa_nil))))))) (pe_call Gl_take (hr.mono (by omega)) (by rfl) T.gl_take T.Fl_take.kp T.bl_take .nil pass0 (pa_cons (pv 0) (pa_cons pe_int pa_nil))) (fun _ _ => rfl)))
 (pss_cons (ps_set (i := 3) scl_fresh.nd rfl (Or.inl rfl) (pe_join pe_str (pe_lc (own := [("_law_k", 6)]) rfl scl_fresh.nd (pi_range1 (by rfl) T.mrange (pa_cons (pv 2) pa_nil)) (blkOk_by (N := Nl_fresh) (sc := defScope sl_fresh) (by decide +kernel)) (fun _ _ _ _ _ => (pg_name (i := 6) scl_fresh.nd rfl (Or.inl rfl))) (fun _ _ _ _ _ => pts_nil) (fun _ _ _ _ _ => (pe_call Gl_pick (hr.mono (by omega)) (by rfl) T.gl_pick T.Fl_pick.kp T.bl_pick .nil pass0 (pa_cons (pv 0) (pa_cons pe_str pa_nil)))))))
 (pss_cut (ps_if (PW.pt (pw_and (pt_cmpR op_notIn_seq (pv 3) (pv 1) (by rfl)) (pw_and1 (pt_cmpR op_notIn_seq (pv 3) (pe_call0 Gl_kept_words (hr.mono (by omega)) (by rfl) T.gl_kept_words T.Fl_kept_words.kp T.bl_kept_words .nil pass0) (by rfl)))))
  (pss_one (ps_ret (pv 3)))
  pss_nil)
 (pss_cons (ps_setLc (i := 4) (own := [("_law_sign", 5)]) rfl scl_fresh.nd rfl rfl (sw_true rfl rfl rfl (by decide +kernel)) (pi_str pe_str) (blkOk_by (N := Nl_fresh) (sc := defScope sl_fresh) (by decide +kernel)) (fun _ _ _ _ _ => (pg_name (i := 5) scl_fresh.nd rfl (Or.inl rfl))) (fun _ _ _ _ _ => pts_nil) (fun _ _ _ _ _ => (pe_op op_repS (pv 5) pe_int)))
 (pss_one (ps_ret (pe_ix ix_list (pe_lc (own := [("_law_one", 7)]) rfl scl_fresh.nd (pi_list (pv 4)) (blkOk_by (N := Nl_fresh) (sc := defScope sl_fresh) (by decide +kernel)) (fun _ _ _ _ _ => (pg_name (i := 7) scl_fresh.nd rfl (Or.inl rfl))) (fun _ _ _ _ _ => (pts_one (pt_cmpR (op_notIn_seqK (K := K) rfl) (pv 7) (pv 1) (by rfl)))) (fun _ _ _ _ _ => (pv 7))) pe_int (fun _ _ => rfl)))))))), ?_⟩
  -- size
  refine ⟨_, rfl, d, L, 8, rfl, hD, by decide, by decide, fun g1 H1 a1 b1 hD1 hB1 => ?_⟩
  have G1 : Go (· = d) H H1 := Go.but hD hB1 rfl
  refine ⟨1, g1, rfl, rfl, (by show 6 ≤ sizeLine; decide), fun l nl => ?_⟩
  refine ⟨_, rfl, d, L, 6, rfl, hD1.new nl, by decide, by decide, fun g2 H2 a2 b2 hD2 hB2 => ?_⟩
  have G2 : Go (· = d) H H2 := (G1.new nl).trans (Go.but (hD1.new nl) hB2 rfl)
  have hl : H2 l = some (.lst [.int 1, .int 1, .int 2, .int 3, .int 8, .int (1 + g1)]) := by
    rw [hB2 l (hD1.neNew nl).1]
    exact upd_same
  obtain ⟨v, hv, hm⟩ := atI_lt (xs := [V.int 1, .int 1, .int 2, .int 3, .int 8, .int (1 + g1)]) a2 b2
  obtain ⟨m, rfl, hm2⟩ := mem_ints (ns := [1, 1, 2, 3, 8, 1 + g1]) hm
  have m1 : 1 ≤ m ∧ m ≤ 8 := by
    simp only [List.mem_cons, List.not_mem_nil, or_false] at hm2
    omega
  refine ⟨l, _, g2, _, rfl, rfl, SqL.of hl, hv, ?_⟩
  -- name
  refine ⟨⟨_, rfl⟩, _, rfl, m, rfl, by omega, by omega, fun Dn nD => ?_⟩
  refine lc_range (lo := 0) (n := m.toNat) (fun i H' => Dr H' d L ∧ Go (· = d) H H' ∧ ∃ cs : List Nat, cs.length = i ∧ (∀ c ∈ cs, c ∈ abc) ∧ H' Dn = some (.lst ((cs.map fun c => S [c]).map V.str))) ⟨hD2.new nD, G2.new nD, [], rfl, (fun _ h => by cases h), upd_same⟩ (fun j H4 hj hP => ?_) (fun H4 hP => ?_)
  · obtain ⟨hD4, G4, cs, hcs, hab, hl4⟩ := hP
    refine ⟨rfl, yes_go ?_⟩
    refine ⟨_, rfl, d, L, _, 26, rfl, hD4, by decide, by decide, .inl ⟨_, rfl, by decide +kernel, fun c H5 hc hD5 hB5 => ?_⟩⟩
    have nDd := hD2.neNew nD
    have hl5 : H5 Dn = some (.lst ((cs.map fun c => S [c]).map V.str)) := by
      rw [hB5 Dn nDd.1]
      exact hl4
    have nH : H Dn = none := G2.free nD nDd.1
    refine ⟨_, hl5, ?_, hD5.upd nDd.1 nDd.2, (G4.trans (Go.but hD4 hB5 rfl)).own nH, cs ++ [c], ?_, ?_, ?_⟩
    · rw [List.length_map, List.length_map]
      exact szl (by omega)
    · rw [List.length_append, hcs]
      rfl
    · intro x hx
      rcases List.mem_append.mp hx with h1 | h1
      · exact hab x h1
      · rw [List.mem_singleton.mp h1]
        exact hc
    · rw [upd_same, List.map_append, List.map_append]
      rfl
  · obtain ⟨hD4, G4, cs, hcs, hab, hl4⟩ := hP
    refine ⟨_, Dn, cs.map fun c => S [c], rfl, rfl, .inl (SqL.of hl4), ?_, ?_⟩
    · rw [sum_ones, List.length_map]
      have : ("" : Str).length = 0 := by decide +kernel
      rw [this]
      omega
    rw [join_signs]
    have hsc4 := G4.at hsc nsd
    have hcl : 1 ≤ cs.length ∧ cs.length ≤ 8 := by omega
    have flat : ∀ zs : List Str, (zs.map V.str).all flatV = true := fun zs => by
      rw [List.all_eq_true]
      intro x hx
      obtain ⟨z, _, rfl⟩ := List.mem_map.mp hx
      rfl
    refine ⟨fun σ' H' => (∃ x2 x3 x4 x5 x6 x7, σ' = [some (.ref d), some (.ref sc), x2, x3, x4, x5, x6, x7]) ∧ Dr H' d L ∧ Go (· = d) H H', ?_, ?_⟩
    · refine ⟨_, rfl, _, rfl, sc, _, rfl, .inl (SqL.of hsc4), rfl, flat ns, _, rfl, ite2 (fun c1 => ?_) (fun c1 => ?_)⟩
      · refine ⟨_, rfl, rfl, fun p H5 np e5 => ?_⟩
        subst e5
        refine ⟨p, _, rfl, .inl (SqL.of upd_same), rfl, flat kept, _, rfl, ite2 (fun c2 => ?_) (fun c2 => ?_)⟩
        · have n1 : S cs ∉ ns := fun hn => by
            have c3 : (!inV (.str (S cs)) (ns.map V.str)) = true := c1
            rw [inV_str, decide_eq_true hn] at c3
            cases c3
          have n2 : S cs ∉ kept := fun hn => by
            have c3 : (!inV (.str (S cs)) (kept.map V.str)) = true := c2
            rw [inV_str, decide_eq_true hn] at c3
            cases c3
          exact ⟨_, rfl, q _ _ (name_of hcl.1 hcl.2 n2 hab) n1 (hD4.new np) (G4.new np)⟩
        · exact ⟨⟨_, _, _, _, _, _, rfl⟩, hD4.new np, G4.new np⟩
      · exact ⟨⟨_, _, _, _, _, _, rfl⟩, hD4, G4⟩
    · rintro σ' H5 ⟨⟨x2, x3, x4, x5, x6, x7, rfl⟩, hD5, G5⟩
      -- spare
      refine ⟨_, rfl, fun Sp nS => ?_⟩
      refine lc_str_val (fun c => .str (S [c, c])) 5 rfl (fun v => rfl) (by decide +kernel) nS (fun c _ H2 Q2 _ h => ⟨_, rfl, _, 2, rfl, rfl, by decide, by decide, by show 1 * 2 ≤ 100000; decide, h⟩) (fun H6 sm6 hl6 => ?_)
      have hD6 := hD5.same sm6
      have G6 : Go (· = d) H H6 := G5.trans (Go.same sm6)
      have hl6' : H6 Sp = some (.lst (spare.map V.str)) := by
        rw [hl6]
        unfold spare
        rw [List.map_map]
        rfl
      have nS6 := hD5.neNew nS
      -- the first that is not taken
      refine ⟨_, rfl, Sp, rfl, ⟨_, SqL.of hl6'⟩, fun R nR => ?_⟩
      refine lc_list (xs := spare.map V.str) (fun i H' => Same H6 H' ∧ H' R = some (.lst (((spare.take i).filter fun x => !decide (x ∈ ns)).map V.str))) ⟨same_new nR, upd_same⟩ (fun i H' _ hP => SqL.of (hP.1 _ _ hl6')) (fun i x H' hx hP => ?_) (fun H' hP => ?_)
      · obtain ⟨sm, hl7⟩ := hP
        have hx2 : ∃ z, spare[i]? = some z ∧ x = .str z := by
          rw [List.getElem?_map] at hx
          cases hz : spare[i]? with
          | none => rw [hz] at hx; cases hx
          | some z => rw [hz] at hx; exact ⟨z, rfl, (Option.some.inj hx).symm⟩
        obtain ⟨z, hz, rfl⟩ := hx2
        refine ⟨rfl, ?_⟩
        refine ⟨_, rfl, _, rfl, sc, _, rfl, .inl (SqL.of (sm _ _ (G6.at hsc nsd))), rfl, flat ns, _, rfl, ite2 (fun c2 => ?_) (fun c2 => ?_)⟩
        · refine ⟨_, rfl, _, hl7, ?_, Same.upd_new sm nR, ?_⟩
          · rw [List.length_map]
            have h1 : ((spare.take i).filter fun x => !decide (x ∈ ns)).length ≤ (spare.take i).length := List.length_filter_le _ _
            have h2 : (spare.take i).length ≤ spare.length := by rw [List.length_take]; omega
            have h3 : spare.length = 26 := by decide +kernel
            exact szl (by omega)
          · have c3 : (!inV (.str z) (ns.map V.str)) = true := c2
            rw [inV_str] at c3
            rw [upd_same, List.take_add_one, hz, List.filter_append, List.map_append]
            have e : (Option.toList (some z)).filter (fun x => !decide (x ∈ ns)) = [z] := by
              show List.filter (fun x => !decide (x ∈ ns)) [z] = [z]
              rw [List.filter_cons, if_pos c3]
              rfl
            rw [e]
            rfl
        · have c3 : (!inV (.str z) (ns.map V.str)) = false := Bool.eq_false_iff.mpr c2
          rw [inV_str] at c3
          refine ⟨sm, ?_⟩
          rw [hl7, List.take_add_one, hz, List.filter_append]
          have e : (Option.toList (some z)).filter (fun x => !decide (x ∈ ns)) = [] := by
            show List.filter (fun x => !decide (x ∈ ns)) [z] = []
            rw [List.filter_cons, if_neg (by rw [c3]; exact Bool.false_ne_true)]
            rfl
          rw [e, List.append_nil]
      · obtain ⟨sm, hl7⟩ := hP
        rw [List.length_map, List.take_length] at hl7
        have hf : ∃ z r, (spare.filter fun x => !decide (x ∈ ns)) = z :: r ∧ z ∈ spare ∧ z ∉ ns := by
          cases hfl : spare.filter fun x => !decide (x ∈ ns) with
          | nil =>
            obtain ⟨x, hx, hn⟩ := spare_free hlen
            have : x ∈ spare.filter fun x => !decide (x ∈ ns) := List.mem_filter.mpr ⟨hx, by simp [hn]⟩
            rw [hfl] at this
            cases this
          | cons z r =>
            have : z ∈ spare.filter fun x => !decide (x ∈ ns) := by rw [hfl]; exact List.mem_cons_self
            obtain ⟨h1, h2⟩ := List.mem_filter.mp this
            exact ⟨z, r, rfl, h1, by simpa using h2⟩
        obtain ⟨z, r, he, hz1, hz2⟩ := hf
        rw [he] at hl7
        refine ⟨R, _, 0, .str z, rfl, rfl, SqL.of hl7, atI_nat (j := 0) rfl, ?_⟩
        exact q z H' (spare_name hz1) hz2 (hD6.same sm) (G6.trans (Go.same sm))
/-- what drawn_body promises to a thing with n brackets left -/
def prevB : Nat → Sp
  | 0 => fun _ _ _ _ => False
  | m + 1 => spDrawBody m
theorem ok_drawn_thing (T : Tops w K mg) (n : Nat) (Gl_drawn_body : FnOk P w K mg base CX0 (4 + 2 * n) T.fl_drawn_body T.dl_drawn_body ["_law_draw", "_law_kit", "_law_scope", "_law_deep"] (prevB n)) :
    FnOk P w K mg base CX0 (5 + 2 * n) T.fl_drawn_thing T.dl_drawn_thing ["_law_draw", "_law_kit", "_law_scope", "_law_deep"] (spDrawThing n) := by
  have Gl_take : FnOk P w K mg base CX0 1 T.fl_take T.dl_take ["_law_draw", "_law_sides"] spTake := ok_take T
  have Gl_leaf : FnOk P w K mg base CX0 4 T.fl_leaf T.dl_leaf ["_law_draw", "_law_kit", "_law_scope", "_law_deep"] spLeaf := ok_leaf T
  have Gl_some_end : FnOk P w K mg base CX0 3 T.fl_some_end T.dl_some_end ["_law_draw", "_law_scope", "_law_wide"] spSomeEnd := ok_some_end T
  have Gl_fresh : FnOk P w K mg base CX0 3 T.fl_fresh T.dl_fresh ["_law_draw", "_law_taken"] spFresh := ok_fresh T
  have elev : 5 + 2 * n = (4 + 2 * n) + 1 := by omega
  rw [elev]
  refine T.Fl_drawn_thing.ok (k := 4 + 2 * n) scl_drawn_thing (fun vs H Q E h => ?_) (fun cdv A outer s H vs Q E hr h => ?_)
  · obtain ⟨d, L, k, kd, sc, r, fig, wide, ns, rfl, _⟩ := h
    rfl
  obtain ⟨d, L, k, kd, sc, r, fig, wide, ns, rfl, hD, ⟨hk, hkd⟩, nkd, nkL, r1, r2, hsc, nsd, nsk, hSc, hne, hlen, q⟩ := h
  refine ⟨_, (pss_cons (ps_asg (pe_op op_sub (pe_ix ix_list (pv 1) pe_int (fun _ _ => rfl)) pe_int) (pg_sub (pv 1) pe_int set_list))
 (pss_cons (ps_set (i := 4) scl_drawn_thing.nd rfl (Or.inl rfl) (pe_call Gl_take (hr.mono (by omega)) (by rfl) T.gl_take T.Fl_take.kp T.bl_take .nil pass0 (pa_cons (pv 0) (pa_cons pe_int pa_nil))))
 (pss_cons (ps_if (PW.pt (pw_or (pt_cmpR op_lt (pe_ix ix_list (pv 1) pe_int (fun _ _ => rfl)) pe_int (nomark _)) (pw_or (pt_cmpR op_gt (pv 3) pe_int (nomark _)) (pw_or1 (pt_cmpR op_lt (pv 4) pe_int (nomark _))))))
  (pss_one (ps_ret (pe_call Gl_leaf (hr.mono (by omega)) (by rfl) T.gl_leaf T.Fl_leaf.kp T.bl_leaf .nil pass0 (pa_cons (pv 0) (pa_cons (pv 1) (pa_cons (pv 2) (pa_cons (pv 3) pa_nil)))))))
  pss_nil)
 (pss_cut (ps_if (PW.pt (pw_and (pt_cmpR op_eq (pv 4) pe_int (nomark _)) (pw_and1 (pt_val (pe_ix ix_list (pv 1) pe_int (fun _ _ => rfl))))))
  (pss_one (ps_ret (pe_tup (pa_cons pe_str (pa_cons (pe_call Gl_drawn_body (hr.mono (by omega)) (by rfl) T.gl_drawn_body T.Fl_drawn_body.kp T.bl_drawn_body .nil pass0 (pa_cons (pv 0) (pa_cons (pv 1) (pa_cons (pv 2) (pa_cons (pe_op op_add (pv 3) pe_int) pa_nil))))) pa_nil)))))
  pss_nil)
 (pss_cons (ps_par (i := 7) (j := 8) (by rfl) scl_drawn_thing.nd rfl rfl (by decide) rfl rfl (pa_cons (pe_call Gl_some_end (hr.mono (by omega)) (by rfl) T.gl_some_end T.Fl_some_end.kp T.bl_some_end .nil pass0 (pa_cons (pv 0) (pa_cons (pv 2) (pa_cons (pe_ix ix_list (pv 1) pe_int (fun _ _ => rfl)) pa_nil)))) (pa_cons (pe_call Gl_some_end (hr.mono (by omega)) (by rfl) T.gl_some_end T.Fl_some_end.kp T.bl_some_end .nil pass0 (pa_cons (pv 0) (pa_cons (pv 2) (pa_cons (pe_ix ix_list (pv 1) pe_int (fun _ _ => rfl)) pa_nil)))) pa_nil)) (by rfl))
 (pss_cons (ps_if (pt_cmpR op_lt (pv 4) pe_int (nomark _))
  (pss_cons (ps_set (i := 9) scl_drawn_thing.nd rfl (Or.inl rfl) (pe_call Gl_fresh (hr.mono (by omega)) (by rfl) T.gl_fresh T.Fl_fresh.kp T.bl_fresh .nil pass0 (pa_cons (pv 0) (pa_cons (pv 2) pa_nil))))
 (pss_one (ps_ret (pe_tup (pa_cons pe_str (pa_cons (pv 9) (pa_cons (pv 7) (pa_cons (pv 8) (pa_cons (pe_call Gl_drawn_body (hr.mono (by omega)) (by rfl) T.gl_drawn_body T.Fl_drawn_body.kp T.bl_drawn_body .nil pass0 (pa_cons (pv 0) (pa_cons (pv 1) (pa_cons (pe_op op_cat (pv 2) (pe_lst (pa_cons (pv 9) pa_nil))) (pa_cons (pe_op op_add (pv 3) pe_int) pa_nil))))) pa_nil)))))))))
  pss_nil)
 (pss_cons (ps_asg (pe_op op_sub (pe_ix ix_list (pv 1) pe_int (fun _ _ => rfl)) pe_int) (pg_sub (pv 1) pe_int set_list))
 (pss_cons (ps_set (i := 5) scl_drawn_thing.nd rfl (Or.inl rfl) (pe_call Gl_drawn_body (hr.mono (by omega)) (by rfl) T.gl_drawn_body T.Fl_drawn_body.kp T.bl_drawn_body .nil pass0 (pa_cons (pv 0) (pa_cons (pv 1) (pa_cons (pv 2) (pa_cons (pe_op op_add (pv 3) pe_int) pa_nil))))))
 (pss_cons (ps_asg (pe_op op_add (pe_ix ix_list (pv 1) pe_int (fun _ _ => rfl)) pe_int) (pg_sub (pv 1) pe_int set_list))
 (pss_cut (ps_set (i := 6) scl_drawn_thing.nd rfl (Or.inl rfl) (pe_ifExp (pt_cmpR op_eq (pe_call Gl_take (hr.mono (by omega)) (by rfl) T.gl_take T.Fl_take.kp T.bl_take .nil pass0 (pa_cons (pv 0) (pa_cons pe_int pa_nil))) pe_int (nomark _)) (pe_tup pa_nil) (pe_call Gl_drawn_body (hr.mono (by omega)) (by rfl) T.gl_drawn_body T.Fl_drawn_body.kp T.bl_drawn_body .nil pass0 (pa_cons (pv 0) (pa_cons (pv 1) (pa_cons (pv 2) (pa_cons (pe_op op_add (pv 3) pe_int) pa_nil)))))))
 (pss_one (ps_ret (pe_tup (pa_cons pe_str (pa_cons (pv 7) (pa_cons (pv 8) (pa_cons (pv 5) (pa_cons (pv 6) pa_nil)))))))))))))))))), ?_⟩
  have ndk : kd ≠ k := ne_of hkd hk (fun z => by cases z)
  have ndd : kd ≠ d := by
    obtain ⟨zs, i0, i1, i2, z1, _⟩ := hD
    exact ne_of hkd z1 (fun z => by cases z)
  have nMsc : ¬ M2 d k sc := fun z => z.elim nsd nsk
  have nMkd : ¬ M2 d k kd := fun z => z.elim ndd ndk
  -- kit[0] = kit[0] - 1
  refine ⟨_, rfl, k, _, 0, _, rfl, rfl, SqL.of hk, rfl, (r : Int), 1, rfl, rfl, _, rfl, k, _, 0, 0, rfl, rfl, hk, rfl, ?_⟩
  have er : (r : Int) - 1 = ((r - 1 : Nat) : Int) := by omega
  have hk1 : (upd H k (.lst [.int ((r : Int) - 1), .ref kd, .bl fig, .bl wide])) k = some (.lst [.int ((r - 1 : Nat) : Int), .ref kd, .bl fig, .bl wide]) := by rw [upd_same, er]
  have hD1 : Dr (upd H k (.lst [.int ((r : Int) - 1), .ref kd, .bl fig, .bl wide])) d L := hD.upd nkd nkL
  have G1 : Go (M2 d k) H (upd H k (.lst [.int ((r : Int) - 1), .ref kd, .bl fig, .bl wide])) := (Go.refl _ H).set (.inr rfl) hk
  -- fork
  refine ⟨_, rfl, d, L, 9, rfl, hD1, by decide, by decide, fun f H2 f0 f1 hD2 hB2 => ?_⟩
  have G2 : Go (M2 d k) H H2 := G1.trans (Go.but hD1 hB2 (.inl rfl))
  have hk2 : H2 k = some (.lst [.int ((r - 1 : Nat) : Int), .ref kd, .bl fig, .bl wide]) := by
    rw [hB2 k nkd]
    exact hk1
  have hkd2 : H2 kd = some (.dK []) := G2.at hkd nMkd
  have hsc2 : H2 sc = some (.lst (ns.map V.str)) := G2.at hsc nMsc
  have hleaf : spLeaf [.ref d, .ref k, .ref sc, .int (4 - n)] H2 Q E0 := ⟨d, L, k, kd, sc, _, _, fig, wide, rfl, hD2, ⟨hk2, hkd2⟩, nkd, fun v t H3 hR hT hc hD3 G3 =>
    q v 1 (r - 1) H3 ⟨t, hR, hT ns n, hc⟩ (by omega) hD3 ⟨G3.at hk2 nkd, G3.at hkd2 ndd⟩ (G2.trans (G3.mono fun b e => .inl e))⟩
  refine ⟨_, rfl, k, _, 0, _, rfl, rfl, SqL.of hk2, rfl, _, 2, rfl, rfl, _, rfl, ite2 (fun c1 => ?_) (fun c1 => ?_)⟩
  · exact iteT ⟨_, rfl, _, rfl, _, rfl, _, rfl, hleaf⟩
  refine ⟨_, rfl, _, 3, rfl, rfl, _, rfl, ite2 (fun c2 => ?_) (fun c2 => ?_)⟩
  · exact iteT ⟨_, rfl, _, rfl, _, rfl, _, rfl, hleaf⟩
  refine ⟨_, rfl, _, 2, rfl, rfl, _, rfl, ite2 (fun c3 => ?_) (fun c3 => ?_)⟩
  · exact ⟨_, rfl, _, rfl, _, rfl, _, rfl, hleaf⟩
  have d1 : ¬ (((r - 1 : Nat) : Int) < 2) := fun z => c1 (decide_eq_true z)
  have d2 : ¬ ((3 : Int) < 4 - (n : Int)) := fun z => c2 (decide_eq_true z)
  cases n with
  | zero => exact absurd (by decide) d2
  | succ m =>
  have edeep : (4 - ((m + 1 : Nat) : Int) + 1) = 4 - (m : Int) := by omega
  have eargs : ∀ c : Addr, ([.ref d, .ref k, .ref c, .int (4 - ((m + 1 : Nat) : Int) + 1)] : List V) = [.ref d, .ref k, .ref c, .int (4 - (m : Int))] := fun c => by rw [edeep]
  -- double
  refine ⟨fun σ' H' => σ' = [some (.ref d), some (.ref k), some (.ref sc), some (.int (4 - ((m + 1 : Nat) : Int))), some (.int f), none, none, none, none, none] ∧ H' = H2, ?_, ?_⟩
  · refine ⟨_, rfl, rfl, _, rfl, ite2 (fun c4 => ?_) (fun c4 => ?_)⟩
    · refine ⟨_, rfl, k, _, 2, _, rfl, rfl, SqL.of hk2, rfl, fig, rfl, ite2 (fun c5 => ?_) (fun c5 => ?_)⟩
      · refine ⟨_, rfl, _, rfl, _, rfl, _, rfl, _, 1, rfl, rfl, d, L, k, kd, sc, r - 1, fig, wide, ns, eargs sc, hD2, ⟨hk2, hkd2⟩, nkd, nkL, by omega, by omega, hsc2, nsd, nsk, hSc, hne, by omega, fun v c r' H3 hp e hD3 hK3 G3 => ?_⟩
        obtain ⟨ts, hts, hR, hT, hc⟩ := hp
        refine ⟨(by show 2 ≤ sizeLine; decide), fun p np => ?_⟩
        exact q _ (1 + c) r' _ ⟨.twice ts, rp_tup upd_same (rpl_cons rfl (rpl_cons (hR.to (Imm.same (same_new np))) rpl_nil)), ⟨hts, m, rfl, hT⟩, by rw [← hc]; rfl⟩ (by omega) (hD3.new np)
          ⟨same_new np _ _ hK3.1, same_new np _ _ hK3.2⟩ ((G2.trans G3).new np)
      · exact ⟨rfl, rfl⟩
    · exact ⟨rfl, rfl⟩
  rintro σ' H' ⟨rfl, rfl⟩
  -- one, other
  refine ⟨_, rfl, _, rfl, _, rfl, k, _, 3, _, rfl, rfl, SqL.of hk2, rfl, d, L, sc, ns, wide, rfl, hD2, hsc2, nsd, hne, by omega, fun v1 e1 H3 hR1 hE1 hD3 G23 => ?_⟩
  have G3 : Go (M2 d k) H H3 := G2.trans (G23.mono fun b e => .inl e)
  have hk3 := G23.at hk2 nkd
  have hkd3 := G23.at hkd2 ndd
  have hsc3 := G23.at hsc2 nsd
  refine ⟨_, rfl, _, rfl, _, rfl, k, _, 3, _, rfl, rfl, SqL.of hk3, rfl, d, L, sc, ns, wide, rfl, hD3, hsc3, nsd, hne, by omega, fun v2 e2 H4 hR2 hE2 hD4 G34 => ?_⟩
  have G4 : Go (M2 d k) H H4 := G3.trans (G34.mono fun b e => .inl e)
  have hk4 := G34.at hk3 nkd
  have hkd4 := G34.at hkd3 ndd
  have hsc4 := G34.at hsc3 nsd
  have hR1' : Rp H4 v1 (encE e1) := hR1.to G34.im
  refine ⟨_, _, rfl, ?_⟩
  refine ⟨_, rfl, _, 6, rfl, rfl, _, rfl, ite2 (fun c6 => ?_) (fun c6 => ?_)⟩
  · -- for
    refine ⟨_, rfl, _, rfl, d, L, sc, ns, rfl, hD4, hsc4, nsd, by omega, fun x H5 hx hxn hD5 G45 => ?_⟩
    have G5 : Go (M2 d k) H H5 := G4.trans (G45.mono fun b e => .inl e)
    have hk5 := G45.at hk4 nkd
    have hkd5 := G45.at hkd4 ndd
    have hsc5 := G45.at hsc4 nsd
    refine ⟨_, rfl, _, rfl, _, rfl, _, rfl, _, rfl, _, rfl, _, rfl, (by show 1 ≤ sizeLine; decide), fun l nl => ?_⟩
    have s5 : Same H5 (upd H5 l (.lst [.str x])) := same_new nl
    refine ⟨sc, l, _, _, rfl, rfl, s5 _ _ hsc5, upd_same, ?_, fun s2 ns2 => ?_⟩
    · rw [List.length_map]
      show ns.length + 1 ≤ sizeLine
      exact sz (by omega)
    have s6 : Same H5 (upd (upd H5 l (.lst [.str x])) s2 (.lst (ns.map V.str ++ [.str x]))) := s5.trans (same_new ns2)
    have hD6 := (hD5.new (o := .lst [.str x]) nl).new (o := .lst (ns.map V.str ++ [.str x])) ns2
    have nn := (hD5.new (o := .lst [.str x]) nl).neNew ns2
    have n2k : s2 ≠ k := (ne_of_none (s5 _ _ hk5) ns2).symm
    have hs2 : (upd (upd H5 l (.lst [.str x])) s2 (.lst (ns.map V.str ++ [.str x]))) s2 = some (.lst ((ns ++ [x]).map V.str)) := by
      rw [upd_same, List.map_append]
      rfl
    refine ⟨_, rfl, _, 1, rfl, rfl, d, L, k, kd, s2, r - 1, fig, wide, ns ++ [x], eargs s2, hD6, ⟨s6 _ _ hk5, s6 _ _ hkd5⟩, nkd, nkL, by omega, by omega, hs2, nn.1, n2k, scOk_snoc hSc hx, by simp, by rw [List.length_append]; show ns.length + 1 + m ≤ 20; omega, fun v c r' H7 hp e hD7 hK7 G67 => ?_⟩
    obtain ⟨ts, hts, hR, hT, hc⟩ := hp
    have i57 : Imm H5 H7 := (Imm.same s6).trans G67.im
    refine ⟨(by show 5 ≤ sizeLine; decide), fun p np => ?_⟩
    have i7 : Imm H7 (upd H7 p (.tup [.str "for", .str x, v1, v2, v])) := Imm.same (same_new np)
    exact q _ (1 + c) r' _ ⟨.loop x e1 e2 ts, rp_tup upd_same (rpl_cons rfl (rpl_cons rfl (rpl_cons (hR1'.to ((G45.im.trans i57).trans i7)) (rpl_cons (hR2.to ((G45.im.trans i57).trans i7)) (rpl_cons (hR.to i7) rpl_nil))))), ⟨hx, hxn, hE1, hE2, hts, m, rfl, hT⟩, by rw [← hc]; rfl⟩ (by omega) (hD7.new np)
      ⟨same_new np _ _ hK7.1, same_new np _ _ hK7.2⟩ (((G5.trans (Go.same s6)).trans G67).new np)
  · -- if
    refine ⟨_, rfl, k, _, 0, _, rfl, rfl, SqL.of hk4, rfl, _, 1, rfl, rfl, _, rfl, k, _, 0, 0, rfl, rfl, hk4, rfl, ?_⟩
    have er2 : ((r - 1 : Nat) : Int) - 1 = ((r - 2 : Nat) : Int) := by omega
    have hD5 : Dr (upd H4 k (.lst [.int (((r - 1 : Nat) : Int) - 1), .ref kd, .bl fig, .bl wide])) d L := hD4.upd nkd nkL
    have G5 : Go (M2 d k) H (upd H4 k (.lst [.int (((r - 1 : Nat) : Int) - 1), .ref kd, .bl fig, .bl wide])) := G4.set (.inr rfl) hk4
    have i45 : Imm H4 (upd H4 k (.lst [.int (((r - 1 : Nat) : Int) - 1), .ref kd, .bl fig, .bl wide])) := (Imm.refl H4).upd fun xs e => by rw [hk4] at e; cases e
    have hkd5 : (upd H4 k (.lst [.int (((r - 1 : Nat) : Int) - 1), .ref kd, .bl fig, .bl wide])) kd = some (.dK []) := by
      rw [upd_ne ndk]
      exact hkd4
    have hsc5 : (upd H4 k (.lst [.int (((r - 1 : Nat) : Int) - 1), .ref kd, .bl fig, .bl wide])) sc = some (.lst (ns.map V.str)) := by
      rw [upd_ne nsk]
      exact hsc4
    have hk5 : (upd H4 k (.lst [.int (((r - 1 : Nat) : Int) - 1), .ref kd, .bl fig, .bl wide])) k = some (.lst [.int ((r - 2 : Nat) : Int), .ref kd, .bl fig, .bl wide]) := by rw [upd_same, er2]
    refine ⟨_, rfl, _, rfl, _, rfl, _, rfl, _, 1, rfl, rfl, d, L, k, kd, sc, r - 2, fig, wide, ns, eargs sc, hD5, ⟨hk5, hkd5⟩, nkd, nkL, by omega, by omega, hsc5, nsd, nsk, hSc, hne, by omega, fun vb cb rb H6 hp eb hD6 hK6 G56 => ?_⟩
    obtain ⟨bs, hbs, hRb, hTb, hcb⟩ := hp
    have G6 := G5.trans G56
    have i46 : Imm H4 H6 := i45.trans G56.im
    refine ⟨_, rfl, k, _, 0, _, rfl, rfl, SqL.of hK6.1, rfl, _, 1, rfl, rfl, _, rfl, k, _, 0, 0, rfl, rfl, hK6.1, rfl, ?_⟩
    have er3 : ((rb : Nat) : Int) + 1 = ((rb + 1 : Nat) : Int) := by omega
    have hD7 : Dr (upd H6 k (.lst [.int (((rb : Nat) : Int) + 1), .ref kd, .bl fig, .bl wide])) d L := hD6.upd nkd nkL
    have G7 : Go (M2 d k) H (upd H6 k (.lst [.int (((rb : Nat) : Int) + 1), .ref kd, .bl fig, .bl wide])) := G6.set (.inr rfl) hK6.1
    have i67 : Imm H6 (upd H6 k (.lst [.int (((rb : Nat) : Int) + 1), .ref kd, .bl fig, .bl wide])) := (Imm.refl H6).upd fun xs e => by rw [hK6.1] at e; cases e
    have hkd7 : (upd H6 k (.lst [.int (((rb : Nat) : Int) + 1), .ref kd, .bl fig, .bl wide])) kd = some (.dK []) := by
      rw [upd_ne ndk]
      exact hK6.2
    have hsc7 : (upd H6 k (.lst [.int (((rb : Nat) : Int) + 1), .ref kd, .bl fig, .bl wide])) sc = some (.lst (ns.map V.str)) := by
      rw [upd_ne nsk]
      exact G56.at hsc5 nMsc
    have i47 := i46.trans i67
    have hk7 : (upd H6 k (.lst [.int (((rb : Nat) : Int) + 1), .ref kd, .bl fig, .bl wide])) k = some (.lst [.int ((rb + 1 : Nat) : Int), .ref kd, .bl fig, .bl wide]) := by rw [upd_same, er3]
    refine ⟨fun σ' H' => ∃ vy ys ry, σ' = [some (.ref d), some (.ref k), some (.ref sc), some (.int (4 - ((m + 1 : Nat) : Int))), some (.int f), some vb, some vy, some v1, some v2, none] ∧ Rp H' vy (.tup (encs ys)) ∧ TsOk C0 False ns m ys ∧ cntB ys + ry = rb + 1 ∧
      Dr H' d L ∧ Kt H' k kd ry fig wide ∧ Go (M2 d k) H H' ∧ Imm H4 H' ∧ Imm H6 H', ?_, ?_⟩
    · refine ⟨_, rfl, d, L, 2, rfl, hD7, by decide, by decide, fun g H8 a8 b8 hD8 hB8 => ?_⟩
      have G78 : Go (· = d) (upd H6 k (.lst [.int (((rb : Nat) : Int) + 1), .ref kd, .bl fig, .bl wide])) H8 := Go.but hD7 hB8 rfl
      have G8 := G7.trans (G78.mono fun b e => .inl e)
      have hk8 := G78.at hk7 nkd
      have hkd8 := G78.at hkd7 ndd
      have hsc8 := G78.at hsc7 nsd
      refine ⟨rfl, _, rfl, ite2 (fun c7 => ?_) (fun c7 => ?_)⟩
      · refine ⟨Nat.zero_le _, fun p np => ?_⟩
        have s9 : Same H8 (upd H8 p (.tup [])) := same_new np
        exact ⟨.ref p, [], rb + 1, rfl, rp_tup upd_same rpl_nil, trivial, Nat.zero_add _, hD8.new np, ⟨s9 _ _ hk8, s9 _ _ hkd8⟩, G8.new np, (i47.trans G78.im).trans (Imm.same s9), (i67.trans G78.im).trans (Imm.same s9)⟩
      · refine ⟨_, rfl, _, rfl, _, rfl, _, rfl, _, 1, rfl, rfl, d, L, k, kd, sc, rb + 1, fig, wide, ns, eargs sc, hD8, ⟨hk8, hkd8⟩, nkd, nkL, by omega, by omega, hsc8, nsd, nsk, hSc, hne, by omega, fun vy cy ry H9 hp ey hD9 hK9 G89 => ?_⟩
        obtain ⟨ys, hys, hRy, hTy, hcy⟩ := hp
        exact ⟨vy, ys, ry, rfl, hRy, hTy, by omega, hD9, hK9, G8.trans G89, (i47.trans G78.im).trans G89.im, (i67.trans G78.im).trans G89.im⟩
    · rintro σ' H' ⟨vy, ys, ry, rfl, hRy, hTy, ecy, hD9, hK9, G9, i49, i69⟩
      refine ⟨_, rfl, _, rfl, _, rfl, _, rfl, (by show 5 ≤ sizeLine; decide), fun p np => ?_⟩
      have ip : Imm H' (upd H' p (.tup [.str "if", v1, v2, vb, vy])) := Imm.same (same_new np)
      exact q _ (1 + cntB bs + cntB ys) ry _ ⟨.test e1 e2 bs ys, rp_tup upd_same (rpl_cons rfl (rpl_cons (hR1'.to (i49.trans ip)) (rpl_cons (hR2.to (i49.trans ip)) (rpl_cons (hRb.to (i69.trans ip)) (rpl_cons (hRy.to ip) rpl_nil))))), ⟨hE1, hE2, hbs, m, rfl, hTb, hTy⟩, rfl⟩ (by omega) (hD9.new np)
        ⟨same_new np _ _ hK9.1, same_new np _ _ hK9.2⟩ (G9.new np)
theorem ok_drawn_body (T : Tops w K mg) (n : Nat) (Gl_drawn_thing : FnOk P w K mg base CX0 (5 + 2 * n) T.fl_drawn_thing T.dl_drawn_thing ["_law_draw", "_law_kit", "_law_scope", "_law_deep"] (spDrawThing n)) :
    FnOk P w K mg base CX0 (6 + 2 * n) T.fl_drawn_body T.dl_drawn_body ["_law_draw", "_law_kit", "_law_scope", "_law_deep"] (spDrawBody n) := by
  have Gl_take : FnOk P w K mg base CX0 1 T.fl_take T.dl_take ["_law_draw", "_law_sides"] spTake := ok_take T
  have elev : 6 + 2 * n = (5 + 2 * n) + 1 := by omega
  rw [elev]
  refine T.Fl_drawn_body.ok (k := 5 + 2 * n) scl_drawn_body (fun vs H Q E h => ?_) (fun cdv A outer s H vs Q E hr h => ?_)
  · obtain ⟨d, L, k, kd, sc, r, fig, wide, ns, rfl, _⟩ := h
    rfl
  obtain ⟨d, L, k, kd, sc, r, fig, wide, ns, rfl, hD, ⟨hk, hkd⟩, nkd, nkL, r1, r2, hsc, nsd, nsk, hSc, hne, hlen, q⟩ := h
  refine ⟨_, (pss_cons (ps_set (i := 4) scl_drawn_body.nd rfl (Or.inl rfl) (pe_lst (pa_cons (pe_call Gl_drawn_thing (hr.mono (by omega)) (by rfl) T.gl_drawn_thing T.Fl_drawn_thing.kp T.bl_drawn_thing .nil pass0 (pa_cons (pv 0) (pa_cons (pv 1) (pa_cons (pv 2) (pa_cons (pv 3) pa_nil))))) pa_nil)))
 (pss_cons (ps_for PassesOwn.never rfl (pi_range1 (by rfl) T.mrange (pa_cons (pe_call Gl_take (hr.mono (by omega)) (by rfl) T.gl_take T.Fl_take.kp T.bl_take .nil pass0 (pa_cons (pv 0) (pa_cons pe_int pa_nil))) pa_nil)) (pg_name (i := 5) scl_drawn_body.nd rfl (Or.inl rfl))
  (pss_one (ps_if (pt_cmpR op_gt (pe_ix ix_list (pv 1) pe_int (fun _ _ => rfl)) pe_int (nomark _))
  (pss_one (ps_expr (pe_bm PySem.F.plainAttrs_list PySem.F.slot_list_append PySem.F.type_list_append mt_append (pv 4) (pa_cons (pe_call Gl_drawn_thing (hr.mono (by omega)) (by rfl) T.gl_drawn_thing T.Fl_drawn_thing.kp T.bl_drawn_thing .nil pass0 (pa_cons (pv 0) (pa_cons (pv 1) (pa_cons (pv 2) (pa_cons (pv 3) pa_nil))))) pa_nil))))
  pss_nil)))
 (pss_one (ps_ret (pe_callTy call_tuple_of (by rfl) T.mtuple (by decide +kernel) (pa_cons (pv 4) pa_nil)))))), ?_⟩
  have nMsc : ¬ M2 d k sc := fun z => z.elim nsd nsk
  refine ⟨_, rfl, _, rfl, _, rfl, _, rfl, d, L, k, kd, sc, r, fig, wide, ns, rfl, hD, ⟨hk, hkd⟩, nkd, nkL, r1, r2, hsc, nsd, nsk, hSc, hne, hlen, fun v1 c1 ra H1 hp e1 hD1 hK1 G1 => ?_⟩
  obtain ⟨t1, hR1, hT1, hc1⟩ := hp
  refine ⟨(by show 1 ≤ sizeLine; decide), fun F nF => ?_⟩
  have nFH : H F = none := by
    cases hF : H F with
    | none => rfl
    | some o =>
      by_cases hm : M2 d k F
      · rcases hm with rfl | rfl
        · obtain ⟨u, hu⟩ := hD1.some
          rw [hu] at nF
          cases nF
        · rw [hK1.1] at nF
          cases nF
      · rw [G1.sx F o hm hF] at nF
        cases nF
  have nFd := hD1.neNew nF
  have nFk : F ≠ k := (ne_of_none hK1.1 nF).symm
  have hD2 := hD1.new (o := .lst [v1]) nF
  have G2 := G1.new (o := .lst [v1]) nF
  have s2 : Same H1 (upd H1 F (.lst [v1])) := same_new nF
  refine ⟨_, rfl, d, L, 3, rfl, hD2, by decide, by decide, fun g H3 a3 b3 hD3 hB3 => ?_⟩
  have G23 : Go (· = d) (upd H1 F (.lst [v1])) H3 := Go.but hD2 hB3 rfl
  have G3 := G2.trans (G23.mono fun b e => .inl e)
  refine ⟨g, rfl, by omega, by omega, ?_⟩
  have hF3 := G23.at (upd_same : (upd H1 F (.lst [v1])) F = _) nFd.1
  have hk3 := G23.at (s2 _ _ hK1.1) nkd
  have ndd : kd ≠ d := by
    obtain ⟨zs, i0, i1, i2, z1, _⟩ := hD
    exact ne_of hkd z1 (fun z => by cases z)
  have ndk : kd ≠ k := ne_of hkd hk (fun z => by cases z)
  have hkd3 := G23.at (s2 _ _ hK1.2) ndd
  have hR3 : Rp H3 v1 (enc t1) := (hR1.to (Imm.same s2)).to G23.im
  refine for_range (lo := 0) (n := g.toNat) (fun i σ H' => (∃ x5, σ = [some (.ref d), some (.ref k), some (.ref sc), some (.int (4 - (n : Int))), some (.ref F), x5]) ∧ ∃ (us : List V) (ts : List Thing) (r' : Nat), us.length ≤ i + 1 ∧ ts ≠ [] ∧ H' F = some (.lst us) ∧ RpL H' us (encs ts) ∧ TsOk C0 False ns n ts ∧ cntB ts + r' = r ∧
    Dr H' d L ∧ Kt H' k kd r' fig wide ∧ Go (M2 d k) H H') ⟨⟨_, rfl⟩, [v1], [t1], ra, Nat.le_refl _, by simp, hF3, rpl_cons hR3 rpl_nil, ⟨hT1, trivial⟩, by show cntT t1 + 0 + ra = r; omega, hD3, ⟨hk3, hkd3⟩, G3⟩ (fun i σ H4 hi hP => ?_) (fun σ H4 hP => ?_)
  · obtain ⟨⟨x5, rfl⟩, us, ts, r', hus, hts, hF4, hR4, hT4, ec, hD4, hK4, G4⟩ := hP
    refine ⟨_, rfl, k, _, 0, _, rfl, rfl, SqL.of hK4.1, rfl, _, 0, rfl, rfl, _, rfl, ite2 (fun c5 => ?_) (fun c5 => ?_)⟩
    · have hr1 : (0 : Int) < (r' : Int) := of_decide_eq_true c5
      refine ⟨_, rfl, .inl ⟨rfl, _, SqL.of hF4⟩, _, rfl, _, rfl, _, rfl, _, rfl, d, L, k, kd, sc, r', fig, wide, ns, rfl, hD4, hK4, nkd, nkL, by omega, by omega, G4.at hsc nMsc, nsd, nsk, hSc, hne, hlen, fun v c r'' H5 hp e5 hD5 hK5 G45 => ?_⟩
      obtain ⟨t, hR, hT, hc⟩ := hp
      have hF5 := G45.at hF4 (fun z => z.elim nFd.1 nFk)
      have nFL := nFd.2
      refine ⟨F, us, v, rfl, rfl, hF5, szl (by omega), ?_⟩
      have i45 : Imm H4 (upd H5 F (.lst (us ++ [v]))) := G45.im.upd fun xs e => by rw [hF4] at e; cases e
      have i5 : Imm H5 (upd H5 F (.lst (us ++ [v]))) := (Imm.refl H5).upd fun xs e => by rw [hF5] at e; cases e
      refine ⟨⟨_, rfl⟩, us ++ [v], ts ++ [t], r'', ?_, ?_, upd_same, ?_, ?_, ?_, hD5.upd nFd.1 nFL, ⟨?_, ?_⟩, (G4.trans G45).own nFH⟩
      · rw [List.length_append]
        show us.length + 1 ≤ i + 1 + 1
        omega
      · simp
      · rw [encs_append]
        exact (hR4.to i45).append (rpl_cons (hR.to i5) rpl_nil)
      · rw [tsok_iff] at hT4 ⊢
        intro u hu
        rcases List.mem_append.mp hu with h1 | h1
        · exact hT4 u h1
        · rw [List.mem_singleton.mp h1]
          exact hT
      · rw [cntB_append]
        show cntB ts + (cntT t + 0) + r'' = r
        omega
      · rw [upd_ne nFk.symm]
        exact hK5.1
      · have nFkd : kd ≠ F := ne_of hK5.2 hF5 (fun z => by cases z)
        rw [upd_ne nFkd]
        exact hK5.2
    · exact ⟨⟨_, rfl⟩, us, ts, r', by omega, hts, hF4, hR4, hT4, ec, hD4, hK4, G4⟩
  · obtain ⟨⟨x5, rfl⟩, us, ts, r', hus, hts, hF4, hR4, hT4, ec, hD4, hK4, G4⟩ := hP
    refine ⟨_, rfl, F, us, rfl, .inl ⟨SqL.of hF4, fun p np => ?_⟩⟩
    have ip : Imm H4 (upd H4 p (.tup us)) := Imm.same (same_new np)
    exact q _ (cntB ts) r' _ ⟨ts, hts, rp_tup upd_same (hR4.to ip), hT4, rfl⟩ ec (hD4.new np) ⟨same_new np _ _ hK4.1, same_new np _ _ hK4.2⟩ (G4.new np)
theorem fn_none {f : Addr} {fd : FuncData} {k : Nat} {ps : List Str} : FnOk P w K mg base CX0 k f fd ps (fun _ _ _ _ => False) :=
  ⟨fun _ _ _ _ h => h.elim, fun _ _ _ _ _ _ _ _ _ _ _ _ _ h => h.elim⟩
theorem ok_drawing (T : Tops w K mg) : ∀ n : Nat, FnOk P w K mg base CX0 (6 + 2 * n) T.fl_drawn_body T.dl_drawn_body ["_law_draw", "_law_kit", "_law_scope", "_law_deep"] (spDrawBody n)
  | 0 => ok_drawn_body T 0 (ok_drawn_thing T 0 fn_none)
  | n + 1 => ok_drawn_body T (n + 1) (ok_drawn_thing T (n + 1) (by
      have := ok_drawing T n
      rw [show 4 + 2 * (n + 1) = 6 + 2 * n by omega]
      exact this))
theorem ok_drawn (T : Tops w K mg) : FnOk P w K mg base CX0 15 T.fl_drawn T.dl_drawn ["_law_draw", "_law_room", "_law_figures", "_law_wide"] spDrawn := by
  have Gl_drawn_body : FnOk P w K mg base CX0 14 T.fl_drawn_body T.dl_drawn_body ["_law_draw", "_law_kit", "_law_scope", "_law_deep"] (spDrawBody 4) := ok_drawing T 4
  refine T.Fl_drawn.ok (k := 14) scl_drawn (fun vs H Q E h => ?_) (fun cdv A outer s H vs Q E hr h => ?_)
  · obtain ⟨d, L, r, fig, wide, rfl, _⟩ := h
    rfl
  obtain ⟨d, L, r, fig, wide, rfl, hD, r1, r2, q⟩ := h
  refine ⟨_, (pss_one (ps_ret (pe_call Gl_drawn_body (hr.mono (by omega)) (by rfl) T.gl_drawn_body T.Fl_drawn_body.kp T.bl_drawn_body .nil pass0 (pa_cons (pv 0) (pa_cons (pe_lst (pa_cons (pv 1) (pa_cons pe_dnewK (pa_cons (pv 2) (pa_cons (pv 3) pa_nil))))) (pa_cons (pe_lst (pa_cons pe_str pa_nil)) (pa_cons pe_int pa_nil))))))), ?_⟩
  refine ⟨_, rfl, _, rfl, fun kd nkd0 => ?_⟩
  refine ⟨_, rfl, _, rfl, (by show 4 ≤ sizeLine; decide), fun k nk => ?_⟩
  refine ⟨(by show 1 ≤ sizeLine; decide), fun sc nsc => ?_⟩
  have s1 : Same H (upd H kd (.dK [])) := same_new nkd0
  have s2 := s1.trans (same_new (o := .lst [.int r, .ref kd, .bl fig, .bl wide]) nk)
  have s3 := s2.trans (same_new (o := .lst [.str "n"]) nsc)
  have hD1 := hD.new (o := .dK []) nkd0
  have hD2 := hD1.new (o := .lst [.int r, .ref kd, .bl fig, .bl wide]) nk
  have hD3 := hD2.new (o := .lst [.str "n"]) nsc
  have k1 := hD1.neNew nk
  have c1 := hD2.neNew nsc
  have hk : (upd (upd (upd H kd (.dK [])) k (.lst [.int r, .ref kd, .bl fig, .bl wide])) sc (.lst [.str "n"])) k = some (.lst [.int r, .ref kd, .bl fig, .bl wide]) := same_new nsc _ _ upd_same
  have hkd : (upd (upd (upd H kd (.dK [])) k (.lst [.int r, .ref kd, .bl fig, .bl wide])) sc (.lst [.str "n"])) kd = some (.dK []) := same_new nsc _ _ (same_new nk _ _ upd_same)
  have csk : sc ≠ k := (ne_of_none upd_same nsc).symm
  refine ⟨d, L, k, kd, sc, r, fig, wide, ["n"], rfl, hD3, ⟨hk, hkd⟩, k1.1, k1.2, r1, r2, upd_same, c1.1, csk, fun x hx => .inl (List.mem_singleton.mp hx), by simp, by decide, fun v c r' H' hp e hD' hK' G' => ?_⟩
  obtain ⟨ts, hts, hR, hT, hc⟩ := hp
  have nkH : H k = none := s1.free nk
  refine q v ts H' hts hR hT (by omega) hD' ⟨fun b u nb hb => ?_, ?_⟩
  · have n1 : b ≠ k := ne_of_none hb nkH
    exact G'.sx b u (fun z => z.elim nb n1) (s3 b u hb)
  · exact (Imm.same s3).trans G'.im
end
end K06

set_option Elab.async false
set_option linter.all false
set_option maxRecDepth 100000
set_option maxHeartbeats 4000000
namespace K06
open PySem PySem.Spec PyProof.Rows L2 OG
open C8 (pss_cut pe_gc)
open OGX

section
variable {P : Program} {w : World} {K : PySem.W.Frag} {mg : Str → Option Value} {base : Heap}
theorem plain_of {K : PySem.W.Frag} {v : V} (h : flatV v = true) (hn : v ≠ .non) : ∃ (t : String) (b1 b2 b3 : Bool), (∀ H', TyX K H' v (.type t)) ∧ kitB t "list" = some false ∧ kitB t "tuple" = some false ∧ kitB t "bool" = some b1 ∧ kitB t "int" = some b2 ∧ kitB t "str" = some b3 ∧ scal v v = true := by
  cases v with
  | non => exact absurd rfl hn
  | bl b => exact ⟨"bool", true, true, false, fun _ => .base (.bl b), by decide +kernel, by decide +kernel, by decide +kernel, by decide +kernel, by decide +kernel, rfl⟩
  | int i => exact ⟨"int", false, true, false, fun _ => .base (.int i), by decide +kernel, by decide +kernel, by decide +kernel, by decide +kernel, by decide +kernel, rfl⟩
  | str z => exact ⟨"str", false, false, true, fun _ => .base (.str z), by decide +kernel, by decide +kernel, by decide +kernel, by decide +kernel, by decide +kernel, rfl⟩
  | byt _ => cases h
  | flt _ => cases h
  | ref _ => cases h
  | ty _ => cases h
theorem ok_same1 (T : Tops w K mg) (n : Nat) (Gl_same : FnOk P w K mg base CX0 n T.fl_same T.dl_same ["_law_found", "_law_due"] (prevS n)) : FnOk P w K mg base CX0 (n + 1) T.fl_same T.dl_same ["_law_found", "_law_due"] (spSame n) := by
  refine T.Fl_same.ok (k := n) scl_same (fun vs H Q E h => ?_) (fun cdv A outer s H vs Q E hr h => ?_)
  · obtain ⟨v, w, rfl, _⟩ := h
    rfl
  obtain ⟨v, w, rfl, hE, q⟩ := h
  refine ⟨_, (pss_cons (ps_if (pt_val (pe_callB call_isiT (by rfl) T.misinstance (by decide +kernel) (pa_cons (pv 1) (pa_cons (pe_tup (pa_cons (pe_bltn (v := .ty "list") (by rfl) T.mlist (by decide +kernel) rfl) (pa_cons (pe_bltn (v := .ty "tuple") (by rfl) T.mtuple (by decide +kernel) rfl) pa_nil))) pa_nil))))
  (pss_cons (ps_if (PW.pt (pw_or (pt_cmpR op_ne (pe_callB call_isi (by rfl) T.misinstance (by decide +kernel) (pa_cons (pv 0) (pa_cons (pe_bltn (v := .ty "list") (by rfl) T.mlist (by decide +kernel) rfl) pa_nil))) (pe_callB call_isi (by rfl) T.misinstance (by decide +kernel) (pa_cons (pv 1) (pa_cons (pe_bltn (v := .ty "list") (by rfl) T.mlist (by decide +kernel) rfl) pa_nil))) (nomark _)) (pw_or1 (pt_not (pt_val (pe_callB call_isiT (by rfl) T.misinstance (by decide +kernel) (pa_cons (pv 0) (pa_cons (pe_tup (pa_cons (pe_bltn (v := .ty "list") (by rfl) T.mlist (by decide +kernel) rfl) (pa_cons (pe_bltn (v := .ty "tuple") (by rfl) T.mtuple (by decide +kernel) rfl) pa_nil))) pa_nil))))))))
  (pss_one (ps_ret pe_bl))
  pss_nil)
 (pss_one (ps_ret (pe_and (pe_cmpR op_eq (pe_callB call_len (by rfl) T.mlen PySem.boot_len (pa_cons (pv 0) pa_nil)) (pe_callB call_len (by rfl) T.mlen PySem.boot_len (pa_cons (pv 1) pa_nil)) (nomark _)) (pe_one (pe_callB (cr_all rfl) (by rfl) T.mall (by decide +kernel) (pa_cons (pe_lc (own := [("_law_one", 2), ("_law_other", 3)]) rfl scl_same.nd (RZ.pi_zipA (by rfl) T.mzip (pa_cons (pv 0) (pa_cons (pv 1) pa_nil))) (blkOk_by (N := Nl_same) (sc := defScope sl_same) (by decide +kernel)) (fun _ _ _ _ _ => (pg_tupK (K := K) (n := 2) rfl rfl (pgs_cons (pg_name (i := 2) scl_same.nd rfl (Or.inl rfl)) (pgs_cons (pg_name (i := 3) scl_same.nd rfl (Or.inl rfl)) pgs_nil)))) (fun _ _ _ _ _ => pts_nil) (fun _ _ _ _ _ => (pe_call Gl_same (hr.mono (by omega)) (by rfl) T.gl_same T.Fl_same.kp T.bl_same .nil pass0 (pa_cons (pv 2) (pa_cons (pv 3) pa_nil))))) pa_nil)))))))
  pss_nil)
 (pss_cons (ps_if (pt_cmpR op_isN (pv 1) pe_non (nomark _))
  (pss_one (ps_ret (pe_cmpR op_isN (pv 0) pe_non (nomark _))))
  pss_nil)
 (pss_cons (ps_if (PW.pt (pw_or (pt_cmpR op_ne (pe_callB call_isi (by rfl) T.misinstance (by decide +kernel) (pa_cons (pv 0) (pa_cons (pe_bltn (v := .ty "bool") (by rfl) T.mbool (by decide +kernel) rfl) pa_nil))) (pe_callB call_isi (by rfl) T.misinstance (by decide +kernel) (pa_cons (pv 1) (pa_cons (pe_bltn (v := .ty "bool") (by rfl) T.mbool (by decide +kernel) rfl) pa_nil))) (nomark _)) (pw_or1 (pt_cmpR op_ne (pe_callB call_isi (by rfl) T.misinstance (by decide +kernel) (pa_cons (pv 0) (pa_cons (pe_bltn (v := .ty "int") (by rfl) T.mint (by decide +kernel) rfl) pa_nil))) (pe_callB call_isi (by rfl) T.misinstance (by decide +kernel) (pa_cons (pv 1) (pa_cons (pe_bltn (v := .ty "int") (by rfl) T.mint (by decide +kernel) rfl) pa_nil))) (nomark _)))))
  (pss_one (ps_ret pe_bl))
  pss_nil)
 (pss_one (ps_ret (pe_and (pe_cmpR op_eq (pe_callB call_isi (by rfl) T.misinstance (by decide +kernel) (pa_cons (pv 0) (pa_cons (pe_bltn (v := .ty "str") (by rfl) T.mstr (by decide +kernel) rfl) pa_nil))) (pe_callB call_isi (by rfl) T.misinstance (by decide +kernel) (pa_cons (pv 1) (pa_cons (pe_bltn (v := .ty "str") (by rfl) T.mstr (by decide +kernel) rfl) pa_nil))) (nomark _)) (pe_one (pe_cmpR op_eq (pv 0) (pv 1) (nomark _))))))))), ?_⟩
  have kI : ∀ (t c : String) (r : Bool), kitB t c = some r → PySem.W.kitOne K (.type t) (.type c) = some r := fun t c r h => kit_ty h
  have split : (v = w ∧ flatV v = true) ∨ ∃ (m : Nat) (a b : Addr) (vs ws : List V), n = m + 1 ∧ v = .ref a ∧ w = .ref b ∧ ((H a = some (.tup vs) ∧ H b = some (.tup ws)) ∨ (H a = some (.lst vs) ∧ H b = some (.lst ws))) ∧ vs.length = ws.length ∧ vs.length < 100000 ∧
      ∀ (i : Nat) x y, vs[i]? = some x → ws[i]? = some y → Eq2 H m x y := by
    cases n with
    | zero => exact .inl hE
    | succ m =>
      rcases hE with h | ⟨a, b, vs, ws, h⟩
      · exact .inl h
      · exact .inr ⟨m, a, b, vs, ws, rfl, h⟩
  rcases split with ⟨rfl, hf⟩ | ⟨m, a, b, vs, ws, rfl, rfl, rfl, hab, hl, hz, hi⟩
  · by_cases hn : v = .non
    · subst hn
      refine ⟨_, rfl, (by show 2 ≤ sizeLine; decide), fun p np => ?_⟩
      refine ⟨.non, p, [.ty "list", .ty "tuple"], .type "NoneType", [.type "list", .type "tuple"], false, rfl, upd_same, .cons (.ty _) (.cons (.ty _) .nil), .base .non,
        kitAny_cons (kI "NoneType" "list" false (by decide +kernel)) (fun _ => kitAny_cons (kI "NoneType" "tuple" false (by decide +kernel)) (fun _ => rfl) (fun z => nomatch z)) (fun z => nomatch z), false, rfl, iteF ?_⟩
      refine ⟨_, rfl, rfl, _, rfl, iteT ?_⟩
      exact ⟨_, rfl, rfl, q _ (same_new np)⟩
    · obtain ⟨t, b1, b2, b3, ty, k1, k2, k3, k4, k5, hs⟩ := plain_of (K := K) hf hn
      refine ⟨_, rfl, (by show 2 ≤ sizeLine; decide), fun p np => ?_⟩
      refine ⟨v, p, [.ty "list", .ty "tuple"], .type t, [.type "list", .type "tuple"], false, rfl, upd_same, .cons (.ty _) (.cons (.ty _) .nil), ty _,
        kitAny_cons (kI t "list" false k1) (fun _ => kitAny_cons (kI t "tuple" false k2) (fun _ => rfl) (fun z => nomatch z)) (fun z => nomatch z), false, rfl, iteF ?_⟩
      have dn : ¬ decide (v = V.non) = true := fun z => hn (of_decide_eq_true z)
      have same2 : ∀ b : Bool, ¬ (!decide (V.bl b = V.bl b)) = true := fun b => by rw [decide_eq_true rfl]; exact Bool.false_ne_true
      refine ⟨_, rfl, rfl, _, rfl, ite2 (fun z => absurd z dn) (fun _ => ?_)⟩
      refine ⟨_, rfl, v, .ty "bool", .type t, _, b1, rfl, .ty _, ty _, kI t "bool" b1 k3, _, rfl, v, .ty "bool", .type t, _, b1, rfl, .ty _, ty _, kI t "bool" b1 k3, rfl, _, rfl, ite2 (fun z => absurd z (same2 b1)) (fun _ => ?_)⟩
      refine ⟨_, rfl, v, .ty "int", .type t, _, b2, rfl, .ty _, ty _, kI t "int" b2 k4, _, rfl, v, .ty "int", .type t, _, b2, rfl, .ty _, ty _, kI t "int" b2 k4, rfl, _, rfl, ite2 (fun z => absurd z (same2 b2)) (fun _ => ?_)⟩
      refine ⟨_, rfl, v, .ty "str", .type t, _, b3, rfl, .ty _, ty _, kI t "str" b3 k5, _, rfl, v, .ty "str", .type t, _, b3, rfl, .ty _, ty _, kI t "str" b3 k5, rfl, _, rfl, ite2 (fun _ => ?_) (fun z => absurd (decide_eq_true rfl) z)⟩
      refine ⟨_, rfl, _, rfl, hs, ?_⟩
      rw [decide_eq_true rfl]
      exact q _ (same_new np)
  · rcases hab with ⟨ha, hb⟩ | ⟨ha, hb⟩
    · -- two tuples
      refine ⟨_, rfl, (by show 2 ≤ sizeLine; decide), fun p np => ?_⟩
      have s1 : Same H (upd H p (.tup [.ty "list", .ty "tuple"])) := same_new np
      have ka : PySem.W.kitAny K (.type "tuple") [.type "list", .type "tuple"] = some true := kitAny_cons (kI "tuple" "list" false (by decide +kernel)) (fun _ => kitAny_cons (kI "tuple" "tuple" true (by decide +kernel)) (fun z => nomatch z) (fun _ => rfl)) (fun _ => rfl)
      refine ⟨.ref b, p, [.ty "list", .ty "tuple"], .type "tuple", [.type "list", .type "tuple"], true, rfl, upd_same, .cons (.ty _) (.cons (.ty _) .nil), .base (.tup (s1 _ _ hb)), ka, true, rfl, iteT ?_⟩
      refine ⟨_, rfl, .ref a, .ty "list", .type "tuple", _, false, rfl, .ty _, .base (.tup (s1 _ _ ha)), kI "tuple" "list" false (by decide +kernel), _, rfl, .ref b, .ty "list", .type "tuple", _, false, rfl, .ty _, .base (.tup (s1 _ _ hb)), kI "tuple" "list" false (by decide +kernel), rfl, _, rfl, iteF ?_⟩
      refine ⟨_, rfl, (by show 2 ≤ sizeLine; decide), fun p2 np2 => ?_⟩
      have s2 := s1.trans (same_new (o := .tup [.ty "list", .ty "tuple"]) np2)
      refine ⟨.ref a, p2, [.ty "list", .ty "tuple"], .type "tuple", [.type "list", .type "tuple"], true, rfl, upd_same, .cons (.ty _) (.cons (.ty _) .nil), .base (.tup (s2 _ _ ha)), ka, true, rfl, iteF ?_⟩
      refine ⟨_, rfl, .ref a, vs.length, rfl, .inr ⟨_, SqT.of (s2 _ _ ha), rfl⟩, _, rfl, .ref b, ws.length, rfl, .inr ⟨_, SqT.of (s2 _ _ hb), rfl⟩, rfl, _, rfl, ite2 (fun _ => ?_) (fun z => absurd (decide_eq_true (by rw [hl])) z)⟩
      refine ⟨_, rfl, _, rfl, a, b, vs, ws, rfl, .inr ⟨SqT.of (s2 _ _ ha), SqT.of (s2 _ _ hb), fun Dn nD => ?_⟩⟩
      have nDH : H Dn = none := s2.free nD
      refine lc_it (walk_zipT (K := K) (xs := vs) (ys := ws) (n := vs.length) (by omega)) (fun i H' => Same H H' ∧ H' Dn = some (.lst ((List.replicate i true).map V.bl))) ⟨s2.trans (same_new nD), upd_same⟩ (fun i H' _ hP => ⟨SqT.of (hP.1 _ _ ha), SqT.of (hP.1 _ _ hb)⟩) (fun i x H' H'' hlt hP hY => ?_) (fun H' hP => ?_)
      · obtain ⟨sm, hD⟩ := hP
        obtain ⟨Tn, x1, x2, rfl, nT, rfl, g1, g2⟩ := hY
        have sT : Same H' (upd H' Tn (.tup [x1, x2])) := same_new nT
        refine ⟨Tn, [x1, x2], rfl, SqT.of upd_same, rfl, x1, [x2], rfl, x2, [], rfl, rfl, rfl, yes_go ?_⟩
        refine ⟨_, rfl, _, rfl, x1, x2, rfl, Eq2.same (sm.trans sT) (hi i x1 x2 g1 g2), fun H3 s3 => ?_⟩
        refine ⟨_, s3 _ _ (sT _ _ hD), ?_, Same.upd_new ((sm.trans sT).trans s3) nDH, ?_⟩
        · rw [List.length_map, List.length_replicate]
          exact szl (by omega)
        · rw [upd_same, List.replicate_succ', List.map_append]
          rfl
      · obtain ⟨sm, hD⟩ := hP
        refine ⟨Dn, List.replicate vs.length true, rfl, SqL.of hD, ?_⟩
        rw [all_trues]
        exact q _ sm
    · -- two lists
      refine ⟨_, rfl, (by show 2 ≤ sizeLine; decide), fun p np => ?_⟩
      have s1 : Same H (upd H p (.tup [.ty "list", .ty "tuple"])) := same_new np
      have ka : PySem.W.kitAny K (.type "list") [.type "list", .type "tuple"] = some true := kitAny_cons (kI "list" "list" true (by decide +kernel)) (fun z => nomatch z) (fun _ => rfl)
      refine ⟨.ref b, p, [.ty "list", .ty "tuple"], .type "list", [.type "list", .type "tuple"], true, rfl, upd_same, .cons (.ty _) (.cons (.ty _) .nil), .base (.lst (s1 _ _ hb)), ka, true, rfl, iteT ?_⟩
      refine ⟨_, rfl, .ref a, .ty "list", .type "list", _, true, rfl, .ty _, .base (.lst (s1 _ _ ha)), kI "list" "list" true (by decide +kernel), _, rfl, .ref b, .ty "list", .type "list", _, true, rfl, .ty _, .base (.lst (s1 _ _ hb)), kI "list" "list" true (by decide +kernel), rfl, _, rfl, iteF ?_⟩
      refine ⟨_, rfl, (by show 2 ≤ sizeLine; decide), fun p2 np2 => ?_⟩
      have s2 := s1.trans (same_new (o := .tup [.ty "list", .ty "tuple"]) np2)
      refine ⟨.ref a, p2, [.ty "list", .ty "tuple"], .type "list", [.type "list", .type "tuple"], true, rfl, upd_same, .cons (.ty _) (.cons (.ty _) .nil), .base (.lst (s2 _ _ ha)), ka, true, rfl, iteF ?_⟩
      refine ⟨_, rfl, .ref a, vs.length, rfl, .inl ⟨_, SqL.of (s2 _ _ ha), rfl⟩, _, rfl, .ref b, ws.length, rfl, .inl ⟨_, SqL.of (s2 _ _ hb), rfl⟩, rfl, _, rfl, ite2 (fun _ => ?_) (fun z => absurd (decide_eq_true (by rw [hl])) z)⟩
      refine ⟨_, rfl, _, rfl, a, b, vs, ws, rfl, .inl ⟨SqL.of (s2 _ _ ha), SqL.of (s2 _ _ hb), fun Dn nD => ?_⟩⟩
      have nDH : H Dn = none := s2.free nD
      refine lc_it (walk_zip (K := K) (xs := vs) (ys := ws) (n := vs.length) (by omega)) (fun i H' => Same H H' ∧ H' Dn = some (.lst ((List.replicate i true).map V.bl))) ⟨s2.trans (same_new nD), upd_same⟩ (fun i H' _ hP => ⟨SqL.of (hP.1 _ _ ha), SqL.of (hP.1 _ _ hb)⟩) (fun i x H' H'' hlt hP hY => ?_) (fun H' hP => ?_)
      · obtain ⟨sm, hD⟩ := hP
        obtain ⟨Tn, x1, x2, rfl, nT, rfl, g1, g2⟩ := hY
        have sT : Same H' (upd H' Tn (.tup [x1, x2])) := same_new nT
        refine ⟨Tn, [x1, x2], rfl, SqT.of upd_same, rfl, x1, [x2], rfl, x2, [], rfl, rfl, rfl, yes_go ?_⟩
        refine ⟨_, rfl, _, rfl, x1, x2, rfl, Eq2.same (sm.trans sT) (hi i x1 x2 g1 g2), fun H3 s3 => ?_⟩
        refine ⟨_, s3 _ _ (sT _ _ hD), ?_, Same.upd_new ((sm.trans sT).trans s3) nDH, ?_⟩
        · rw [List.length_map, List.length_replicate]
          exact szl (by omega)
        · rw [upd_same, List.replicate_succ', List.map_append]
          rfl
      · obtain ⟨sm, hD⟩ := hP
        refine ⟨Dn, List.replicate vs.length true, rfl, SqL.of hD, ?_⟩
        rw [all_trues]
        exact q _ sm
theorem ok_same (T : Tops w K mg) : ∀ n : Nat, FnOk P w K mg base CX0 (n + 1) T.fl_same T.dl_same ["_law_found", "_law_due"] (spSame n)
  | 0 => ok_same1 T 0 fn_none
  | n + 1 => ok_same1 T (n + 1) (ok_same T n)
end
end K06

set_option Elab.async false
set_option linter.all false
set_option maxRecDepth 100000
set_option maxHeartbeats 4000000
namespace K06
open PySem PySem.Spec PyProof.Rows L2 OG
open C8 (pss_cut pe_gc)
open OGX

section
variable {P : Program} {w : World} {K : PySem.W.Frag} {mg : Str → Option Value} {base : Heap}
theorem ok_l_bodies (T : Tops w K mg) : FnOk P w K mg base CX0 1 T.fl_bodies T.dl_bodies ["_law_thing"] spBodies := by
  refine T.Fl_bodies.ok (k := 0) scl_bodies (fun vs H Q E h => ?_) (fun cdv A outer s H vs Q E hr h => ?_)
  · obtain ⟨v, t, rfl, _⟩ := h
    rfl
  obtain ⟨v, t, rfl, hR, q⟩ := h
  refine ⟨_, (pss_cons (ps_if (pt_cmpR op_eq (pe_ix ix_tup (pv 0) pe_int (fun _ _ => rfl)) pe_str (nomark _))
  (pss_one (ps_ret (pe_lst (pa_cons (pe_ix ix_tup (pv 0) pe_int (fun _ _ => rfl)) (pa_cons (pe_ix ix_tup (pv 0) pe_int (fun _ _ => rfl)) pa_nil)))))
  pss_nil)
 (pss_one (ps_ret (pe_dget2 (hu_of hr) (pe_disp (pps_cons pe_str (pe_lst (pa_cons (pe_ix ix_tup (pv 0) (pe_un un_neg pe_int) (fun _ _ => rfl)) pa_nil)) (pps_cons pe_str (pe_lst (pa_cons (pe_ix ix_tup (pv 0) (pe_un un_neg pe_int) (fun _ _ => rfl)) pa_nil)) pps_nil)) (by rfl) (by rfl) (fun z => by cases z) (by decide)) (pe_ix ix_tup (pv 0) pe_int (fun _ _ => rfl)) (pe_lst pa_nil) ⟨by rfl, by rfl, by rfl, by rfl⟩)))), ?_⟩
  cases t with
  | step k =>
    obtain ⟨a, v1, v2, rfl, ha, rfl, h2⟩ := rp_t2 hR
    refine ⟨_, rfl, a, _, 0, _, rfl, rfl, SqT.of ha, rfl, rfl, _, rfl, ite2 (fun z => absurd z (by decide +kernel)) (fun _ => ?_)⟩
    refine fun p np => ?_
    have sp : Same H (upd H p (.dK [])) := same_new np
    refine ⟨_, rfl, 1, rfl, a, _, -1, _, rfl, rfl, SqT.of (sp _ _ ha), rfl, (by show 1 ≤ sizeLine; decide), fun l1 n1 => ?_⟩
    have s1 := sp.trans (same_new (o := .lst [v2]) n1)
    refine ⟨_, rfl, 1, rfl, a, _, -1, _, rfl, rfl, SqT.of (s1 _ _ ha), rfl, (by show 1 ≤ sizeLine; decide), fun l2 n2 => ?_⟩
    have s2 := s1.trans (same_new (o := .lst [v2]) n2)
    have hp : (upd (upd (upd H p (.dK [])) l1 (.lst [v2])) l2 (.lst [v2])) p = some (.dK []) := same_new n2 _ _ (same_new n1 _ _ upd_same)
    refine ⟨hp, [(Sum.inr "for", .ref l1), (Sum.inr "double", .ref l2)], rfl, (by show 2 ≤ 15; decide), ?_⟩
    have nl1 : l1 ≠ p := (ne_of_none upd_same n1).symm
    have nl2 : l2 ≠ p := (ne_of_none (same_new n1 _ _ upd_same) n2).symm
    have hG : (upd (upd (upd (upd H p (.dK [])) l1 (.lst [v2])) l2 (.lst [v2])) p (.dK (mergeK [] [(Sum.inr "for", .ref l1), (Sum.inr "double", .ref l2)]))) p = some (.dK [(Sum.inr "for", .ref l1), (Sum.inr "double", .ref l2)]) := by
      rw [upd_same]
      rfl
    have s3 : Same H (upd (upd (upd (upd H p (.dK [])) l1 (.lst [v2])) l2 (.lst [v2])) p (.dK (mergeK [] [(Sum.inr "for", .ref l1), (Sum.inr "double", .ref l2)]))) := Same.upd_new s2 np
    refine ⟨p, rfl, .inl ⟨_, .inl hG⟩, _, rfl, a, _, 0, _, rfl, rfl, SqT.of (s3 _ _ ha), rfl, Nat.zero_le _, fun e ne => ?_⟩
    refine ⟨_, DGet.k (k := Sum.inr "step") (same_new ne _ _ hG), ?_⟩
    have q2 := q e [] _ (s3.trans (same_new (o := .lst []) ne)) (s3.free ne) upd_same rpl_nil
    exact q2
  | loop x e1 e2 b =>
    obtain ⟨a, v1, v2, v3, v4, v5, rfl, ha, rfl, h2, h3, h4, h5⟩ := rp_t5 hR
    refine ⟨_, rfl, a, _, 0, _, rfl, rfl, SqT.of ha, rfl, rfl, _, rfl, ite2 (fun z => absurd z (by decide +kernel)) (fun _ => ?_)⟩
    refine fun p np => ?_
    have sp : Same H (upd H p (.dK [])) := same_new np
    refine ⟨_, rfl, 1, rfl, a, _, -1, _, rfl, rfl, SqT.of (sp _ _ ha), rfl, (by show 1 ≤ sizeLine; decide), fun l1 n1 => ?_⟩
    have s1 := sp.trans (same_new (o := .lst [v5]) n1)
    refine ⟨_, rfl, 1, rfl, a, _, -1, _, rfl, rfl, SqT.of (s1 _ _ ha), rfl, (by show 1 ≤ sizeLine; decide), fun l2 n2 => ?_⟩
    have s2 := s1.trans (same_new (o := .lst [v5]) n2)
    have hp : (upd (upd (upd H p (.dK [])) l1 (.lst [v5])) l2 (.lst [v5])) p = some (.dK []) := same_new n2 _ _ (same_new n1 _ _ upd_same)
    refine ⟨hp, [(Sum.inr "for", .ref l1), (Sum.inr "double", .ref l2)], rfl, (by show 2 ≤ 15; decide), ?_⟩
    have nl1 : l1 ≠ p := (ne_of_none upd_same n1).symm
    have nl2 : l2 ≠ p := (ne_of_none (same_new n1 _ _ upd_same) n2).symm
    have hG : (upd (upd (upd (upd H p (.dK [])) l1 (.lst [v5])) l2 (.lst [v5])) p (.dK (mergeK [] [(Sum.inr "for", .ref l1), (Sum.inr "double", .ref l2)]))) p = some (.dK [(Sum.inr "for", .ref l1), (Sum.inr "double", .ref l2)]) := by
      rw [upd_same]
      rfl
    have s3 : Same H (upd (upd (upd (upd H p (.dK [])) l1 (.lst [v5])) l2 (.lst [v5])) p (.dK (mergeK [] [(Sum.inr "for", .ref l1), (Sum.inr "double", .ref l2)]))) := Same.upd_new s2 np
    refine ⟨p, rfl, .inl ⟨_, .inl hG⟩, _, rfl, a, _, 0, _, rfl, rfl, SqT.of (s3 _ _ ha), rfl, Nat.zero_le _, fun e ne => ?_⟩
    refine ⟨_, DGet.k (k := Sum.inr "for") (same_new ne _ _ hG), ?_⟩
    have q2 := q l1 [v5] _ (s3.trans (same_new (o := .lst []) ne)) (sp.free n1) (same_new ne _ _ (by rw [upd_ne nl1]; exact same_new n2 _ _ upd_same)) (rpl_cons (h5.to ((Imm.same s3).trans (Imm.same (same_new ne)))) rpl_nil)
    exact q2
  | test e1 e2 x y =>
    obtain ⟨a, v1, v2, v3, v4, v5, rfl, ha, rfl, h2, h3, h4, h5⟩ := rp_t5 hR
    refine ⟨_, rfl, a, _, 0, _, rfl, rfl, SqT.of ha, rfl, rfl, _, rfl, ite2 (fun _ => ?_) (fun z => absurd (by decide +kernel) z)⟩
    refine ⟨_, rfl, a, _, 3, _, rfl, rfl, SqT.of ha, rfl, _, rfl, a, _, 4, _, rfl, rfl, SqT.of ha, rfl, (by show 2 ≤ sizeLine; decide), fun p np => ?_⟩
    exact q p _ _ (same_new np) np upd_same (rpl_cons (h4.to (Imm.same (same_new np))) (rpl_cons (h5.to (Imm.same (same_new np))) rpl_nil))
  | twice b =>
    obtain ⟨a, v1, v2, rfl, ha, rfl, h2⟩ := rp_t2 hR
    refine ⟨_, rfl, a, _, 0, _, rfl, rfl, SqT.of ha, rfl, rfl, _, rfl, ite2 (fun z => absurd z (by decide +kernel)) (fun _ => ?_)⟩
    refine fun p np => ?_
    have sp : Same H (upd H p (.dK [])) := same_new np
    refine ⟨_, rfl, 1, rfl, a, _, -1, _, rfl, rfl, SqT.of (sp _ _ ha), rfl, (by show 1 ≤ sizeLine; decide), fun l1 n1 => ?_⟩
    have s1 := sp.trans (same_new (o := .lst [v2]) n1)
    refine ⟨_, rfl, 1, rfl, a, _, -1, _, rfl, rfl, SqT.of (s1 _ _ ha), rfl, (by show 1 ≤ sizeLine; decide), fun l2 n2 => ?_⟩
    have s2 := s1.trans (same_new (o := .lst [v2]) n2)
    have hp : (upd (upd (upd H p (.dK [])) l1 (.lst [v2])) l2 (.lst [v2])) p = some (.dK []) := same_new n2 _ _ (same_new n1 _ _ upd_same)
    refine ⟨hp, [(Sum.inr "for", .ref l1), (Sum.inr "double", .ref l2)], rfl, (by show 2 ≤ 15; decide), ?_⟩
    have nl1 : l1 ≠ p := (ne_of_none upd_same n1).symm
    have nl2 : l2 ≠ p := (ne_of_none (same_new n1 _ _ upd_same) n2).symm
    have hG : (upd (upd (upd (upd H p (.dK [])) l1 (.lst [v2])) l2 (.lst [v2])) p (.dK (mergeK [] [(Sum.inr "for", .ref l1), (Sum.inr "double", .ref l2)]))) p = some (.dK [(Sum.inr "for", .ref l1), (Sum.inr "double", .ref l2)]) := by
      rw [upd_same]
      rfl
    have s3 : Same H (upd (upd (upd (upd H p (.dK [])) l1 (.lst [v2])) l2 (.lst [v2])) p (.dK (mergeK [] [(Sum.inr "for", .ref l1), (Sum.inr "double", .ref l2)]))) := Same.upd_new s2 np
    refine ⟨p, rfl, .inl ⟨_, .inl hG⟩, _, rfl, a, _, 0, _, rfl, rfl, SqT.of (s3 _ _ ha), rfl, Nat.zero_le _, fun e ne => ?_⟩
    refine ⟨_, DGet.k (k := Sum.inr "double") (same_new ne _ _ hG), ?_⟩
    have q2 := q l2 [v2] _ (s3.trans (same_new (o := .lst []) ne)) (s1.free n2) (same_new ne _ _ (by rw [upd_ne nl2]; exact upd_same)) (rpl_cons (h2.to ((Imm.same s3).trans (Imm.same (same_new ne)))) rpl_nil)
    exact q2
  | call x e =>
    obtain ⟨a, v1, v2, v3, rfl, ha, rfl, h2, h3⟩ := rp_t3 hR
    refine ⟨_, rfl, a, _, 0, _, rfl, rfl, SqT.of ha, rfl, rfl, _, rfl, ite2 (fun z => absurd z (by decide +kernel)) (fun _ => ?_)⟩
    refine fun p np => ?_
    have sp : Same H (upd H p (.dK [])) := same_new np
    refine ⟨_, rfl, 1, rfl, a, _, -1, _, rfl, rfl, SqT.of (sp _ _ ha), rfl, (by show 1 ≤ sizeLine; decide), fun l1 n1 => ?_⟩
    have s1 := sp.trans (same_new (o := .lst [v3]) n1)
    refine ⟨_, rfl, 1, rfl, a, _, -1, _, rfl, rfl, SqT.of (s1 _ _ ha), rfl, (by show 1 ≤ sizeLine; decide), fun l2 n2 => ?_⟩
    have s2 := s1.trans (same_new (o := .lst [v3]) n2)
    have hp : (upd (upd (upd H p (.dK [])) l1 (.lst [v3])) l2 (.lst [v3])) p = some (.dK []) := same_new n2 _ _ (same_new n1 _ _ upd_same)
    refine ⟨hp, [(Sum.inr "for", .ref l1), (Sum.inr "double", .ref l2)], rfl, (by show 2 ≤ 15; decide), ?_⟩
    have nl1 : l1 ≠ p := (ne_of_none upd_same n1).symm
    have nl2 : l2 ≠ p := (ne_of_none (same_new n1 _ _ upd_same) n2).symm
    have hG : (upd (upd (upd (upd H p (.dK [])) l1 (.lst [v3])) l2 (.lst [v3])) p (.dK (mergeK [] [(Sum.inr "for", .ref l1), (Sum.inr "double", .ref l2)]))) p = some (.dK [(Sum.inr "for", .ref l1), (Sum.inr "double", .ref l2)]) := by
      rw [upd_same]
      rfl
    have s3 : Same H (upd (upd (upd (upd H p (.dK [])) l1 (.lst [v3])) l2 (.lst [v3])) p (.dK (mergeK [] [(Sum.inr "for", .ref l1), (Sum.inr "double", .ref l2)]))) := Same.upd_new s2 np
    refine ⟨p, rfl, .inl ⟨_, .inl hG⟩, _, rfl, a, _, 0, _, rfl, rfl, SqT.of (s3 _ _ ha), rfl, Nat.zero_le _, fun e ne => ?_⟩
    refine ⟨_, DGet.k (k := Sum.inr "call") (same_new ne _ _ hG), ?_⟩
    have q2 := q e [] _ (s3.trans (same_new (o := .lst []) ne)) (s3.free ne) upd_same rpl_nil
    exact q2
  | again k w =>
    obtain ⟨a, v1, v2, v3, rfl, ha, rfl, h2, h3⟩ := rp_t3 hR
    refine ⟨_, rfl, a, _, 0, _, rfl, rfl, SqT.of ha, rfl, rfl, _, rfl, ite2 (fun z => absurd z (by decide +kernel)) (fun _ => ?_)⟩
    refine fun p np => ?_
    have sp : Same H (upd H p (.dK [])) := same_new np
    refine ⟨_, rfl, 1, rfl, a, _, -1, _, rfl, rfl, SqT.of (sp _ _ ha), rfl, (by show 1 ≤ sizeLine; decide), fun l1 n1 => ?_⟩
    have s1 := sp.trans (same_new (o := .lst [v3]) n1)
    refine ⟨_, rfl, 1, rfl, a, _, -1, _, rfl, rfl, SqT.of (s1 _ _ ha), rfl, (by show 1 ≤ sizeLine; decide), fun l2 n2 => ?_⟩
    have s2 := s1.trans (same_new (o := .lst [v3]) n2)
    have hp : (upd (upd (upd H p (.dK [])) l1 (.lst [v3])) l2 (.lst [v3])) p = some (.dK []) := same_new n2 _ _ (same_new n1 _ _ upd_same)
    refine ⟨hp, [(Sum.inr "for", .ref l1), (Sum.inr "double", .ref l2)], rfl, (by show 2 ≤ 15; decide), ?_⟩
    have nl1 : l1 ≠ p := (ne_of_none upd_same n1).symm
    have nl2 : l2 ≠ p := (ne_of_none (same_new n1 _ _ upd_same) n2).symm
    have hG : (upd (upd (upd (upd H p (.dK [])) l1 (.lst [v3])) l2 (.lst [v3])) p (.dK (mergeK [] [(Sum.inr "for", .ref l1), (Sum.inr "double", .ref l2)]))) p = some (.dK [(Sum.inr "for", .ref l1), (Sum.inr "double", .ref l2)]) := by
      rw [upd_same]
      rfl
    have s3 : Same H (upd (upd (upd (upd H p (.dK [])) l1 (.lst [v3])) l2 (.lst [v3])) p (.dK (mergeK [] [(Sum.inr "for", .ref l1), (Sum.inr "double", .ref l2)]))) := Same.upd_new s2 np
    refine ⟨p, rfl, .inl ⟨_, .inl hG⟩, _, rfl, a, _, 0, _, rfl, rfl, SqT.of (s3 _ _ ha), rfl, Nat.zero_le _, fun e ne => ?_⟩
    refine ⟨_, DGet.k (k := Sum.inr "again") (same_new ne _ _ hG), ?_⟩
    have q2 := q e [] _ (s3.trans (same_new (o := .lst []) ne)) (s3.free ne) upd_same rpl_nil
    exact q2
theorem ok_l_every (T : Tops w K mg) (n : Nat) (Gl_every : FnOk P w K mg base CX0 (n + 1) T.fl_every T.dl_every ["_law_plan"] (prevE n)) : FnOk P w K mg base CX0 (n + 2) T.fl_every T.dl_every ["_law_plan"] (spEvery n) := by
  have Gl_bodies : FnOk P w K mg base CX0 1 T.fl_bodies T.dl_bodies ["_law_thing"] spBodies := ok_l_bodies T
  refine T.Fl_every.ok (k := n + 1) scl_every (fun vs H Q E h => ?_) (fun cdv A outer s H vs Q E hr h => ?_)
  · obtain ⟨v, ts, C, A', sc, rfl, _⟩ := h
    rfl
  obtain ⟨v, ts, C, A', sc, rfl, hR, hT, hc, q⟩ := h
  refine ⟨_, (pss_cons (ps_set (i := 1) scl_every.nd rfl (Or.inl rfl) (pe_lst pa_nil))
 (pss_cons (ps_for PassesOwn.never rfl (pi_tup (pv 0)) (pg_name (i := 2) scl_every.nd rfl (Or.inl rfl))
  (pss_cons (ps_expr (pe_bm PySem.F.plainAttrs_list PySem.F.slot_list_append PySem.F.type_list_append mt_append (pv 1) (pa_cons (pv 2) pa_nil)))
 (pss_one (ps_for PassesOwn.never rfl (pi_list (pe_call Gl_bodies (hr.mono (by omega)) (by rfl) T.gl_bodies T.Fl_bodies.kp T.bl_bodies .nil pass0 (pa_cons (pv 2) pa_nil))) (pg_name (i := 3) scl_every.nd rfl (Or.inl rfl))
  (pss_one (ps_set (i := 1) scl_every.nd rfl (Or.inl rfl) (pe_op op_cat (pv 1) (pe_call Gl_every (hr.mono (by omega)) (by rfl) T.gl_every T.Fl_every.kp T.bl_every .nil pass0 (pa_cons (pv 3) pa_nil)))))))))
 (pss_one (ps_ret (pv 1))))), ?_⟩
  obtain ⟨a, vs, rfl, ha, hvs⟩ := id hR
  have hl := hvs.length
  rw [encs_length] at hl
  refine ⟨Nat.zero_le _, fun F0 nF0 => ?_⟩
  have s0 : Same H (upd H F0 (.lst [])) := same_new nF0
  refine ⟨_, rfl, a, rfl, ⟨_, SqT.of (s0 _ _ ha)⟩, ?_⟩
  refine for_tup (xs := vs) (fun i σ H' => ∃ F, (∃ x2 x3, σ = [some (.ref a), some (.ref F), x2, x3]) ∧ H F = none ∧ Same H H' ∧ ∃ us, H' F = some (.lst us) ∧ RpL H' us (encs (everyB (ts.take i)))) ⟨F0, ⟨_, _, rfl⟩, nF0, s0, [], upd_same, rfl⟩ (fun i σ H' _ hP => by
    obtain ⟨F, _, _, s2, _⟩ := hP
    exact SqT.of (s2 _ _ ha)) (fun i x σ H2 hx hP => ?_) (fun σ H2 hP => ?_)
  · obtain ⟨F, ⟨x2, x3, rfl⟩, nF, s2, us, hF2, hR2⟩ := hP
    obtain ⟨t, ht, hRt⟩ := rpl_things (hvs.to (Imm.same s2)) hx
    have hTt : TOk C A' sc n t := (tsok_iff ts).mp hT t (List.mem_of_getElem? ht)
    have hct : cntT t ≤ 1000 := Nat.le_trans (cnt_mem (List.mem_of_getElem? ht)) hc
    have p0 := part_len ht 0
    have l2 := hR2.length
    rw [encs_length] at l2
    have lus : us.length < 100000 := by
      rw [l2]
      rw [List.length_append, List.length_cons] at p0
      omega
    refine ⟨_, rfl, .inl ⟨rfl, _, SqL.of hF2⟩, _, rfl, F, us, x, rfl, rfl, hF2, szl lus, ?_⟩
    have s3 : Same H (upd H2 F (.lst (us ++ [x]))) := Same.upd_new s2 nF
    have i3 : Imm H2 (upd H2 F (.lst (us ++ [x]))) := (Imm.refl H2).upd fun xs e => by rw [hF2] at e; cases e
    refine ⟨_, rfl, x, t, rfl, hRt.to i3, fun B bs H4 s4 nB hB hRb => ?_⟩
    refine ⟨B, rfl, ⟨_, SqL.of hB⟩, ?_⟩
    have lb := hRb.length
    unfold encBs at lb
    rw [List.length_map] at lb
    have nBF : B ≠ F := (ne_of_none upd_same nB).symm
    have nBH : H B = none := s3.free nB
    refine for_list (xs := bs) (fun j σ H' => ∃ F', (∃ x3, σ = [some (.ref a), some (.ref F'), some x, x3]) ∧ H F' = none ∧ F' ≠ B ∧ Same H H' ∧ H' B = some (.lst bs) ∧ RpL H' bs (encBs (bodiesT t)) ∧ ∃ us', H' F' = some (.lst us') ∧ RpL H' us' (encs (everyB (ts.take i) ++ t :: ((bodiesT t).take j).flatMap everyB)))
      ⟨F, ⟨_, rfl⟩, nF, nBF.symm, s3.trans s4, hB, hRb, us ++ [x], s4 _ _ upd_same, ?_⟩ (fun j σ H' _ hP => by
        obtain ⟨F', _, _, _, _, hB', _⟩ := hP
        exact SqL.of hB') (fun j y σ H5 hy hP => ?_) (fun σ H5 hP => ?_)
    · show RpL H4 (us ++ [x]) (encs (everyB (ts.take i) ++ t :: []))
      rw [encs_cons_append]
      exact (hR2.to (i3.trans (Imm.same s4))).append (rpl_cons (hRt.to (i3.trans (Imm.same s4))) rpl_nil)
    · obtain ⟨F', ⟨x3', rfl⟩, nF', nFB, s5, hB5, hRb5, us5, hF5, hR5⟩ := hP
      obtain ⟨b, hb, hRy⟩ := rpl_bodies hRb5 hy
      obtain ⟨sc', m, en, hTb⟩ := bodies_ok hTt b (List.mem_of_getElem? hb)
      subst en
      have hcb : cntB b ≤ 1000 := Nat.le_trans (bodies_cnt b (List.mem_of_getElem? hb)) hct
      have p5 := part_len ht (j + 1)
      rw [flat_step hb] at p5
      have l5 := hR5.length
      rw [encs_length] at l5
      refine ⟨_, rfl, _, rfl, y, b, C, A', sc', rfl, hRy, hTb, hcb, fun p us6 H6 s6 np hp hR6 => ?_⟩
      have l6 := hR6.length
      rw [encs_length] at l6
      have lz : us5.length + us6.length ≤ 100000 := by
        rw [l5, l6]
        simp only [List.length_append, List.length_cons] at p5 ⊢
        omega
      have hF6 := s6 _ _ hF5
      refine ⟨F', p, us5, us6, rfl, rfl, hF6, hp, sz lz, fun F7 nF7 => ?_⟩
      have s7 : Same H6 (upd H6 F7 (.lst (us5 ++ us6))) := same_new nF7
      refine ⟨F7, ⟨_, rfl⟩, (s5.trans s6).free nF7, (ne_of_none (s6 _ _ hB5) nF7).symm, (s5.trans s6).trans s7, s7 _ _ (s6 _ _ hB5), hRb5.to ((Imm.same s6).trans (Imm.same s7)), us5 ++ us6, upd_same, ?_⟩
      rw [flat_step hb]
      have e : everyB (ts.take i) ++ t :: (((bodiesT t).take j).flatMap everyB ++ everyB b) = (everyB (ts.take i) ++ t :: ((bodiesT t).take j).flatMap everyB) ++ everyB b := by rw [List.append_assoc]; rfl
      rw [e, encs_append]
      exact (hR5.to ((Imm.same s6).trans (Imm.same s7))).append (hR6.to (Imm.same s7))
    · obtain ⟨F', ⟨x3', rfl⟩, nF', nFB, s5, hB5, hRb5, us5, hF5, hR5⟩ := hP
      refine ⟨F', ⟨_, _, rfl⟩, nF', s5, us5, hF5, ?_⟩
      rw [lb, List.take_length] at hR5
      rw [everyB_take ht]
      exact hR5
  · obtain ⟨F, ⟨x2, x3, rfl⟩, nF, s2, us, hF2, hR2⟩ := hP
    rw [hl, List.take_length] at hR2
    exact ⟨_, rfl, q F us H2 s2 nF hF2 hR2⟩
theorem ok_l_everys (T : Tops w K mg) : ∀ n : Nat, FnOk P w K mg base CX0 (n + 2) T.fl_every T.dl_every ["_law_plan"] (spEvery n)
  | 0 => ok_l_every T 0 OG.fn_none
  | n + 1 => ok_l_every T (n + 1) (ok_l_everys T n)
end
end K06

set_option Elab.async false
set_option linter.all false
set_option maxRecDepth 100000
set_option maxHeartbeats 4000000
namespace K06
open PySem PySem.Spec PyProof.Rows L2 OG
open C8 (pss_cut pe_gc)
open OGX

section
variable {P : Program} {w : World} {K : PySem.W.Frag} {mg : Str → Option Value} {base : Heap}
theorem cutV_from (xs : List V) (k : Nat) : cutV xs (some (k : Int)) none = xs.drop k := by
  unfold cutV
  rw [HT.sIx_none, HT.sIx_nat]
  by_cases h : k ≤ xs.length
  · rw [Nat.min_eq_left h, List.take_of_length_le (by rw [List.length_drop]; omega)]
  · rw [Nat.min_eq_right (by omega), List.drop_length, Nat.sub_self, List.drop_eq_nil_of_le (by omega)]
    rfl
theorem cut_two (ns : List Str) : cutV (ns.map V.str) (some 2) none = (ns.drop 2).map V.str := by
  have := cutV_from (ns.map V.str) 2
  rw [← List.map_drop] at this
  exact this
theorem ok_un_thing (T : Tops w K mg) (n : Nat) (Gl_unfit : FnOk P w K mg base CX0 (2 * n + 3) T.fl_unfit T.dl_unfit ["_law_draw", "_law_plan", "_law_names"] (prevUn n)) : FnOk P w K mg base CX0 (2 * n + 4) T.fl_unfit_thing T.dl_unfit_thing ["_law_draw", "_law_thing", "_law_names"] (spUnThing n) := by
  have Gl_take : FnOk P w K mg base CX0 1 T.fl_take T.dl_take ["_law_draw", "_law_sides"] spTake := ok_take T
  have Gl_pick : FnOk P w K mg base CX0 2 T.fl_pick T.dl_pick ["_law_draw", "_law_row"] (spPick K) := ok_pick T
  refine T.Fl_unfit_thing.ok (k := 2 * n + 3) scl_unfit_thing (fun vs H Q E h => ?_) (fun cdv A outer s H vs Q E hr h => ?_)
  · obtain ⟨d, L, nm, v, t, ns, rfl, _⟩ := h
    rfl
  obtain ⟨d, L, nm, v, t, ns, rfl, hD, hR, hT, hc, hN, nmd, q⟩ := h
  refine ⟨_, (pss_cons (ps_set (i := 3) scl_unfit_thing.nd rfl (Or.inl rfl) (pe_call Gl_take (hr.mono (by omega)) (by rfl) T.gl_take T.Fl_take.kp T.bl_take .nil pass0 (pa_cons (pv 0) (pa_cons pe_int pa_nil))))
 (pss_cut (ps_if (PW.pt (pw_and (pt_cmpR op_eq (pv 3) pe_int (nomark _)) (pw_and1 (pt_cmpR op_eq (pe_ix ix_tup (pv 1) pe_int (fun _ _ => rfl)) pe_str (nomark _)))))
  (pss_one (ps_ret (pe_op op_catA (pe_tup (pa_cons pe_str (pa_cons (pe_call Gl_pick (hr.mono (by omega)) (by rfl) T.gl_pick T.Fl_pick.kp T.bl_pick .nil pass0 (pa_cons (pv 0) (pa_cons (pe_slice sl_list (pv 2) (po_some pe_int) po_none) pa_nil))) pa_nil))) (pe_slice sl_tupA (pv 1) (po_some pe_int) po_none))))
  pss_nil)
 (pss_cut (ps_if (PW.pt (pw_and (pt_cmpR op_eq (pv 3) pe_int (nomark _)) (pw_and1 (pt_cmpR op_in_seq (pe_ix ix_tup (pv 1) pe_int (fun _ _ => rfl)) (pe_lst (pa_cons pe_str (pa_cons pe_str pa_nil))) (by rfl)))))
  (pss_cons (ps_set (i := 4) scl_unfit_thing.nd rfl (Or.inl rfl) (pe_op op_add (pe_dget (hu_of hr) (pe_disp (pps_cons pe_str pe_int (pps_cons pe_str pe_int pps_nil)) (by rfl) (by rfl) (fun z => by cases z) (by decide)) (pe_ix ix_tup (pv 1) pe_int (fun _ _ => rfl)) (fun _ _ => rfl)) (pe_call Gl_take (hr.mono (by omega)) (by rfl) T.gl_take T.Fl_take.kp T.bl_take .nil pass0 (pa_cons (pv 0) (pa_cons pe_int pa_nil)))))
 (pss_one (ps_ret (pe_op op_catA (pe_op op_catA (pe_slice sl_tupA (pv 1) po_none (po_some (pv 4))) (pe_tup (pa_cons (pe_tup (pa_cons (pe_call Gl_pick (hr.mono (by omega)) (by rfl) T.gl_pick T.Fl_pick.kp T.bl_pick .nil pass0 (pa_cons (pv 0) (pa_cons (pv 2) pa_nil))) (pa_cons (pe_call Gl_take (hr.mono (by omega)) (by rfl) T.gl_take T.Fl_take.kp T.bl_take .nil pass0 (pa_cons (pv 0) (pa_cons pe_int pa_nil))) pa_nil))) pa_nil))) (pe_slice sl_tupA (pv 1) (po_some (pe_op op_add (pv 4) pe_int)) po_none)))))
  pss_nil)
 (pss_cut (ps_if (PW.pt (pw_and (pt_cmpR op_eq (pv 3) pe_int (nomark _)) (pw_and1 (pt_cmpR op_eq (pe_ix ix_tup (pv 1) pe_int (fun _ _ => rfl)) pe_str (nomark _)))))
  (pss_one (ps_ret (pe_tup (pa_cons pe_str (pa_cons (pe_op op_add pe_int (pe_call Gl_take (hr.mono (by omega)) (by rfl) T.gl_take T.Fl_take.kp T.bl_take .nil pass0 (pa_cons (pv 0) (pa_cons pe_int pa_nil)))) (pa_cons (pe_call Gl_pick (hr.mono (by omega)) (by rfl) T.gl_pick T.Fl_pick.kp T.bl_pick .nil pass0 (pa_cons (pv 0) (pa_cons (pe_lst (pa_cons pe_str (pa_cons pe_str (pa_cons pe_str pa_nil)))) pa_nil))) pa_nil))))))
  pss_nil)
 (pss_cut (ps_if (PW.pt (pw_and (pt_cmpR op_eq (pv 3) pe_int (nomark _)) (pw_and1 (pt_cmpR op_eq (pe_ix ix_tup (pv 1) pe_int (fun _ _ => rfl)) pe_str (nomark _)))))
  (pss_one (ps_ret (pe_tup (pa_cons pe_str (pa_cons pe_str (pa_cons (pe_tup (pa_cons (pe_call Gl_pick (hr.mono (by omega)) (by rfl) T.gl_pick T.Fl_pick.kp T.bl_pick .nil pass0 (pa_cons (pv 0) (pa_cons (pv 2) pa_nil))) (pa_cons pe_int pa_nil))) pa_nil))))))
  pss_nil)
 (pss_cut (ps_if (pt_cmpR op_in_seq (pe_ix ix_tup (pv 1) pe_int (fun _ _ => rfl)) (pe_lst (pa_cons pe_str (pa_cons pe_str pa_nil))) (by rfl))
  (pss_one (ps_ret (pe_op op_catA (pe_slice sl_tupA (pv 1) po_none (po_some (pe_un un_neg pe_int))) (pe_tup (pa_cons (pe_call Gl_unfit (hr.mono (by omega)) (by rfl) T.gl_unfit T.Fl_unfit.kp T.bl_unfit .nil pass0 (pa_cons (pv 0) (pa_cons (pe_ix ix_tup (pv 1) (pe_un un_neg pe_int) (fun _ _ => rfl)) (pa_cons (pv 2) pa_nil)))) pa_nil)))))
  pss_nil)
 (pss_cut (ps_if (pt_cmpR op_eq (pe_ix ix_tup (pv 1) pe_int (fun _ _ => rfl)) pe_str (nomark _))
  (pss_one (ps_ret (pe_op op_catA (pe_slice sl_tupA (pv 1) po_none (po_some pe_int)) (pe_tup (pa_cons (pe_call Gl_unfit (hr.mono (by omega)) (by rfl) T.gl_unfit T.Fl_unfit.kp T.bl_unfit .nil pass0 (pa_cons (pv 0) (pa_cons (pe_ix ix_tup (pv 1) pe_int (fun _ _ => rfl)) (pa_cons (pv 2) pa_nil)))) (pa_cons (pe_call Gl_unfit (hr.mono (by omega)) (by rfl) T.gl_unfit T.Fl_unfit.kp T.bl_unfit .nil pass0 (pa_cons (pv 0) (pa_cons (pe_ix ix_tup (pv 1) pe_int (fun _ _ => rfl)) (pa_cons (pv 2) pa_nil)))) pa_nil))))))
  pss_nil)
 (pss_one (ps_ret (pv 1)))))))))), ?_⟩
  refine ⟨_, rfl, d, L, 12, rfl, hD, by decide, by decide, fun g H1 g0 g1 hD1 hB1 => ?_⟩
  have G1 : Go (· = d) H H1 := Go.but hD hB1 rfl
  have hR1 := hR.to G1.im
  have hN1 := hN.go G1 nmd
  obtain ⟨a, u1, rfl, ha⟩ := rp_kind hR1
  have hlen : ns.length < 1000 := hN.2.2.1
  have h3 : 3 ≤ ns.length := hN.2.1
  have q1 : ∀ (v' : V) (t' : Thing) (H' : Hp), Rp H' v' (enc t') → ShT n t' → cntT t' = cntT t → Dr H' d L → Go (· = d) H1 H' → Q v' H' := fun v' t' H' r1 r2 r3 r4 r5 => q v' t' H' r1 r2 r3 r4 (G1.trans r5)
  clear q
  let J : L2.St → Hp → Prop := fun σ' H' => σ' = [some (.ref d), some (.ref a), some (.ref nm), some (.int g), none] ∧ Same H1 H'
  -- a for's name
  refine ⟨J, ?_, ?_⟩
  · refine ⟨_, rfl, rfl, _, rfl, ite2 (fun _ => ?_) (fun _ => ⟨rfl, Same.refl H1⟩)⟩
    refine ⟨_, rfl, a, _, 0, _, rfl, rfl, SqT.of ha, atI_nat (j := 0) rfl, rfl, _, rfl, ite2 (fun c => ?_) (fun _ => ⟨rfl, Same.refl H1⟩)⟩
    obtain ⟨x, e1, e2, b, rfl⟩ := kind_for (V.str.inj (of_decide_eq_true c))
    obtain ⟨a', v1, v2, v3, v4, v5, ea, ha', rfl, rfl, r3, r4, r5⟩ := rp_t5 hR1
    cases ea
    refine ⟨_, rfl, _, rfl, 2, rfl, nm, _, rfl, SqL.of hN1.1, fun p np => ?_⟩
    have sp := same_new (o := .lst (cutV (ns.map V.str) (some 2) none)) np
    have hD2 := hD1.same sp
    have ldrop : ((ns.drop 2).map V.str).length = ns.length - 2 := by rw [List.length_map, List.length_drop]
    refine ⟨d, L, _, ns.length - 2, rfl, hD2, by omega, by omega, .inr ⟨p, (ns.drop 2).map V.str, rfl, (hD1.neNew np).1, SqL.of (by rw [upd_same, cut_two]), ldrop, fun y H3 hy hD3 hB3 => ?_⟩⟩
    obtain ⟨z, rfl, hz⟩ := mem_strs hy
    have G3 : Go (· = d) H1 H3 := (Go.same sp).trans (Go.but hD2 hB3 rfl)
    refine ⟨(by show 2 ≤ sizeLine; decide), fun p1 np1 => ?_⟩
    have s4 := same_new (o := .tup [.str "for", .str z]) np1
    refine ⟨_, rfl, 2, rfl, ?_⟩
    dsimp only [tNoPart]
    refine sl_rp (K := K) (lo := some 2) (hi := none) ((hR1.to G3.im).to (Imm.same s4)) fun w1 H5 s5 hw1 => ?_
    have hw1' : Rp H5 w1 (.tup [encE e1, encE e2, .tup (encs b)]) := hw1
    have hp1 : Rp H5 (.ref p1) (.tup [.str "for", .str z]) := rp_tup (s5 _ _ upd_same) (rpl_cons rfl (rpl_cons rfl rpl_nil))
    refine cat_rp hp1 hw1' (by show 2 + 3 ≤ 100000; decide) fun w2 H6 s6 hw2 => ?_
    obtain ⟨y1, y2, y3, y4⟩ := hT
    exact q1 w2 (.loop z e1 e2 b) H6 hw2 ⟨hN.2.2.2.2 z hz, y2, y3, y4⟩ rfl (((hD3.same s4).same s5).same s6) (((G3.trans (Go.same s4)).trans (Go.same s5)).trans (Go.same s6))
  rintro σ' H2 ⟨rfl, s2⟩
  -- an end
  refine ⟨J, ?_, ?_⟩
  · refine ⟨_, rfl, rfl, _, rfl, ite2 (fun _ => ?_) (fun _ => ⟨rfl, s2⟩)⟩
    refine ⟨_, rfl, a, _, 0, _, rfl, rfl, SqT.of (s2 _ _ ha), atI_nat (j := 0) rfl, (by show 2 ≤ sizeLine; decide), fun l nl => ?_⟩
    have sl : Same H2 (upd H2 l (.lst [.str "for", .str "if"])) := same_new nl
    refine ⟨l, _, rfl, .inl (SqL.of upd_same), rfl, rfl, _, rfl, ite2 (fun c => ?_) (fun _ => ⟨rfl, s2.trans sl⟩)⟩
    have c1 : inV (.str (kindT t)) ((["for", "if"] : List Str).map V.str) = true := c
    rw [inV_str] at c1
    have c2 : kindT t ∈ (["for", "if"] : List Str) := of_decide_eq_true c1
    refine fun p np => ?_
    have sp := sl.trans (same_new (o := .dK []) np)
    refine ⟨upd_same, [(Sum.inr "for", .int 2), (Sum.inr "if", .int 1)], rfl, (by show 2 ≤ 15; decide), ?_⟩
    have hG : (upd (upd (upd H2 l (.lst [.str "for", .str "if"])) p (.dK [])) p (.dK (mergeK [] [(Sum.inr "for", .int 2), (Sum.inr "if", .int 1)]))) p = some (.dK [(Sum.inr "for", .int 2), (Sum.inr "if", .int 1)]) := by
      rw [upd_same]
      rfl
    have sG : Same H2 (upd (upd (upd H2 l (.lst [.str "for", .str "if"])) p (.dK [])) p (.dK (mergeK [] [(Sum.inr "for", .int 2), (Sum.inr "if", .int 1)]))) := Same.upd_new sp (sl.free np)
    have s12 := s2.trans sG
    refine ⟨_, rfl, a, _, 0, _, rfl, rfl, SqT.of (s12 _ _ ha), atI_nat (j := 0) rfl, ?_⟩
    have hDG := hD1.same s12
    rcases List.mem_cons.mp c2 with hk | hk
    · obtain ⟨x, e1, e2, b, rfl⟩ := kind_for hk
      obtain ⟨y1, y2, y3, y4⟩ := id hT
      refine ⟨p, .int 2, rfl, DGet.k (k := Sum.inr "for") hG, ?_⟩
      refine ⟨_, rfl, d, L, 2, rfl, hDG, by decide, by decide, fun g2 H3 g20 g21 hD3 hB3 => ?_⟩
      have G3 : Go (· = d) H1 H3 := (Go.same s12).trans (Go.but hDG hB3 rfl)
      refine ⟨2, g2, rfl, rfl, ?_⟩
      have hg2 : g2 = 0 ∨ g2 = 1 := by omega
      rcases hg2 with rfl | rfl
      · refine ⟨_, rfl, _, rfl, 2 + 0, rfl, ?_⟩
        refine sl_rp (K := K) (lo := none) (hi := some (2 + 0)) (hR1.to G3.im) fun w1 H4 s4 hw1 => ?_
        have hw1' : Rp H4 w1 (.tup [.str "for", .str x]) := hw1
        have hD4 := hD3.same s4
        have G4 := G3.trans (Go.same s4)
        refine ⟨_, rfl, _, rfl, d, L, _, ns.length, rfl, hD4, by omega, by omega, .inr ⟨nm, ns.map V.str, rfl, nmd, SqL.of (G4.at hN1.1 nmd), List.length_map _, fun y H5 hy hD5 hB5 => ?_⟩⟩
        obtain ⟨z, rfl, hz⟩ := mem_strs hy
        have G45 : Go (· = d) H4 H5 := Go.but hD4 hB5 rfl
        refine ⟨_, rfl, d, L, 3, rfl, hD5, by decide, by decide, fun g3 H6 g30 g31 hD6 hB6 => ?_⟩
        have G56 : Go (· = d) H5 H6 := Go.but hD5 hB6 rfl
        have G46 := G45.trans G56
        refine ⟨(by show 2 ≤ sizeLine; decide), fun p1 np1 => ⟨(by show 1 ≤ sizeLine; decide), fun p2 np2 => ?_⟩⟩
        have s7 := same_new (o := .tup [.str z, .int g3]) np1
        have s8 := same_new (o := .tup [.ref p1]) np2
        have s78 := s7.trans s8
        have hp2 : Rp (upd (upd H6 p1 (.tup [.str z, .int g3])) p2 (.tup [.ref p1])) (.ref p2) (.tup [encE (z, g3)]) := rp_tup upd_same (rpl_cons (rp_tup (s8 _ _ upd_same) (rpl_cons rfl (rpl_cons rfl rpl_nil))) rpl_nil)
        refine cat_rp ((hw1'.to G46.im).to (Imm.same s78)) hp2 (by show 2 + 1 ≤ 100000; decide) fun w2 H7 s9 hw2 => ?_
        refine ⟨_, rfl, _, rfl, 2 + 0, 1, rfl, rfl, _, rfl, ?_⟩
        dsimp only [tNoPart]
        have G7 := (G4.trans G46).trans (Go.same (s78.trans s9))
        refine sl_rp (K := K) (lo := some (2 + 0 + 1)) (hi := none) (hR1.to G7.im) fun w3 H8 s10 hw3 => ?_
        have hw3' : Rp H8 w3 (.tup [encE e2, .tup (encs b)]) := hw3
        refine cat_rp (hw2.to (Imm.same s10)) hw3' (by show 3 + 2 ≤ 100000; decide) fun w4 H9 s11 hw4 => ?_
        exact q1 w4 (.loop x (z, g3) e2 b) H9 hw4 ⟨y1, .inr (hN.2.2.2.1 z hz), y3, y4⟩ rfl ((((hD6.same s78).same s9).same s10).same s11) ((G7.trans (Go.same s10)).trans (Go.same s11))
      · refine ⟨_, rfl, _, rfl, 2 + 1, rfl, ?_⟩
        refine sl_rp (K := K) (lo := none) (hi := some (2 + 1)) (hR1.to G3.im) fun w1 H4 s4 hw1 => ?_
        have hw1' : Rp H4 w1 (.tup [.str "for", .str x, encE e1]) := hw1
        have hD4 := hD3.same s4
        have G4 := G3.trans (Go.same s4)
        refine ⟨_, rfl, _, rfl, d, L, _, ns.length, rfl, hD4, by omega, by omega, .inr ⟨nm, ns.map V.str, rfl, nmd, SqL.of (G4.at hN1.1 nmd), List.length_map _, fun y H5 hy hD5 hB5 => ?_⟩⟩
        obtain ⟨z, rfl, hz⟩ := mem_strs hy
        have G45 : Go (· = d) H4 H5 := Go.but hD4 hB5 rfl
        refine ⟨_, rfl, d, L, 3, rfl, hD5, by decide, by decide, fun g3 H6 g30 g31 hD6 hB6 => ?_⟩
        have G56 : Go (· = d) H5 H6 := Go.but hD5 hB6 rfl
        have G46 := G45.trans G56
        refine ⟨(by show 2 ≤ sizeLine; decide), fun p1 np1 => ⟨(by show 1 ≤ sizeLine; decide), fun p2 np2 => ?_⟩⟩
        have s7 := same_new (o := .tup [.str z, .int g3]) np1
        have s8 := same_new (o := .tup [.ref p1]) np2
        have s78 := s7.trans s8
        have hp2 : Rp (upd (upd H6 p1 (.tup [.str z, .int g3])) p2 (.tup [.ref p1])) (.ref p2) (.tup [encE (z, g3)]) := rp_tup upd_same (rpl_cons (rp_tup (s8 _ _ upd_same) (rpl_cons rfl (rpl_cons rfl rpl_nil))) rpl_nil)
        refine cat_rp ((hw1'.to G46.im).to (Imm.same s78)) hp2 (by show 3 + 1 ≤ 100000; decide) fun w2 H7 s9 hw2 => ?_
        refine ⟨_, rfl, _, rfl, 2 + 1, 1, rfl, rfl, _, rfl, ?_⟩
        dsimp only [tNoPart]
        have G7 := (G4.trans G46).trans (Go.same (s78.trans s9))
        refine sl_rp (K := K) (lo := some (2 + 1 + 1)) (hi := none) (hR1.to G7.im) fun w3 H8 s10 hw3 => ?_
        have hw3' : Rp H8 w3 (.tup [.tup (encs b)]) := hw3
        refine cat_rp (hw2.to (Imm.same s10)) hw3' (by show 4 + 1 ≤ 100000; decide) fun w4 H9 s11 hw4 => ?_
        exact q1 w4 (.loop x e1 (z, g3) b) H9 hw4 ⟨y1, y2, .inr (hN.2.2.2.1 z hz), y4⟩ rfl ((((hD6.same s78).same s9).same s10).same s11) ((G7.trans (Go.same s10)).trans (Go.same s11))
    · obtain ⟨e1, e2, b, c0, rfl⟩ := kind_if (List.mem_singleton.mp hk)
      obtain ⟨y2, y3, y4⟩ := id hT
      refine ⟨p, .int 1, rfl, DGet.k (k := Sum.inr "if") hG, ?_⟩
      refine ⟨_, rfl, d, L, 2, rfl, hDG, by decide, by decide, fun g2 H3 g20 g21 hD3 hB3 => ?_⟩
      have G3 : Go (· = d) H1 H3 := (Go.same s12).trans (Go.but hDG hB3 rfl)
      refine ⟨1, g2, rfl, rfl, ?_⟩
      have hg2 : g2 = 0 ∨ g2 = 1 := by omega
      rcases hg2 with rfl | rfl
      · refine ⟨_, rfl, _, rfl, 1 + 0, rfl, ?_⟩
        refine sl_rp (K := K) (lo := none) (hi := some (1 + 0)) (hR1.to G3.im) fun w1 H4 s4 hw1 => ?_
        have hw1' : Rp H4 w1 (.tup [.str "if"]) := hw1
        have hD4 := hD3.same s4
        have G4 := G3.trans (Go.same s4)
        refine ⟨_, rfl, _, rfl, d, L, _, ns.length, rfl, hD4, by omega, by omega, .inr ⟨nm, ns.map V.str, rfl, nmd, SqL.of (G4.at hN1.1 nmd), List.length_map _, fun y H5 hy hD5 hB5 => ?_⟩⟩
        obtain ⟨z, rfl, hz⟩ := mem_strs hy
        have G45 : Go (· = d) H4 H5 := Go.but hD4 hB5 rfl
        refine ⟨_, rfl, d, L, 3, rfl, hD5, by decide, by decide, fun g3 H6 g30 g31 hD6 hB6 => ?_⟩
        have G56 : Go (· = d) H5 H6 := Go.but hD5 hB6 rfl
        have G46 := G45.trans G56
        refine ⟨(by show 2 ≤ sizeLine; decide), fun p1 np1 => ⟨(by show 1 ≤ sizeLine; decide), fun p2 np2 => ?_⟩⟩
        have s7 := same_new (o := .tup [.str z, .int g3]) np1
        have s8 := same_new (o := .tup [.ref p1]) np2
        have s78 := s7.trans s8
        have hp2 : Rp (upd (upd H6 p1 (.tup [.str z, .int g3])) p2 (.tup [.ref p1])) (.ref p2) (.tup [encE (z, g3)]) := rp_tup upd_same (rpl_cons (rp_tup (s8 _ _ upd_same) (rpl_cons rfl (rpl_cons rfl rpl_nil))) rpl_nil)
        refine cat_rp ((hw1'.to G46.im).to (Imm.same s78)) hp2 (by show 1 + 1 ≤ 100000; decide) fun w2 H7 s9 hw2 => ?_
        refine ⟨_, rfl, _, rfl, 1 + 0, 1, rfl, rfl, _, rfl, ?_⟩
        dsimp only [tNoPart]
        have G7 := (G4.trans G46).trans (Go.same (s78.trans s9))
        refine sl_rp (K := K) (lo := some (1 + 0 + 1)) (hi := none) (hR1.to G7.im) fun w3 H8 s10 hw3 => ?_
        have hw3' : Rp H8 w3 (.tup [encE e2, .tup (encs b), .tup (encs c0)]) := hw3
        refine cat_rp (hw2.to (Imm.same s10)) hw3' (by show 2 + 3 ≤ 100000; decide) fun w4 H9 s11 hw4 => ?_
        exact q1 w4 (.test (z, g3) e2 b c0) H9 hw4 ⟨.inr (hN.2.2.2.1 z hz), y3, y4⟩ rfl ((((hD6.same s78).same s9).same s10).same s11) ((G7.trans (Go.same s10)).trans (Go.same s11))
      · refine ⟨_, rfl, _, rfl, 1 + 1, rfl, ?_⟩
        refine sl_rp (K := K) (lo := none) (hi := some (1 + 1)) (hR1.to G3.im) fun w1 H4 s4 hw1 => ?_
        have hw1' : Rp H4 w1 (.tup [.str "if", encE e1]) := hw1
        have hD4 := hD3.same s4
        have G4 := G3.trans (Go.same s4)
        refine ⟨_, rfl, _, rfl, d, L, _, ns.length, rfl, hD4, by omega, by omega, .inr ⟨nm, ns.map V.str, rfl, nmd, SqL.of (G4.at hN1.1 nmd), List.length_map _, fun y H5 hy hD5 hB5 => ?_⟩⟩
        obtain ⟨z, rfl, hz⟩ := mem_strs hy
        have G45 : Go (· = d) H4 H5 := Go.but hD4 hB5 rfl
        refine ⟨_, rfl, d, L, 3, rfl, hD5, by decide, by decide, fun g3 H6 g30 g31 hD6 hB6 => ?_⟩
        have G56 : Go (· = d) H5 H6 := Go.but hD5 hB6 rfl
        have G46 := G45.trans G56
        refine ⟨(by show 2 ≤ sizeLine; decide), fun p1 np1 => ⟨(by show 1 ≤ sizeLine; decide), fun p2 np2 => ?_⟩⟩
        have s7 := same_new (o := .tup [.str z, .int g3]) np1
        have s8 := same_new (o := .tup [.ref p1]) np2
        have s78 := s7.trans s8
        have hp2 : Rp (upd (upd H6 p1 (.tup [.str z, .int g3])) p2 (.tup [.ref p1])) (.ref p2) (.tup [encE (z, g3)]) := rp_tup upd_same (rpl_cons (rp_tup (s8 _ _ upd_same) (rpl_cons rfl (rpl_cons rfl rpl_nil))) rpl_nil)
        refine cat_rp ((hw1'.to G46.im).to (Imm.same s78)) hp2 (by show 2 + 1 ≤ 100000; decide) fun w2 H7 s9 hw2 => ?_
        refine ⟨_, rfl, _, rfl, 1 + 1, 1, rfl, rfl, _, rfl, ?_⟩
        dsimp only [tNoPart]
        have G7 := (G4.trans G46).trans (Go.same (s78.trans s9))
        refine sl_rp (K := K) (lo := some (1 + 1 + 1)) (hi := none) (hR1.to G7.im) fun w3 H8 s10 hw3 => ?_
        have hw3' : Rp H8 w3 (.tup [.tup (encs b), .tup (encs c0)]) := hw3
        refine cat_rp (hw2.to (Imm.same s10)) hw3' (by show 3 + 2 ≤ 100000; decide) fun w4 H9 s11 hw4 => ?_
        exact q1 w4 (.test e1 (z, g3) b c0) H9 hw4 ⟨y2, .inr (hN.2.2.2.1 z hz), y4⟩ rfl ((((hD6.same s78).same s9).same s10).same s11) ((G7.trans (Go.same s10)).trans (Go.same s11))
  rintro σ' H3 ⟨rfl, s3⟩
  -- an again for a step
  refine ⟨J, ?_, ?_⟩
  · refine ⟨_, rfl, rfl, _, rfl, ite2 (fun _ => ?_) (fun _ => ⟨rfl, s3⟩)⟩
    refine ⟨_, rfl, a, _, 0, _, rfl, rfl, SqT.of (s3 _ _ ha), atI_nat (j := 0) rfl, rfl, _, rfl, ite2 (fun c => ?_) (fun _ => ⟨rfl, s3⟩)⟩
    obtain ⟨k, rfl⟩ := kind_step (V.str.inj (of_decide_eq_true c))
    have hD3 := hD1.same s3
    refine ⟨_, rfl, d, L, 2, rfl, hD3, by decide, by decide, fun g2 H4 g20 g21 hD4 hB4 => ?_⟩
    have G4 : Go (· = d) H1 H4 := (Go.same s3).trans (Go.but hD3 hB4 rfl)
    refine ⟨1, g2, rfl, rfl, _, rfl, (by show 3 ≤ sizeLine; decide), fun l nl => ?_⟩
    have sl := same_new (o := .lst [.str "halves", .str "thirds", .str "less"]) nl
    have hD5 := hD4.same sl
    refine ⟨d, L, _, 3, rfl, hD5, by decide, by decide, .inr ⟨l, _, rfl, (hD4.neNew nl).1, SqL.of upd_same, rfl, fun y H6 hy hD6 hB6 => ?_⟩⟩
    obtain ⟨z, rfl, hz⟩ := mem_strs (ns := ["halves", "thirds", "less"]) hy
    have G6 := (G4.trans (Go.same sl)).trans (Go.but hD5 hB6 (M := (· = d)) rfl)
    refine ⟨(by show 3 ≤ sizeLine; decide), fun p np => ?_⟩
    exact q1 _ (.again (1 + g2) z) _ (rp_tup upd_same (rpl_cons rfl (rpl_cons rfl (rpl_cons rfl rpl_nil)))) trivial rfl (hD6.new np) (G6.new np)
  rintro σ' H4 ⟨rfl, s4⟩
  -- a call for a step
  refine ⟨J, ?_, ?_⟩
  · refine ⟨_, rfl, rfl, _, rfl, ite2 (fun _ => ?_) (fun _ => ⟨rfl, s4⟩)⟩
    refine ⟨_, rfl, a, _, 0, _, rfl, rfl, SqT.of (s4 _ _ ha), atI_nat (j := 0) rfl, rfl, _, rfl, ite2 (fun c => ?_) (fun _ => ⟨rfl, s4⟩)⟩
    obtain ⟨k, rfl⟩ := kind_step (V.str.inj (of_decide_eq_true c))
    have hD4 := hD1.same s4
    refine ⟨_, rfl, _, rfl, d, L, _, ns.length, rfl, hD4, by omega, by omega, .inr ⟨nm, ns.map V.str, rfl, nmd, SqL.of (s4 _ _ hN1.1), List.length_map _, fun y H5 hy hD5 hB5 => ?_⟩⟩
    obtain ⟨z, rfl, hz⟩ := mem_strs hy
    have G5 := (Go.same s4).trans (Go.but hD4 hB5 (M := (· = d)) rfl)
    refine ⟨(by show 2 ≤ sizeLine; decide), fun p1 np1 => ⟨(by show 3 ≤ sizeLine; decide), fun p2 np2 => ?_⟩⟩
    have s6 := same_new (o := .tup [.str z, .int 0]) np1
    have s7 := same_new (o := .tup [.str "call", .str "f", .ref p1]) np2
    exact q1 _ (.call "f" (z, 0)) _ (rp_tup upd_same (rpl_cons rfl (rpl_cons rfl (rpl_cons (rp_tup (s7 _ _ upd_same) (rpl_cons rfl (rpl_cons rfl rpl_nil))) rpl_nil)))) (.inr (hN.2.2.2.1 z hz)) rfl (hD5.same (s6.trans s7)) (G5.trans (Go.same (s6.trans s7)))
  rintro σ' H5 ⟨rfl, s5⟩
  -- a body of a for, a double
  refine ⟨J, ?_, ?_⟩
  · refine ⟨_, rfl, a, _, 0, _, rfl, rfl, SqT.of (s5 _ _ ha), atI_nat (j := 0) rfl, (by show 2 ≤ sizeLine; decide), fun l nl => ?_⟩
    have sl : Same H5 (upd H5 l (.lst [.str "for", .str "double"])) := same_new nl
    refine ⟨l, _, rfl, .inl (SqL.of upd_same), rfl, rfl, _, rfl, ite2 (fun c => ?_) (fun _ => ⟨rfl, s5.trans sl⟩)⟩
    have c1 : inV (.str (kindT t)) ((["for", "double"] : List Str).map V.str) = true := c
    rw [inV_str] at c1
    have c2 : kindT t ∈ (["for", "double"] : List Str) := of_decide_eq_true c1
    have s6 := s5.trans sl
    have hR6 := hR1.to (Imm.same s6)
    have hD6 := hD1.same s6
    have hN6 := hN1.same s6
    rcases List.mem_cons.mp c2 with hk | hk
    · obtain ⟨x, e1, e2, b, rfl⟩ := kind_for hk
      obtain ⟨a', v1, v2, v3, v4, v5, ea, ha', _, r2, r3, r4, r5⟩ := rp_t5 hR6
      cases ea
      obtain ⟨y1, y2, y3, m, rfl, hSb⟩ := id hT
      have hcb : cntB b ≤ 1000 := by
        have : 1 + cntB b ≤ 1000 := hc
        omega
      refine ⟨_, rfl, 1, rfl, _, rfl, ?_⟩
      refine sl_rp (K := K) (lo := none) (hi := some (-1)) hR6 fun w1 H7 s7 hw1 => ?_
      have hw1' : Rp H7 w1 (.tup [.str "for", .str x, encE e1, encE e2]) := hw1
      refine ⟨_, rfl, _, rfl, 1, rfl, a, _, -1, _, rfl, rfl, SqT.of (s7 _ _ ha'), rfl, _, rfl, d, L, nm, v5, b, ns, rfl, hD6.same s7, r5.to (Imm.same s7), hSb, hcb, hN6.same s7, nmd, fun v' b' H8 hR8 hS8 hc8 hD8 G8 => ?_⟩
      refine ⟨(by show 1 ≤ sizeLine; decide), fun p np => ?_⟩
      have s9 := same_new (o := .tup [v']) np
      have hp1 : Rp (upd H8 p (.tup [v'])) (.ref p) (.tup [.tup (encs b')]) := rp_tup upd_same (rpl_cons (hR8.to (Imm.same s9)) rpl_nil)
      refine cat_rp ((hw1'.to G8.im).to (Imm.same s9)) hp1 (by show 4 + 1 ≤ 100000; decide) fun w2 H10 s10 hw2 => ?_
      exact q1 w2 (.loop x e1 e2 b') H10 hw2 ⟨y1, y2, y3, m, rfl, hS8⟩ (by show 1 + cntB b' = 1 + cntB b; omega) ((hD8.same s9).same s10) (((Go.same (s6.trans s7)).trans G8).trans (Go.same (s9.trans s10)))
    · obtain ⟨b, rfl⟩ := kind_double (List.mem_singleton.mp hk)
      obtain ⟨a', v1, v2, ea, ha', _, r2⟩ := rp_t2 hR6
      cases ea
      obtain ⟨m, rfl, hSb⟩ := id hT
      have hcb : cntB b ≤ 1000 := by
        have : 1 + cntB b ≤ 1000 := hc
        omega
      refine ⟨_, rfl, 1, rfl, _, rfl, ?_⟩
      refine sl_rp (K := K) (lo := none) (hi := some (-1)) hR6 fun w1 H7 s7 hw1 => ?_
      have hw1' : Rp H7 w1 (.tup [.str "double"]) := hw1
      refine ⟨_, rfl, _, rfl, 1, rfl, a, _, -1, _, rfl, rfl, SqT.of (s7 _ _ ha'), rfl, _, rfl, d, L, nm, v2, b, ns, rfl, hD6.same s7, r2.to (Imm.same s7), hSb, hcb, hN6.same s7, nmd, fun v' b' H8 hR8 hS8 hc8 hD8 G8 => ?_⟩
      refine ⟨(by show 1 ≤ sizeLine; decide), fun p np => ?_⟩
      have s9 := same_new (o := .tup [v']) np
      have hp1 : Rp (upd H8 p (.tup [v'])) (.ref p) (.tup [.tup (encs b')]) := rp_tup upd_same (rpl_cons (hR8.to (Imm.same s9)) rpl_nil)
      refine cat_rp ((hw1'.to G8.im).to (Imm.same s9)) hp1 (by show 1 + 1 ≤ 100000; decide) fun w2 H10 s10 hw2 => ?_
      exact q1 w2 (.twice b') H10 hw2 ⟨m, rfl, hS8⟩ (by show 1 + cntB b' = 1 + cntB b; omega) ((hD8.same s9).same s10) (((Go.same (s6.trans s7)).trans G8).trans (Go.same (s9.trans s10)))
  rintro σ' H6 ⟨rfl, s6⟩
  refine ⟨J, ?_, ?_⟩
  · refine ⟨_, rfl, a, _, 0, _, rfl, rfl, SqT.of (s6 _ _ ha), atI_nat (j := 0) rfl, rfl, _, rfl, ite2 (fun c => ?_) (fun _ => ⟨rfl, s6⟩)⟩
    obtain ⟨e1, e2, b, c0, rfl⟩ := kind_if (V.str.inj (of_decide_eq_true c))
    have hR6 := hR1.to (Imm.same s6)
    have hD6 := hD1.same s6
    have hN6 := hN1.same s6
    obtain ⟨a', v1, v2, v3, v4, v5, ea, ha', _, r2, r3, r4, r5⟩ := rp_t5 hR6
    cases ea
    obtain ⟨y2, y3, m, rfl, hSb, hSc⟩ := id hT
    have hcb : 1 + cntB b + cntB c0 ≤ 1000 := hc
    refine ⟨_, rfl, 3, rfl, ?_⟩
    refine sl_rp (K := K) (lo := none) (hi := some 3) hR6 fun w1 H7 s7 hw1 => ?_
    have hw1' : Rp H7 w1 (.tup [.str "if", encE e1, encE e2]) := hw1
    refine ⟨_, rfl, _, rfl, a, _, 3, _, rfl, rfl, SqT.of (s7 _ _ ha'), rfl, _, rfl, d, L, nm, v4, b, ns, rfl, hD6.same s7, r4.to (Imm.same s7), hSb, by omega, hN6.same s7, nmd, fun v' b' H8 hR8 hS8 hc8 hD8 G8 => ?_⟩
    have G78 : Go (· = d) H6 H8 := (Go.same s7).trans G8
    refine ⟨_, rfl, _, rfl, a, _, 4, _, rfl, rfl, SqT.of (G78.im _ _ ha'), rfl, _, rfl, d, L, nm, v5, c0, ns, rfl, hD8, r5.to G78.im, hSc, by omega, hN6.go G78 nmd, nmd, fun v'' c' H9 hR9 hS9 hc9 hD9 G9 => ?_⟩
    refine ⟨(by show 2 ≤ sizeLine; decide), fun p np => ?_⟩
    have s10 := same_new (o := .tup [v', v'']) np
    have hp1 : Rp (upd H9 p (.tup [v', v''])) (.ref p) (.tup [.tup (encs b'), .tup (encs c')]) := rp_tup upd_same (rpl_cons ((hR8.to G9.im).to (Imm.same s10)) (rpl_cons (hR9.to (Imm.same s10)) rpl_nil))
    refine cat_rp (((hw1'.to G8.im).to G9.im).to (Imm.same s10)) hp1 (by show 3 + 2 ≤ 100000; decide) fun w2 H11 s11 hw2 => ?_
    exact q1 w2 (.test e1 e2 b' c') H11 hw2 ⟨y2, y3, m, rfl, hS8, hS9⟩ (by show 1 + cntB b' + cntB c' = 1 + cntB b + cntB c0; omega) ((hD9.same s10).same s11) ((((Go.same s6).trans G78).trans G9).trans (Go.same (s10.trans s11)))
  rintro σ' H7 ⟨rfl, s7⟩
  exact ⟨_, rfl, q1 _ t H7 (hR1.to (Imm.same s7)) hT rfl (hD1.same s7) (Go.same s7)⟩
theorem ok_un_body (T : Tops w K mg) (n : Nat) (Gl_unfit_thing : FnOk P w K mg base CX0 (2 * n + 4) T.fl_unfit_thing T.dl_unfit_thing ["_law_draw", "_law_thing", "_law_names"] (spUnThing n)) : FnOk P w K mg base CX0 (2 * n + 5) T.fl_unfit T.dl_unfit ["_law_draw", "_law_plan", "_law_names"] (spUnBody n) := by
  refine T.Fl_unfit.ok (k := 2 * n + 4) scl_unfit (fun vs H Q E h => ?_) (fun cdv A outer s H vs Q E hr h => ?_)
  · obtain ⟨d, L, nm, v, ts, ns, rfl, _⟩ := h
    rfl
  obtain ⟨d, L, nm, v, ts, ns, rfl, hD, hR, hT, hc, hN, nmd, q⟩ := h
  refine ⟨_, (pss_one (ps_ret (pe_callTy call_tuple_of (by rfl) T.mtuple (by decide +kernel) (pa_cons (pe_lc (own := [("_law_thing", 3)]) rfl scl_unfit.nd (pi_tup (pv 1)) (blkOk_by (N := Nl_unfit) (sc := defScope sl_unfit) (by decide +kernel)) (fun _ _ _ _ _ => (pg_name (i := 3) scl_unfit.nd rfl (Or.inl rfl))) (fun _ _ _ _ _ => pts_nil) (fun _ _ _ _ _ => (pe_call Gl_unfit_thing (hr.mono (by omega)) (by rfl) T.gl_unfit_thing T.Fl_unfit_thing.kp T.bl_unfit_thing .nil pass0 (pa_cons (pv 0) (pa_cons (pv 3) (pa_cons (pv 2) pa_nil)))))) pa_nil)))), ?_⟩
  obtain ⟨a, vs, rfl, ha, hvs⟩ := id hR
  have hl := hvs.length
  rw [encs_length] at hl
  have hlen := cnt_len ts
  refine ⟨_, rfl, a, rfl, ⟨_, SqT.of ha⟩, fun Dn nD => ?_⟩
  have nDd := hD.neNew nD
  refine lc_tup (xs := vs) (fun i H' => Dr H' d L ∧ Go (· = d) H H' ∧ ∃ us ts', H' Dn = some (.lst us) ∧ RpL H' us (encs ts') ∧ ShB n ts' ∧ cntB ts' = cntB (ts.take i) ∧ ts'.length = i) ⟨hD.new nD, (Go.refl _ H).new nD, [], [], upd_same, rpl_nil, trivial, rfl, rfl⟩ (fun i H' hi hP => SqT.of (hP.2.1.im _ _ ha)) (fun i x H' hx hP => ?_) (fun H' hP => ?_)
  · obtain ⟨hD2, G2, us, ts', hDn, hRu, hS2, hc2, hl2⟩ := hP
    obtain ⟨t, ht, hRt⟩ := rpl_things hvs hx
    have hm := List.mem_of_getElem? ht
    have hi : i < vs.length := (List.getElem?_eq_some_iff.mp hx).1
    refine ⟨rfl, yes_go ?_⟩
    refine ⟨_, rfl, _, rfl, _, rfl, d, L, nm, x, t, ns, rfl, hD2, hRt.to G2.im, (shb_iff ts).mp hT t hm, Nat.le_trans (cnt_mem hm) hc, hN.go G2 nmd, nmd, fun v' t' H3 hR3 hS3 hc3 hD3 G3 => ?_⟩
    have hDn3 := G3.at hDn nDd.1
    have lus := hRu.length
    rw [encs_length, hl2] at lus
    have i3 : Imm H3 (upd H3 Dn (.lst (us ++ [v']))) := (Imm.refl H3).upd fun xs e => by rw [hDn3] at e; cases e
    refine ⟨us, hDn3, szl (by omega), hD3.upd nDd.1 nDd.2, (G2.trans G3).own nD, us ++ [v'], ts' ++ [t'], upd_same, ?_, shb_append hS2 ⟨hS3, trivial⟩, ?_, by rw [List.length_append, hl2]; rfl⟩
    · rw [encs_append]
      exact ((hRu.to G3.im).to i3).append (rpl_cons (hR3.to i3) rpl_nil)
    · rw [cntB_append, hc2, List.take_add_one, ht, cntB_append]
      show _ + (cntT t' + 0) = _ + (cntT t + 0)
      omega
  · obtain ⟨hD2, G2, us, ts', hDn, hRu, hS2, hc2, hl2⟩ := hP
    rw [hl, List.take_length] at hc2
    refine ⟨Dn, us, rfl, .inl ⟨SqL.of hDn, fun p np => ?_⟩⟩
    exact q _ ts' _ (rp_tup upd_same (hRu.to (Imm.same (same_new np)))) hS2 hc2 (hD2.new np) (G2.new np)
theorem ok_unfit (T : Tops w K mg) : ∀ n : Nat, FnOk P w K mg base CX0 (2 * n + 5) T.fl_unfit T.dl_unfit ["_law_draw", "_law_plan", "_law_names"] (spUnBody n)
  | 0 => ok_un_body T 0 (ok_un_thing T 0 OG.fn_none)
  | n + 1 => ok_un_body T (n + 1) (ok_un_thing T (n + 1) (ok_unfit T n))
end
end K06

set_option Elab.async false
set_option linter.all false
set_option maxRecDepth 100000
set_option maxHeartbeats 4000000
namespace K06
open PySem PySem.Spec PyProof.Rows L2 OG
open C8 (pss_cut pe_gc)
open OGX

section
variable {P : Program} {w : World} {K : PySem.W.Frag} {mg : Str → Option Value} {base : Heap}
abbrev sN : Stmt := inClass (topS 6) 0
abbrev sT : Stmt := inClass (topS 7) 0
abbrev sM : Stmt := inClass (topS 17) 0
abbrev sF : Stmt := inClass (topS 3) 0
abbrev sR : Stmt := inClass (topS 1) 0
theorem scN : FnScope ["self", "name"] ["self", "name"] (defScope sN) := ⟨rfl, rfl, rfl, by decide +kernel, rfl, by decide +kernel, by decide +kernel⟩
theorem scT : FnScope ["self", "name"] ["self", "name"] (defScope sT) := ⟨rfl, rfl, rfl, by decide +kernel, rfl, by decide +kernel, by decide +kernel⟩
theorem scM : FnScope ["self"] ["self"] (defScope sM) := ⟨rfl, rfl, rfl, by decide +kernel, rfl, by decide +kernel, by decide +kernel⟩
theorem scF : FnScope ["self", "word", "why"] ["self", "word", "why"] (defScope sF) := ⟨rfl, rfl, rfl, by decide +kernel, rfl, by decide +kernel, by decide +kernel⟩
theorem scR : FnScope ["self", "word", "why"] ["self", "word", "why"] (defScope sR) := ⟨rfl, rfl, rfl, by decide +kernel, rfl, by decide +kernel, by decide +kernel⟩
/-- what is known of an exception class of the program -/
structure XC (K : PySem.W.Frag) (C CM CF : Addr) : Prop where
  o : OexC K C
  w : PySem.W.findIn K (.ref C) "word" = some none
  n : PySem.W.findIn K (.ref C) "name" = some none
  x : XfC K C
  e : ExcC K C
  kM : PySem.W.kitOne K (.ref C) (.ref CM) = some false
  kF : PySem.W.kitOne K (.ref C) (.ref CF) = some true
  kV : PySem.W.kitOne K (.ref C) (.type "ValueError") = some true
structure Exx (K : PySem.W.Frag) (mg : Str → Option Value) where
  CN : Addr
  gN : mg "NoName" = some (.ref CN)
  CT : Addr
  gT : mg "Twice" = some (.ref CT)
  CM : Addr
  gM : mg "Misplaced" = some (.ref CM)
  CF : Addr
  gF : mg "Unfit" = some (.ref CF)
  CR : Addr
  gR : mg "Refused" = some (.ref CR)
  CMi : Addr
  gMi : mg "Misread" = some (.ref CMi)
  xN : XC K CN CMi CF
  fN : Addr
  dN : FuncData
  FN : FunD K "__init__" "NoName.__init__" (defArgs sN) (defBody sN) (defScope sN) [] [] fN dN
  iN : PySem.W.findIn K (.ref CN) "__init__" = some (some (.ref fN))
  tN : PySem.W.typeIn K (.ref fN) = some (.type "function")
  xT : XC K CT CMi CF
  fT : Addr
  dT : FuncData
  FT : FunD K "__init__" "Twice.__init__" (defArgs sT) (defBody sT) (defScope sT) [] [] fT dT
  iT : PySem.W.findIn K (.ref CT) "__init__" = some (some (.ref fT))
  tT : PySem.W.typeIn K (.ref fT) = some (.type "function")
  xM : XC K CM CMi CF
  fM : Addr
  dM : FuncData
  FM : FunD K "__init__" "Misplaced.__init__" (defArgs sM) (defBody sM) (defScope sM) [] [] fM dM
  iM : PySem.W.findIn K (.ref CM) "__init__" = some (some (.ref fM))
  tM : PySem.W.typeIn K (.ref fM) = some (.type "function")
  fF : Addr
  dF : FuncData
  FF : FunD K "__init__" "Unfit.__init__" (defArgs sF) (defBody sF) (defScope sF) [.str "Unfit", .str ""] [] fF dF
  vF : PySem.W.findCls K (.ref CF) (.type "type") "__init__" = some (.val (.ref fF))
  cF : ClX.CRead K CF (.type "type")
  fR : Addr
  dR : FuncData
  FR : FunD K "__init__" "Refused.__init__" (defArgs sR) (defBody sR) (defScope sR) [.str "Refused", .str ""] [] fR dR
  vR : PySem.W.findCls K (.ref CR) (.type "type") "__init__" = some (.val (.ref fR))
  cR : ClX.CRead K CR (.type "type")
  mV : mg "ValueError" = none
  vV : PySem.W.findCls K (.type "ValueError") (.type "type") "__init__" = some (.val (.builtin "ValueError.__init__"))
  CBadText : Addr
  gBadText : mg "BadText" = some (.ref CBadText)
  xNBadText : PySem.W.exmOne K (.ref CN) (.ref CBadText) = some false
  xTBadText : PySem.W.exmOne K (.ref CT) (.ref CBadText) = some false
  xMBadText : PySem.W.exmOne K (.ref CM) (.ref CBadText) = some false
  CBadPage : Addr
  gBadPage : mg "BadPage" = some (.ref CBadPage)
  xNBadPage : PySem.W.exmOne K (.ref CN) (.ref CBadPage) = some false
  xTBadPage : PySem.W.exmOne K (.ref CT) (.ref CBadPage) = some false
  xMBadPage : PySem.W.exmOne K (.ref CM) (.ref CBadPage) = some false
  CStopped : Addr
  gStopped : mg "Stopped" = some (.ref CStopped)
  xNStopped : PySem.W.exmOne K (.ref CN) (.ref CStopped) = some false
  xTStopped : PySem.W.exmOne K (.ref CT) (.ref CStopped) = some false
  xMStopped : PySem.W.exmOne K (.ref CM) (.ref CStopped) = some false
  CNoPlan : Addr
  gNoPlan : mg "NoPlan" = some (.ref CNoPlan)
  xNNoPlan : PySem.W.exmOne K (.ref CN) (.ref CNoPlan) = some false
  xTNoPlan : PySem.W.exmOne K (.ref CT) (.ref CNoPlan) = some false
  xMNoPlan : PySem.W.exmOne K (.ref CM) (.ref CNoPlan) = some false
  CNoLabel : Addr
  gNoLabel : mg "NoLabel" = some (.ref CNoLabel)
  xNNoLabel : PySem.W.exmOne K (.ref CN) (.ref CNoLabel) = some false
  xTNoLabel : PySem.W.exmOne K (.ref CT) (.ref CNoLabel) = some false
  xMNoLabel : PySem.W.exmOne K (.ref CM) (.ref CNoLabel) = some false
  CTaken : Addr
  gTaken : mg "Taken" = some (.ref CTaken)
  xNTaken : PySem.W.exmOne K (.ref CN) (.ref CTaken) = some false
  xTTaken : PySem.W.exmOne K (.ref CT) (.ref CTaken) = some false
  xMTaken : PySem.W.exmOne K (.ref CM) (.ref CTaken) = some false
  CRing : Addr
  gRing : mg "Ring" = some (.ref CRing)
  xNRing : PySem.W.exmOne K (.ref CN) (.ref CRing) = some false
  xTRing : PySem.W.exmOne K (.ref CT) (.ref CRing) = some false
  xMRing : PySem.W.exmOne K (.ref CM) (.ref CRing) = some false
  CNotPlain : Addr
  gNotPlain : mg "NotPlain" = some (.ref CNotPlain)
  xNNotPlain : PySem.W.exmOne K (.ref CN) (.ref CNotPlain) = some false
  xTNotPlain : PySem.W.exmOne K (.ref CT) (.ref CNotPlain) = some false
  xMNotPlain : PySem.W.exmOne K (.ref CM) (.ref CNotPlain) = some false
  CTangled : Addr
  gTangled : mg "Tangled" = some (.ref CTangled)
  xNTangled : PySem.W.exmOne K (.ref CN) (.ref CTangled) = some false
  xTTangled : PySem.W.exmOne K (.ref CT) (.ref CTangled) = some false
  xMTangled : PySem.W.exmOne K (.ref CM) (.ref CTangled) = some false
  CBreaks : Addr
  gBreaks : mg "Breaks" = some (.ref CBreaks)
  xNBreaks : PySem.W.exmOne K (.ref CN) (.ref CBreaks) = some false
  xTBreaks : PySem.W.exmOne K (.ref CT) (.ref CBreaks) = some false
  xMBreaks : PySem.W.exmOne K (.ref CM) (.ref CBreaks) = some false
  CInUse : Addr
  gInUse : mg "InUse" = some (.ref CInUse)
  xNInUse : PySem.W.exmOne K (.ref CN) (.ref CInUse) = some false
  xTInUse : PySem.W.exmOne K (.ref CT) (.ref CInUse) = some false
  xMInUse : PySem.W.exmOne K (.ref CM) (.ref CInUse) = some false
  CUneven : Addr
  gUneven : mg "Uneven" = some (.ref CUneven)
  xNUneven : PySem.W.exmOne K (.ref CN) (.ref CUneven) = some false
  xTUneven : PySem.W.exmOne K (.ref CT) (.ref CUneven) = some false
  xMUneven : PySem.W.exmOne K (.ref CM) (.ref CUneven) = some false
  yNN : PySem.W.exmOne K (.ref CN) (.ref CN) = some true
  yNT : PySem.W.exmOne K (.ref CN) (.ref CT) = some false
  yTN : PySem.W.exmOne K (.ref CT) (.ref CN) = some false
  yTT : PySem.W.exmOne K (.ref CT) (.ref CT) = some true
  yMN : PySem.W.exmOne K (.ref CM) (.ref CN) = some false
  yMT : PySem.W.exmOne K (.ref CM) (.ref CT) = some false
  yMR : PySem.W.exmOne K (.ref CM) (.ref CR) = some true
def spRef (K : PySem.W.Frag) : Sp := fun vs H Q _ => ∃ (a C : Addr) (wd y : Str), vs = [.ref a, .str wd, .str y] ∧ wd.length ≤ 100 ∧ y.length ≤ 100 ∧ H a = some (exo a C none) ∧ OexC K C ∧ PySem.W.findIn K (.ref C) "word" = some none ∧
  ∀ dx, H dx = none → dx ≠ a → Q .non (upd (upd H dx (exd dx [("word", .str wd)])) a (exo a C (some dx)))
def spNm (K : PySem.W.Frag) (wd : Str) : Sp := fun vs H Q _ => ∃ (a C : Addr) (y : Str), vs = [.ref a, .str y] ∧ y.length ≤ 100 ∧ H a = some (exo a C none) ∧ OexC K C ∧ PySem.W.findIn K (.ref C) "word" = some none ∧ PySem.W.findIn K (.ref C) "name" = some none ∧
  ∀ dx, H dx = none → dx ≠ a → Q .non (upd (upd (upd H dx (exd dx [("word", .str wd)])) a (exo a C (some dx))) dx (exd dx [("name", .str y), ("word", .str wd)]))
def spMi (K : PySem.W.Frag) (wd : Str) : Sp := fun vs H Q _ => ∃ (a C : Addr), vs = [.ref a] ∧ H a = some (exo a C none) ∧ OexC K C ∧ PySem.W.findIn K (.ref C) "word" = some none ∧
  ∀ dx, H dx = none → dx ≠ a → Q .non (upd (upd H dx (exd dx [("word", .str wd)])) a (exo a C (some dx)))
theorem Exx.bR (X : Exx K mg) : Binds K X.dR ["self", "word", "why"] [] := by
  obtain ⟨ds, h1, h2⟩ := X.FR.binds1 (ps := ["self", "word", "why"]) 3 2 (by simp) rfl (fun T kV doc pm an cdv ct us its l1 l2 => by
    match us, l1, its, l2 with
    | [_, _, _], _, [_, _], _ => exact ⟨_, rfl, rfl⟩)
  cases h1
  exact h2
theorem Exx.bF (X : Exx K mg) : Binds K X.dF ["self", "word", "why"] [] := by
  obtain ⟨ds, h1, h2⟩ := X.FF.binds1 (ps := ["self", "word", "why"]) 3 2 (by simp) rfl (fun T kV doc pm an cdv ct us its l1 l2 => by
    match us, l1, its, l2 with
    | [_, _, _], _, [_, _], _ => exact ⟨_, rfl, rfl⟩)
  cases h1
  exact h2
theorem Exx.bF2 (X : Exx K mg) : ∃ ds, Vals [V.str ""] ds ∧ Binds K X.dF ["self", "word", "why"] ds :=
  X.FF.binds1 (ps := ["self", "word", "why"]) 2 1 (by simp) rfl (fun T kV doc pm an cdv ct us its l1 l2 => by
    match us, l1, its, l2 with
    | [_, _], _, [_, _], _ => exact ⟨_, rfl, rfl⟩)
theorem Exx.bN (X : Exx K mg) : Binds K X.dN ["self", "name"] [] := X.FN.bindsN fun kV doc pm an cdv ct us hl => match us, hl with | [_, _], _ => rfl
theorem Exx.bT (X : Exx K mg) : Binds K X.dT ["self", "name"] [] := X.FT.bindsN fun kV doc pm an cdv ct us hl => match us, hl with | [_, _], _ => rfl
theorem Exx.bM (X : Exx K mg) : Binds K X.dM ["self"] [] := X.FM.bindsN fun kV doc pm an cdv ct us hl => match us, hl with | [_], _ => rfl
theorem ok_R (T : Tops w K mg) (X : Exx K mg) : FnOk P w K mg base CX0 1 X.fR X.dR ["self", "word", "why"] (spRef K) := by
  refine X.FR.ok scR (fun vs H Q E h => ?_) (fun cdv A outer s H vs Q E hr h => ?_)
  · obtain ⟨a, C, wd, y, rfl, _⟩ := h
    rfl
  obtain ⟨a, C, wd, y, rfl, l1, l2, ha, hO, hW, q⟩ := h
  refine ⟨_, pss_cons (ps_expr (pe_veinit (by rfl) X.mV X.vV (pa_cons (pv 0) (pa_cons (pe_strip (pe_joined (.cons (pe_fmt (pv 1)) (.cons pe_str (.cons (pe_fmt (pv 2)) .nil))))) pa_nil)))) (pss_one (ps_ost (pv 0) (pv 1))), ?_⟩
  have l3 : (" " : Str).length = 1 := by decide +kernel
  have l0 := l_emp
  refine ⟨_, rfl, _, rfl, .inl ⟨wd, rfl, sz (by omega), _, rfl, szs (by rw [l_emp]; omega), _, rfl, szs (by rw [len_app, l_emp, l3]; omega), _, rfl, .inl ⟨y, rfl, sz (by omega), _, rfl, szs (by rw [len_app, len_app, l_emp, l3]; omega), ⟨_, rfl⟩, _, rfl, rfl, sz (by rw [len_app, len_app, len_app, l_emp, l3]; omega), ?_⟩⟩⟩
  refine ⟨a, C, _, rfl, (by show 1 ≤ 1000; decide), hO, ha, ?_⟩
  exact ⟨_, rfl, _, rfl, a, C, rfl, hO, hW, .inl ⟨ha, fun dx n ne => q dx n ne⟩⟩
theorem ok_F (T : Tops w K mg) (X : Exx K mg) : FnOk P w K mg base CX0 2 X.fF X.dF ["self", "word", "why"] (spRef K) := by
  have GR : FnOk P w K mg base CX0 1 X.fR X.dR ["self", "word", "why"] (spRef K) := ok_R T X
  refine X.FF.ok scF (fun vs H Q E h => ?_) (fun cdv A outer s H vs Q E hr h => ?_)
  · obtain ⟨a, C, wd, y, rfl, _⟩ := h
    rfl
  obtain ⟨a, C, wd, y, rfl, l1, l2, ha, hO, hW, q⟩ := h
  refine ⟨_, pss_one (ps_expr (pe_cfun GR (hr.mono (by omega)) (by rfl) X.gR X.cR X.vR X.FR.kp X.bR .nil pass0 (pa_cons (pv 0) (pa_cons (pv 1) (pa_cons (pv 2) pa_nil))))), ?_⟩
  exact ⟨_, rfl, _, rfl, _, rfl, a, C, wd, y, rfl, l1, l2, ha, hO, hW, q⟩
theorem ok_N (T : Tops w K mg) (X : Exx K mg) : FnOk P w K mg base CX0 3 X.fN X.dN ["self", "name"] (spNm K "NoName") := by
  have GF : FnOk P w K mg base CX0 2 X.fF X.dF ["self", "word", "why"] (spRef K) := ok_F T X
  refine X.FN.ok scN (fun vs H Q E h => ?_) (fun cdv A outer s H vs Q E hr h => ?_)
  · obtain ⟨a, C, y, rfl, _⟩ := h
    rfl
  obtain ⟨a, C, y, rfl, l2, ha, hO, hW, hn, q⟩ := h
  refine ⟨_, pss_cons (ps_expr (pe_cfun GF (hr.mono (by omega)) (by rfl) X.gF X.cF X.vF X.FF.kp X.bF .nil pass0 (pa_cons (pv 0) (pa_cons pe_str (pa_cons (pv 1) pa_nil))))) (pss_one (ps_ost (pv 0) (pv 1))), ?_⟩
  refine ⟨_, rfl, _, rfl, a, C, "NoName", y, rfl, by decide +kernel, l2, ha, hO, hW, fun dx n ne => ?_⟩
  refine ⟨_, rfl, _, rfl, a, C, rfl, hO, hn, .inr ⟨dx, _, upd_same, ?_, by decide, q dx n ne⟩⟩
  rw [upd_ne ne]
  exact upd_same
theorem ok_T (T : Tops w K mg) (X : Exx K mg) : FnOk P w K mg base CX0 3 X.fT X.dT ["self", "name"] (spNm K "Twice") := by
  have GF : FnOk P w K mg base CX0 2 X.fF X.dF ["self", "word", "why"] (spRef K) := ok_F T X
  refine X.FT.ok scT (fun vs H Q E h => ?_) (fun cdv A outer s H vs Q E hr h => ?_)
  · obtain ⟨a, C, y, rfl, _⟩ := h
    rfl
  obtain ⟨a, C, y, rfl, l2, ha, hO, hW, hn, q⟩ := h
  refine ⟨_, pss_cons (ps_expr (pe_cfun GF (hr.mono (by omega)) (by rfl) X.gF X.cF X.vF X.FF.kp X.bF .nil pass0 (pa_cons (pv 0) (pa_cons pe_str (pa_cons (pv 1) pa_nil))))) (pss_one (ps_ost (pv 0) (pv 1))), ?_⟩
  refine ⟨_, rfl, _, rfl, a, C, "Twice", y, rfl, by decide +kernel, l2, ha, hO, hW, fun dx n ne => ?_⟩
  refine ⟨_, rfl, _, rfl, a, C, rfl, hO, hn, .inr ⟨dx, _, upd_same, ?_, by decide, q dx n ne⟩⟩
  rw [upd_ne ne]
  exact upd_same
theorem ok_M (T : Tops w K mg) (X : Exx K mg) : FnOk P w K mg base CX0 3 X.fM X.dM ["self"] (spMi K "Misplaced") := by
  have GF : FnOk P w K mg base CX0 2 X.fF X.dF ["self", "word", "why"] (spRef K) := ok_F T X
  obtain ⟨ds, hds, hb⟩ := X.bF2
  refine X.FM.ok scM (fun vs H Q E h => ?_) (fun cdv A outer s H vs Q E hr h => ?_)
  · obtain ⟨a, C, rfl, _⟩ := h
    rfl
  obtain ⟨a, C, rfl, ha, hO, hW, q⟩ := h
  refine ⟨_, pss_one (ps_expr (pe_cfun GF (hr.mono (by omega)) (by rfl) X.gF X.cF X.vF X.FF.kp hb hds pass0 (pa_cons (pv 0) (pa_cons pe_str pa_nil)))), ?_⟩
  exact ⟨_, rfl, a, C, "Misplaced", "", rfl, by decide +kernel, by decide +kernel, ha, hO, hW, q⟩
/-- the class that a refusal is of -/
def Exx.cls (X : Exx K mg) : Rf → Addr
  | .nam _ => X.CN
  | .two _ => X.CT
  | .mis => X.CM
theorem Exx.xc (X : Exx K mg) (r : Rf) : XC K (X.cls r) X.CMi X.CF := by
  cases r with
  | nam x => exact X.xN
  | two x => exact X.xT
  | mis => exact X.xM
end
end K06

set_option Elab.async false
set_option linter.all false
set_option maxRecDepth 100000
set_option maxHeartbeats 4000000
namespace K06
open PySem PySem.Spec PyProof.Rows L2 OG
open C8 (pss_cut pe_gc)
open OGX

section
variable {P : Program} {w : World} {K : PySem.W.Frag} {mg : Str → Option Value} {base : Heap}
theorem end_nm {C : Addr} {wd x : Str} {H H3 : Hp} {E : XK} {a dx : Addr} (h : ∀ dd H', Same H H' → H dd = none → H' dd = some (.xd [("name", .str x), ("word", .str wd)]) → E (.ref C) (some dd) H') (s : Same H H3) (na : H3 a = none) (n : (upd H3 a (exo a C none)) dx = none) (ne : dx ≠ a) :
    V.non = V.non ∧ ∃ (d : Addr) (fs : List (Str × V)), (upd (upd (upd (upd H3 a (exo a C none)) dx (exd dx [("word", .str wd)])) a (exo a C (some dx))) dx (exd dx [("name", .str x), ("word", .str wd)])) a = some (exo a C (some d)) ∧
      (upd (upd (upd (upd H3 a (exo a C none)) dx (exd dx [("word", .str wd)])) a (exo a C (some dx))) dx (exd dx [("name", .str x), ("word", .str wd)])) d = some (exd d fs) ∧ H3 d = none ∧
      E (.ref C) (some d) (upd (del (upd (upd (upd (upd H3 a (exo a C none)) dx (exd dx [("word", .str wd)])) a (exo a C (some dx))) dx (exd dx [("name", .str x), ("word", .str wd)])) a) d (.xd fs)) := by
  have n3 : H3 dx = none := by rw [upd_ne ne] at n; exact n
  refine ⟨rfl, dx, _, by rw [upd_ne (Ne.symm ne)]; exact upd_same, upd_same, n3, h dx _ (fun y u hy => ?_) (s.free n3) upd_same⟩
  have h3 := s _ _ hy
  have na2 := ne_of_none h3 na
  have nd2 := ne_of_none h3 n3
  rw [upd_ne nd2, del_ne na2, upd_ne nd2, upd_ne na2, upd_ne nd2, upd_ne na2]
  exact h3
theorem end_mi {C : Addr} {wd : Str} {H H3 : Hp} {E : XK} {a dx : Addr} (h : ∀ dd H', Same H H' → H dd = none → H' dd = some (.xd [("word", .str wd)]) → E (.ref C) (some dd) H') (s : Same H H3) (na : H3 a = none) (n : (upd H3 a (exo a C none)) dx = none) (ne : dx ≠ a) :
    V.non = V.non ∧ ∃ (d : Addr) (fs : List (Str × V)), (upd (upd (upd H3 a (exo a C none)) dx (exd dx [("word", .str wd)])) a (exo a C (some dx))) a = some (exo a C (some d)) ∧
      (upd (upd (upd H3 a (exo a C none)) dx (exd dx [("word", .str wd)])) a (exo a C (some dx))) d = some (exd d fs) ∧ H3 d = none ∧
      E (.ref C) (some d) (upd (del (upd (upd (upd H3 a (exo a C none)) dx (exd dx [("word", .str wd)])) a (exo a C (some dx))) a) d (.xd fs)) := by
  have n3 : H3 dx = none := by rw [upd_ne ne] at n; exact n
  refine ⟨rfl, dx, _, upd_same, by rw [upd_ne ne]; exact upd_same, n3, h dx _ (fun y u hy => ?_) (s.free n3) upd_same⟩
  have h3 := s _ _ hy
  have na2 := ne_of_none h3 na
  have nd2 := ne_of_none h3 n3
  rw [upd_ne nd2, del_ne na2, upd_ne na2, upd_ne nd2, upd_ne na2]
  exact h3
theorem ok_look_end (T : Tops w K mg) (X : Exx K mg) : FnOk P w K mg base (L2.CX P w) 5 T.flook_end T.dlook_end ["end", "around"] (spLkEnd X.cls) := by
  have GN : FnOk P w K mg base CX0 3 X.fN X.dN ["self", "name"] (spNm K "NoName") := ok_N T X
  refine T.Flook_end.okX (k := 4) sclook_end (fun vs H Q E h => ?_) (fun cdv A outer s H vs Q E hr h => ?_)
  · obtain ⟨v, ar, e, sc, rfl, _⟩ := h
    rfl
  obtain ⟨v, ar, e, sc, rfl, hR, hE, har, q⟩ := h
  refine ⟨_, (pss_cons (ps_set (i := 2) sclook_end.nd rfl (Or.inl rfl) (pe_ix ix_tup (pv 0) pe_int (fun _ _ => rfl)))
 (pss_one (ps_if (PW.pt (pw_and (pt_cmpR op_notIn_seq (pv 2) (pe_tup (pa_cons pe_str (pa_cons pe_str pa_nil))) (by rfl)) (pw_and1 (pt_cmpR op_notIn_seq (pv 2) (pv 1) (by rfl)))))
  (pss_one (ps_raise rfl (takes_of rfl rfl rfl rfl) (pmk_oex X.xN.o X.iN X.tN GN (hr.mono (by omega)) X.bN .nil pass0 (by rfl) X.gN (pa_cons (pv 2) pa_nil))))
  pss_nil))), ?_⟩
  obtain ⟨a, v1, v2, rfl, ha, rfl, rfl⟩ := rp_t2 hR
  have le := en_len hE
  refine ⟨_, rfl, a, _, 0, _, rfl, rfl, SqT.of ha, rfl, ?_⟩
  refine ⟨_, rfl, (by show 2 ≤ sizeLine; decide), fun p np => ?_⟩
  have s0 : Same H (upd H p (.tup [.str "", .str "n"])) := same_new np
  refine ⟨p, _, rfl, .inr (SqT.of upd_same), rfl, rfl, _, rfl, ite2 (fun c => ?_) (fun c => ?_)⟩
  · have c1 : (!inV (.str e.1) ((["", "n"] : List Str).map V.str)) = true := c
    rw [inV_str] at c1
    have hn : e.1 ∉ (["", "n"] : List Str) := fun z => by rw [decide_eq_true z] at c1; cases c1
    refine ⟨_, rfl, _, rfl, ar, _, rfl, .inr (SqT.of (s0 _ _ har)), rfl, flat_strs _, _, rfl, ite2 (fun c2 => ?_) (fun c2 => ?_)⟩
    · have c3 : (!inV (.str e.1) (sc.map V.str)) = true := c2
      rw [inV_str] at c3
      have hs : e.1 ∉ sc := fun z => by rw [decide_eq_true z] at c3; cases c3
      have hl : lookE ("n" :: sc) e = some (.nam e.1) := if_pos ⟨fun z => hn (by rw [z]; exact List.mem_cons_self), fun z => (List.mem_cons.mp z).elim (fun z => hn (by rw [z]; decide +kernel)) hs⟩
      rw [hl] at q
      exact ⟨_, rfl, by show 1 ≤ 1000; decide, fun a' na => ⟨a', X.CN, e.1, rfl, by omega, upd_same, X.xN.o, X.xN.w, X.xN.n, fun dx n ne => end_nm q s0 na n ne⟩⟩
    · have c3 : (!inV (.str e.1) (sc.map V.str)) = false := Bool.eq_false_iff.mpr c2
      rw [inV_str] at c3
      have hs : e.1 ∈ sc := by
        by_cases z : e.1 ∈ sc
        · exact z
        · rw [decide_eq_false z] at c3; cases c3
      have hl : lookE ("n" :: sc) e = none := if_neg fun z => z.2 (List.mem_cons_of_mem _ hs)
      rw [hl] at q
      exact q _ s0
  · have c1 : (!inV (.str e.1) ((["", "n"] : List Str).map V.str)) = false := Bool.eq_false_iff.mpr c
    rw [inV_str] at c1
    have hn : e.1 ∈ (["", "n"] : List Str) := by
      by_cases z : e.1 ∈ (["", "n"] : List Str)
      · exact z
      · rw [decide_eq_false z] at c1; cases c1
    have hl : lookE ("n" :: sc) e = none := if_neg fun z => by
      rcases List.mem_cons.mp hn with h1 | h1
      · exact z.1 h1
      · exact z.2 (by rw [List.mem_singleton.mp h1]; exact List.mem_cons_self)
    rw [hl] at q
    exact q _ s0
theorem ok_look_again (T : Tops w K mg) (X : Exx K mg) : FnOk P w K mg base (L2.CX P w) 5 T.flook_again T.dlook_again ["thing", "agains"] (spLkAgain X.cls) := by
  have GM : FnOk P w K mg base CX0 3 X.fM X.dM ["self"] (spMi K "Misplaced") := ok_M T X
  refine T.Flook_again.okX (k := 4) sclook_again (fun vs H Q E h => ?_) (fun cdv A outer s H vs Q E hr h => ?_)
  · obtain ⟨v, k, w, g, rfl, _⟩ := h
    rfl
  obtain ⟨v, k, w, g, rfl, hR, q⟩ := h
  refine ⟨_, (pss_cons (ps_asg (pe_slice sl_tupA (pv 0) (po_some pe_int) po_none) (pg_tup rfl (pgs_cons (pg_name (i := 2) sclook_again.nd rfl (Or.inl rfl)) (pgs_cons (pg_name (i := 3) sclook_again.nd rfl (Or.inl rfl)) pgs_nil))))
 (pss_one (ps_if (PW.pt (pw_or (pt_cmpR op_gt (pv 1) pe_int (nomark _)) (pw_or1 (PW.pt (pw_and (pt_cmpR op_eq (pv 3) pe_str (nomark _)) (pw_and1 (pt_cmpR op_gt (pv 2) pe_int (nomark _))))))))
  (pss_one (ps_raise rfl (takes_of rfl rfl rfl rfl) (pmk_oex0 X.xM.o X.iM X.tM GM (hr.mono (by omega)) X.bM pass0 (by rfl) X.gM)))
  pss_nil))), ?_⟩
  obtain ⟨a, v1, v2, v3, rfl, ha, rfl, rfl, rfl⟩ := rp_t3 hR
  refine ⟨_, rfl, 1, rfl, a, _, rfl, SqT.of ha, (fun z => absurd z.1 (show ¬ HT.sIx 3 0 (some 1) = 0 by decide)), fun _ p np => ?_⟩
  have s0 : Same H (upd H p (.tup [.int k, .str w])) := same_new np
  refine ⟨p, _, rfl, SqT.of upd_same, rfl, _, _, rfl, _, _, rfl, rfl, ?_⟩
  have bad : (1 < g ∨ badA k w = true) → ∀ a', (upd H p (.tup [.int k, .str w])) a' = none → spMi K "Misplaced" [.ref a'] (upd (upd H p (.tup [.int k, .str w])) a' (exo a' X.CM none))
      (fun v G => v = .non ∧ ∃ (dd : Addr) (fl : List (Str × V)), G a' = some (exo a' X.CM (some dd)) ∧ G dd = some (exd dd fl) ∧ (upd H p (.tup [.int k, .str w])) dd = none ∧ E (.ref X.CM) (some dd) (upd (del G a') dd (.xd fl))) (fun _ _ _ => False) := fun z a' na => by
    rw [if_pos z] at q
    exact ⟨a', X.CM, rfl, upd_same, X.xM.o, X.xM.w, fun dx n ne => end_mi q s0 na n ne⟩
  have good : ¬ (1 < g ∨ badA k w = true) → Q .non (upd H p (.tup [.int k, .str w])) := fun z => by
    rw [if_neg z] at q
    exact q _ s0
  refine ⟨_, rfl, (g : Int), 1, rfl, rfl, _, rfl, ite2 (fun c1 => ?_) (fun c1 => ?_)⟩
  · have c2 : (1 : Int) < (g : Int) := of_decide_eq_true c1
    exact iteT (bad (.inl (by omega)))
  have c2 : ¬ (1 : Int) < (g : Int) := fun z => c1 (decide_eq_true z)
  refine ⟨_, rfl, rfl, _, rfl, ite2 (fun c3 => ?_) (fun c3 => ?_)⟩
  · have e3 : w = "less" := V.str.inj (of_decide_eq_true c3)
    refine ⟨_, rfl, k, 1, rfl, rfl, _, rfl, ite2 (fun c4 => ?_) (fun c4 => ?_)⟩
    · have e4 : (1 : Int) < k := of_decide_eq_true c4
      exact bad (.inr (by unfold badA; rw [decide_eq_true e3, decide_eq_true e4]; rfl))
    · have e4 : ¬ (1 : Int) < k := fun z => c4 (decide_eq_true z)
      exact good (fun z => z.elim (by omega) (fun z => by unfold badA at z; rw [decide_eq_false e4, Bool.and_false] at z; cases z))
  · have e3 : ¬ w = "less" := fun z => c3 (decide_eq_true (by rw [z]))
    exact good (fun z => z.elim (by omega) (fun z => by unfold badA at z; rw [decide_eq_false e3, Bool.false_and] at z; cases z))

theorem ok_look_step (T : Tops w K mg) (X : Exx K mg) (n : Nat) : FnOk P w K mg base (L2.CX P w) (3 * n + 6) T.flook_step T.dlook_step ["thing", "around"] (spLkThing X.cls (fun t => kindT t = "step") (n)) := by
  refine T.Flook_step.okX (k := 3 * n + 5) sclook_step (fun vs H Q E h => ?_) (fun cdv A outer s H vs Q E hr h => ?_)
  · obtain ⟨v, ar, t, sc, rfl, _⟩ := h
    rfl
  obtain ⟨v, ar, t, sc, rfl, hk, hR, hT, har, hn, q⟩ := h
  obtain ⟨k, rfl⟩ := kind_step hk
  refine ⟨_, (pss_one ps_pass), ?_⟩
  exact q H (Same.refl H)
theorem ok_refuse_again (T : Tops w K mg) (X : Exx K mg) (n : Nat) : FnOk P w K mg base (L2.CX P w) (3 * n + 6) T.frefuse_again T.drefuse_again ["thing", "around"] (spLkThing X.cls (fun t => kindT t = "again") (n)) := by
  have GM : FnOk P w K mg base CX0 3 X.fM X.dM ["self"] (spMi K "Misplaced") := ok_M T X
  refine T.Frefuse_again.okX (k := 3 * n + 5) screfuse_again (fun vs H Q E h => ?_) (fun cdv A outer s H vs Q E hr h => ?_)
  · obtain ⟨v, ar, t, sc, rfl, _⟩ := h
    rfl
  obtain ⟨v, ar, t, sc, rfl, hk, hR, hT, har, hn, q⟩ := h
  obtain ⟨k, w, rfl⟩ := kind_again hk
  refine ⟨_, (pss_one (ps_raise rfl (takes_of rfl rfl rfl rfl) (pmk_oex0 X.xM.o X.iM X.tM GM (hr.mono (by omega)) X.bM pass0 (by rfl) X.gM))), ?_⟩
  exact fun a' na => ⟨a', X.CM, rfl, upd_same, X.xM.o, X.xM.w, fun dx n ne => end_mi q (Same.refl H) na n ne⟩
theorem ok_look_call (T : Tops w K mg) (X : Exx K mg) (n : Nat) : FnOk P w K mg base (L2.CX P w) (3 * n + 6) T.flook_call T.dlook_call ["thing", "around"] (spLkThing X.cls (fun t => kindT t = "call") (n)) := by
  have Glook_end : FnOk P w K mg base (L2.CX P w) 5 T.flook_end T.dlook_end ["end", "around"] (spLkEnd X.cls) := ok_look_end T X
  refine T.Flook_call.okX (k := 3 * n + 5) sclook_call (fun vs H Q E h => ?_) (fun cdv A outer s H vs Q E hr h => ?_)
  · obtain ⟨v, ar, t, sc, rfl, _⟩ := h
    rfl
  obtain ⟨v, ar, t, sc, rfl, hk, hR, hT, har, hn, q⟩ := h
  obtain ⟨x, e, rfl⟩ := kind_call hk
  refine ⟨_, (pss_one (ps_expr (pe_call Glook_end (hr.mono (by omega)) (by rfl) T.glook_end T.Flook_end.kp T.blook_end .nil (passes_call (takes_of rfl rfl rfl rfl) (fun _ _ _ _ h => h)) (pa_cons (pe_ix ix_tup (pv 0) pe_int (fun _ _ => rfl)) (pa_cons (pv 1) pa_nil))))), ?_⟩
  obtain ⟨a, v1, v2, v3, rfl, ha, rfl, rfl, h3⟩ := rp_t3 hR
  exact ⟨_, rfl, a, _, 2, _, rfl, rfl, SqT.of ha, rfl, _, rfl, v3, ar, e, sc, rfl, h3, hT, har, q⟩
theorem ok_look_double (T : Tops w K mg) (X : Exx K mg) (n : Nat) (Glook_body : FnOk P w K mg base (L2.CX P w) (3 * n + 8) T.flook_body T.dlook_body ["body", "around"] (spLkBody X.cls n)) : FnOk P w K mg base (L2.CX P w) (3 * n + 9) T.flook_double T.dlook_double ["thing", "around"] (spLkThing X.cls (fun t => kindT t = "double") (n + 1)) := by
  refine T.Flook_double.okX (k := 3 * n + 8) sclook_double (fun vs H Q E h => ?_) (fun cdv A outer s H vs Q E hr h => ?_)
  · obtain ⟨v, ar, t, sc, rfl, _⟩ := h
    rfl
  obtain ⟨v, ar, t, sc, rfl, hk, hR, hT, har, hn, q⟩ := h
  obtain ⟨b, rfl⟩ := kind_double hk
  refine ⟨_, (pss_one (ps_expr (pe_call Glook_body (hr.mono (by omega)) (by rfl) T.glook_body T.Flook_body.kp T.blook_body .nil (passes_call (takes_of rfl rfl rfl rfl) (fun _ _ _ _ h => h)) (pa_cons (pe_ix ix_tup (pv 0) pe_int (fun _ _ => rfl)) (pa_cons (pv 1) pa_nil))))), ?_⟩
  obtain ⟨a, v1, v2, rfl, ha, rfl, h2⟩ := rp_t2 hR
  obtain ⟨m, em, hB⟩ := hT
  have em2 : m = n := by omega
  subst em2
  exact ⟨_, rfl, a, _, 1, _, rfl, rfl, SqT.of ha, rfl, _, rfl, v2, ar, b, sc, rfl, h2, hB, har, by omega, q⟩
theorem ok_look_if (T : Tops w K mg) (X : Exx K mg) (n : Nat) (Glook_body : FnOk P w K mg base (L2.CX P w) (3 * n + 8) T.flook_body T.dlook_body ["body", "around"] (spLkBody X.cls n)) : FnOk P w K mg base (L2.CX P w) (3 * n + 9) T.flook_if T.dlook_if ["thing", "around"] (spLkThing X.cls (fun t => kindT t = "if") (n + 1)) := by
  have Glook_end : FnOk P w K mg base (L2.CX P w) 5 T.flook_end T.dlook_end ["end", "around"] (spLkEnd X.cls) := ok_look_end T X
  refine T.Flook_if.okX (k := 3 * n + 8) sclook_if (fun vs H Q E h => ?_) (fun cdv A outer s H vs Q E hr h => ?_)
  · obtain ⟨v, ar, t, sc, rfl, _⟩ := h
    rfl
  obtain ⟨v, ar, t, sc, rfl, hk, hR, hT, har, hn, q⟩ := h
  obtain ⟨e, f, b, c, rfl⟩ := kind_if hk
  refine ⟨_, (pss_cons (ps_asg (pe_slice sl_tupA (pv 0) (po_some pe_int) po_none) (pg_tup rfl (pgs_cons (pg_name (i := 2) sclook_if.nd rfl (Or.inl rfl)) (pgs_cons (pg_name (i := 3) sclook_if.nd rfl (Or.inl rfl)) (pgs_cons (pg_name (i := 4) sclook_if.nd rfl (Or.inl rfl)) (pgs_cons (pg_name (i := 5) sclook_if.nd rfl (Or.inl rfl)) pgs_nil))))))
 (pss_cons (ps_expr (pe_call Glook_end (hr.mono (by omega)) (by rfl) T.glook_end T.Flook_end.kp T.blook_end .nil (passes_call (takes_of rfl rfl rfl rfl) (fun _ _ _ _ h => h)) (pa_cons (pv 2) (pa_cons (pv 1) pa_nil))))
 (pss_cons (ps_expr (pe_call Glook_end (hr.mono (by omega)) (by rfl) T.glook_end T.Flook_end.kp T.blook_end .nil (passes_call (takes_of rfl rfl rfl rfl) (fun _ _ _ _ h => h)) (pa_cons (pv 3) (pa_cons (pv 1) pa_nil))))
 (pss_cons (ps_expr (pe_call Glook_body (hr.mono (by omega)) (by rfl) T.glook_body T.Flook_body.kp T.blook_body .nil (passes_call (takes_of rfl rfl rfl rfl) (fun _ _ _ _ h => h)) (pa_cons (pv 4) (pa_cons (pv 1) pa_nil))))
 (pss_one (ps_expr (pe_call Glook_body (hr.mono (by omega)) (by rfl) T.glook_body T.Flook_body.kp T.blook_body .nil (passes_call (takes_of rfl rfl rfl rfl) (fun _ _ _ _ h => h)) (pa_cons (pv 5) (pa_cons (pv 1) pa_nil))))))))), ?_⟩
  obtain ⟨a, v1, v2, v3, v4, v5, rfl, ha, rfl, h2, h3, h4, h5⟩ := rp_t5 hR
  obtain ⟨he, hf, m, em, hB, hC⟩ := hT
  have em2 : m = n := by omega
  subst em2
  refine ⟨_, rfl, 1, rfl, a, _, rfl, SqT.of ha, (fun z => absurd z.1 (show ¬ HT.sIx 5 0 (some 1) = 0 by decide)), fun _ p np => ?_⟩
  have s0 : Same H (upd H p (.tup [v2, v3, v4, v5])) := same_new np
  refine ⟨p, _, rfl, SqT.of upd_same, rfl, _, _, rfl, _, _, rfl, _, _, rfl, _, _, rfl, rfl, ?_⟩
  have q0 : Out X.cls ((lookE ("n" :: sc) e).or ((lookE ("n" :: sc) f).or ((lookB ("n" :: sc) b).or (lookB ("n" :: sc) c)))) (upd H p (.tup [v2, v3, v4, v5])) Q E := Out.to q s0
  refine ⟨_, rfl, _, rfl, v2, ar, e, sc, rfl, h2.to (Imm.same s0), he, s0 _ _ har, Out.first q0 fun _ H1 s1 q1 => ?_⟩
  have s01 := s0.trans s1
  refine ⟨_, rfl, _, rfl, v3, ar, f, sc, rfl, h3.to (Imm.same s01), hf, s01 _ _ har, Out.first q1 fun _ H2 s2 q2 => ?_⟩
  have s02 := s01.trans s2
  refine ⟨_, rfl, _, rfl, v4, ar, b, sc, rfl, h4.to (Imm.same s02), hB, s02 _ _ har, by omega, Out.first q2 fun _ H3 s3 q3 => ?_⟩
  have s03 := s02.trans s3
  exact ⟨_, rfl, _, rfl, v5, ar, c, sc, rfl, h5.to (Imm.same s03), hC, s03 _ _ har, by omega, q3⟩
theorem ok_look_for (T : Tops w K mg) (X : Exx K mg) (n : Nat) (Glook_body : FnOk P w K mg base (L2.CX P w) (3 * n + 8) T.flook_body T.dlook_body ["body", "around"] (spLkBody X.cls n)) : FnOk P w K mg base (L2.CX P w) (3 * n + 9) T.flook_for T.dlook_for ["thing", "around"] (spLkThing X.cls (fun t => kindT t = "for") (n + 1)) := by
  have Glook_end : FnOk P w K mg base (L2.CX P w) 5 T.flook_end T.dlook_end ["end", "around"] (spLkEnd X.cls) := ok_look_end T X
  have GT : FnOk P w K mg base CX0 3 X.fT X.dT ["self", "name"] (spNm K "Twice") := ok_T T X
  refine T.Flook_for.okX (k := 3 * n + 8) sclook_for (fun vs H Q E h => ?_) (fun cdv A outer s H vs Q E hr h => ?_)
  · obtain ⟨v, ar, t, sc, rfl, _⟩ := h
    rfl
  obtain ⟨v, ar, t, sc, rfl, hk, hR, hT, har, hn, q⟩ := h
  obtain ⟨x, e, f, b, rfl⟩ := kind_for hk
  refine ⟨_, (pss_cons (ps_asg (pe_slice sl_tupA (pv 0) (po_some pe_int) po_none) (pg_tup rfl (pgs_cons (pg_name (i := 2) sclook_for.nd rfl (Or.inl rfl)) (pgs_cons (pg_name (i := 3) sclook_for.nd rfl (Or.inl rfl)) (pgs_cons (pg_name (i := 4) sclook_for.nd rfl (Or.inl rfl)) (pgs_cons (pg_name (i := 5) sclook_for.nd rfl (Or.inl rfl)) pgs_nil))))))
 (pss_cons (ps_if (pt_cmpR op_in_seq (pv 2) (pv 1) (by rfl))
  (pss_one (ps_raise rfl (takes_of rfl rfl rfl rfl) (pmk_oex X.xT.o X.iT X.tT GT (hr.mono (by omega)) X.bT .nil pass0 (by rfl) X.gT (pa_cons (pv 2) pa_nil))))
  pss_nil)
 (pss_cons (ps_expr (pe_call Glook_end (hr.mono (by omega)) (by rfl) T.glook_end T.Flook_end.kp T.blook_end .nil (passes_call (takes_of rfl rfl rfl rfl) (fun _ _ _ _ h => h)) (pa_cons (pv 3) (pa_cons (pv 1) pa_nil))))
 (pss_cons (ps_expr (pe_call Glook_end (hr.mono (by omega)) (by rfl) T.glook_end T.Flook_end.kp T.blook_end .nil (passes_call (takes_of rfl rfl rfl rfl) (fun _ _ _ _ h => h)) (pa_cons (pv 4) (pa_cons (pv 1) pa_nil))))
 (pss_one (ps_expr (pe_call Glook_body (hr.mono (by omega)) (by rfl) T.glook_body T.Flook_body.kp T.blook_body .nil (passes_call (takes_of rfl rfl rfl rfl) (fun _ _ _ _ h => h)) (pa_cons (pv 5) (pa_cons (pe_tup (StX.pa_star (pv 1) (pa_cons (pv 2) pa_nil))) pa_nil))))))))), ?_⟩
  obtain ⟨a, v1, v2, v3, v4, v5, rfl, ha, rfl, rfl, h3, h4, h5⟩ := rp_t5 hR
  obtain ⟨hx, he, hf, m, em, hB⟩ := hT
  have em2 : m = n := by omega
  subst em2
  have lx := name_len hx
  refine ⟨_, rfl, 1, rfl, a, _, rfl, SqT.of ha, (fun z => absurd z.1 (show ¬ HT.sIx 5 0 (some 1) = 0 by decide)), fun _ p np => ?_⟩
  have s0 : Same H (upd H p (.tup [.str x, v3, v4, v5])) := same_new np
  refine ⟨p, _, rfl, SqT.of upd_same, rfl, _, _, rfl, _, _, rfl, _, _, rfl, _, _, rfl, rfl, ?_⟩
  have q0 : Out X.cls ((if x ∈ (("n" :: sc) : List Str) then some (Rf.two x) else none).or ((lookE ("n" :: sc) e).or ((lookE ("n" :: sc) f).or (lookB ((("n" :: sc) : List Str) ++ [x]) b)))) (upd H p (.tup [.str x, v3, v4, v5])) Q E := Out.to q s0
  have xn := name_ne_n hx
  refine ⟨_, rfl, _, rfl, ar, _, rfl, .inr (SqT.of (s0 _ _ har)), rfl, flat_strs _, _, rfl, ite2 (fun c => ?_) (fun c => ?_)⟩
  · have c1 : inV (.str x) (sc.map V.str) = true := c
    rw [inV_str] at c1
    have hs : x ∈ sc := of_decide_eq_true c1
    rw [if_pos (List.mem_cons_of_mem _ hs)] at q0
    exact ⟨_, rfl, by show 1 ≤ 1000; decide, fun a' na => ⟨a', X.CT, x, rfl, by omega, upd_same, X.xT.o, X.xT.w, X.xT.n, fun dx n ne => end_nm q0 (Same.refl _) na n ne⟩⟩
  have c1 : inV (.str x) (sc.map V.str) = false := Bool.eq_false_iff.mpr c
  rw [inV_str] at c1
  have hs : x ∉ sc := of_decide_eq_false c1
  rw [if_neg (fun z => (List.mem_cons.mp z).elim xn hs), Option.none_or] at q0
  refine ⟨_, rfl, _, rfl, v3, ar, e, sc, rfl, h3.to (Imm.same s0), he, s0 _ _ har, Out.first q0 fun _ H1 s1 q1 => ?_⟩
  have s01 := s0.trans s1
  refine ⟨_, rfl, _, rfl, v4, ar, f, sc, rfl, h4.to (Imm.same s01), hf, s01 _ _ har, Out.first q1 fun _ H2 s2 q2 => ?_⟩
  have s02 := s01.trans s2
  refine ⟨_, rfl, _, rfl, ar, _, rfl, .inl (SqT.of (s02 _ _ har)), _, rfl, (by rw [List.length_append, List.length_map]; show sc.length + 1 ≤ sizeLine; exact sz (by omega)), fun p2 np2 => ?_⟩
  have s3 := same_new (o := .tup (sc.map V.str ++ [.str x])) np2
  refine ⟨v5, p2, b, sc ++ [x], rfl, h5.to (Imm.same (s02.trans s3)), hB, by rw [upd_same, List.map_append]; rfl, by rw [List.length_append]; show sc.length + 1 + _ ≤ 30; omega, Out.to q2 s3⟩
theorem ok_look_thing0 (T : Tops w K mg) (X : Exx K mg) : FnOk P w K mg base (L2.CX P w) (3 * 0 + 7) T.flook_thing T.dlook_thing ["thing", "around"] (spLkThing X.cls (fun _ => True) 0) := by
  refine T.Flook_thing.okX (k := 3 * 0 + 6) sclook_thing (fun vs H Q E h => ?_) (fun cdv A outer s H vs Q E hr h => ?_)
  · obtain ⟨v, ar, t, sc, rfl, _⟩ := h
    rfl
  obtain ⟨v, ar, t, sc, rfl, hk, hR, hT, har, hn, q⟩ := h
  cases t with
  | step k =>
    have G := ok_look_step (P := P) (w := w) (base := base) T X 0
    refine ⟨_, (pss_cons (ps_set (i := 2) sclook_thing.nd rfl (Or.inl rfl) (pe_ix ix_kdict (pe_gc (by rfl) T.cLOOKS) (pe_ix ix_tup (pv 0) pe_int (fun _ _ => rfl)) (fun _ _ => rfl))) (pss_one (ps_expr (pe_callL (i := 2) G (hr.mono (by omega)) rfl (Or.inl rfl) T.Flook_step.kp T.blook_step .nil (passes_call (takes_of rfl rfl rfl rfl) (fun _ _ _ _ h => h)) (pa_cons (pv 0) (pa_cons (pv 1) pa_nil)))))), ?_⟩
    obtain ⟨a, v1, v2, rfl, ha, rfl, _⟩ := rp_t2 hR
    exact ⟨_, rfl, a, _, 0, _, rfl, rfl, SqT.of ha, rfl, T.aLOOKS, _, _, rfl, rfl, T.kLOOKS_step, rfl, _, rfl, _, rfl, _, ar, _, sc, rfl, rfl, hR, hT, har, hn, q⟩
  | again k x =>
    have G := ok_refuse_again (P := P) (w := w) (base := base) T X 0
    refine ⟨_, (pss_cons (ps_set (i := 2) sclook_thing.nd rfl (Or.inl rfl) (pe_ix ix_kdict (pe_gc (by rfl) T.cLOOKS) (pe_ix ix_tup (pv 0) pe_int (fun _ _ => rfl)) (fun _ _ => rfl))) (pss_one (ps_expr (pe_callL (i := 2) G (hr.mono (by omega)) rfl (Or.inl rfl) T.Frefuse_again.kp T.brefuse_again .nil (passes_call (takes_of rfl rfl rfl rfl) (fun _ _ _ _ h => h)) (pa_cons (pv 0) (pa_cons (pv 1) pa_nil)))))), ?_⟩
    obtain ⟨a, v1, v2, v3, rfl, ha, rfl, _⟩ := rp_t3 hR
    exact ⟨_, rfl, a, _, 0, _, rfl, rfl, SqT.of ha, rfl, T.aLOOKS, _, _, rfl, rfl, T.kLOOKS_again, rfl, _, rfl, _, rfl, _, ar, _, sc, rfl, rfl, hR, hT, har, hn, q⟩
  | call x e =>
    have G := ok_look_call (P := P) (w := w) (base := base) T X 0
    refine ⟨_, (pss_cons (ps_set (i := 2) sclook_thing.nd rfl (Or.inl rfl) (pe_ix ix_kdict (pe_gc (by rfl) T.cLOOKS) (pe_ix ix_tup (pv 0) pe_int (fun _ _ => rfl)) (fun _ _ => rfl))) (pss_one (ps_expr (pe_callL (i := 2) G (hr.mono (by omega)) rfl (Or.inl rfl) T.Flook_call.kp T.blook_call .nil (passes_call (takes_of rfl rfl rfl rfl) (fun _ _ _ _ h => h)) (pa_cons (pv 0) (pa_cons (pv 1) pa_nil)))))), ?_⟩
    obtain ⟨a, v1, v2, v3, rfl, ha, rfl, _⟩ := rp_t3 hR
    exact ⟨_, rfl, a, _, 0, _, rfl, rfl, SqT.of ha, rfl, T.aLOOKS, _, _, rfl, rfl, T.kLOOKS_call, rfl, _, rfl, _, rfl, _, ar, _, sc, rfl, rfl, hR, hT, har, hn, q⟩
  | loop x e f b => obtain ⟨_, _, _, m, em, _⟩ := hT; cases em
  | test e f b c => obtain ⟨_, _, m, em, _⟩ := hT; cases em
  | twice b => obtain ⟨m, em, _⟩ := hT; cases em
theorem ok_look_thing (T : Tops w K mg) (X : Exx K mg) (n : Nat) (Glook_body : FnOk P w K mg base (L2.CX P w) (3 * n + 8) T.flook_body T.dlook_body ["body", "around"] (spLkBody X.cls n)) : FnOk P w K mg base (L2.CX P w) (3 * (n + 1) + 7) T.flook_thing T.dlook_thing ["thing", "around"] (spLkThing X.cls (fun _ => True) (n + 1)) := by
  refine T.Flook_thing.okX (k := 3 * (n + 1) + 6) sclook_thing (fun vs H Q E h => ?_) (fun cdv A outer s H vs Q E hr h => ?_)
  · obtain ⟨v, ar, t, sc, rfl, _⟩ := h
    rfl
  obtain ⟨v, ar, t, sc, rfl, hk, hR, hT, har, hn, q⟩ := h
  cases t with
  | step k =>
    have G := ok_look_step (P := P) (w := w) (base := base) T X (n + 1)
    refine ⟨_, (pss_cons (ps_set (i := 2) sclook_thing.nd rfl (Or.inl rfl) (pe_ix ix_kdict (pe_gc (by rfl) T.cLOOKS) (pe_ix ix_tup (pv 0) pe_int (fun _ _ => rfl)) (fun _ _ => rfl))) (pss_one (ps_expr (pe_callL (i := 2) G (hr.mono (by omega)) rfl (Or.inl rfl) T.Flook_step.kp T.blook_step .nil (passes_call (takes_of rfl rfl rfl rfl) (fun _ _ _ _ h => h)) (pa_cons (pv 0) (pa_cons (pv 1) pa_nil)))))), ?_⟩
    obtain ⟨a, v1, v2, rfl, ha, rfl, _⟩ := rp_t2 hR
    exact ⟨_, rfl, a, _, 0, _, rfl, rfl, SqT.of ha, rfl, T.aLOOKS, _, _, rfl, rfl, T.kLOOKS_step, rfl, _, rfl, _, rfl, _, ar, _, sc, rfl, rfl, hR, hT, har, hn, q⟩
  | again k x =>
    have G := ok_refuse_again (P := P) (w := w) (base := base) T X (n + 1)
    refine ⟨_, (pss_cons (ps_set (i := 2) sclook_thing.nd rfl (Or.inl rfl) (pe_ix ix_kdict (pe_gc (by rfl) T.cLOOKS) (pe_ix ix_tup (pv 0) pe_int (fun _ _ => rfl)) (fun _ _ => rfl))) (pss_one (ps_expr (pe_callL (i := 2) G (hr.mono (by omega)) rfl (Or.inl rfl) T.Frefuse_again.kp T.brefuse_again .nil (passes_call (takes_of rfl rfl rfl rfl) (fun _ _ _ _ h => h)) (pa_cons (pv 0) (pa_cons (pv 1) pa_nil)))))), ?_⟩
    obtain ⟨a, v1, v2, v3, rfl, ha, rfl, _⟩ := rp_t3 hR
    exact ⟨_, rfl, a, _, 0, _, rfl, rfl, SqT.of ha, rfl, T.aLOOKS, _, _, rfl, rfl, T.kLOOKS_again, rfl, _, rfl, _, rfl, _, ar, _, sc, rfl, rfl, hR, hT, har, hn, q⟩
  | call x e =>
    have G := ok_look_call (P := P) (w := w) (base := base) T X (n + 1)
    refine ⟨_, (pss_cons (ps_set (i := 2) sclook_thing.nd rfl (Or.inl rfl) (pe_ix ix_kdict (pe_gc (by rfl) T.cLOOKS) (pe_ix ix_tup (pv 0) pe_int (fun _ _ => rfl)) (fun _ _ => rfl))) (pss_one (ps_expr (pe_callL (i := 2) G (hr.mono (by omega)) rfl (Or.inl rfl) T.Flook_call.kp T.blook_call .nil (passes_call (takes_of rfl rfl rfl rfl) (fun _ _ _ _ h => h)) (pa_cons (pv 0) (pa_cons (pv 1) pa_nil)))))), ?_⟩
    obtain ⟨a, v1, v2, v3, rfl, ha, rfl, _⟩ := rp_t3 hR
    exact ⟨_, rfl, a, _, 0, _, rfl, rfl, SqT.of ha, rfl, T.aLOOKS, _, _, rfl, rfl, T.kLOOKS_call, rfl, _, rfl, _, rfl, _, ar, _, sc, rfl, rfl, hR, hT, har, hn, q⟩
  | loop x e f b =>
    have G := ok_look_for T X n Glook_body
    refine ⟨_, (pss_cons (ps_set (i := 2) sclook_thing.nd rfl (Or.inl rfl) (pe_ix ix_kdict (pe_gc (by rfl) T.cLOOKS) (pe_ix ix_tup (pv 0) pe_int (fun _ _ => rfl)) (fun _ _ => rfl))) (pss_one (ps_expr (pe_callL (i := 2) G (hr.mono (by omega)) rfl (Or.inl rfl) T.Flook_for.kp T.blook_for .nil (passes_call (takes_of rfl rfl rfl rfl) (fun _ _ _ _ h => h)) (pa_cons (pv 0) (pa_cons (pv 1) pa_nil)))))), ?_⟩
    obtain ⟨a, v1, v2, v3, v4, v5, rfl, ha, rfl, _⟩ := rp_t5 hR
    exact ⟨_, rfl, a, _, 0, _, rfl, rfl, SqT.of ha, rfl, T.aLOOKS, _, _, rfl, rfl, T.kLOOKS_for, rfl, _, rfl, _, rfl, _, ar, _, sc, rfl, rfl, hR, hT, har, hn, q⟩
  | test e f b c =>
    have G := ok_look_if T X n Glook_body
    refine ⟨_, (pss_cons (ps_set (i := 2) sclook_thing.nd rfl (Or.inl rfl) (pe_ix ix_kdict (pe_gc (by rfl) T.cLOOKS) (pe_ix ix_tup (pv 0) pe_int (fun _ _ => rfl)) (fun _ _ => rfl))) (pss_one (ps_expr (pe_callL (i := 2) G (hr.mono (by omega)) rfl (Or.inl rfl) T.Flook_if.kp T.blook_if .nil (passes_call (takes_of rfl rfl rfl rfl) (fun _ _ _ _ h => h)) (pa_cons (pv 0) (pa_cons (pv 1) pa_nil)))))), ?_⟩
    obtain ⟨a, v1, v2, v3, v4, v5, rfl, ha, rfl, _⟩ := rp_t5 hR
    exact ⟨_, rfl, a, _, 0, _, rfl, rfl, SqT.of ha, rfl, T.aLOOKS, _, _, rfl, rfl, T.kLOOKS_if, rfl, _, rfl, _, rfl, _, ar, _, sc, rfl, rfl, hR, hT, har, hn, q⟩
  | twice b =>
    have G := ok_look_double T X n Glook_body
    refine ⟨_, (pss_cons (ps_set (i := 2) sclook_thing.nd rfl (Or.inl rfl) (pe_ix ix_kdict (pe_gc (by rfl) T.cLOOKS) (pe_ix ix_tup (pv 0) pe_int (fun _ _ => rfl)) (fun _ _ => rfl))) (pss_one (ps_expr (pe_callL (i := 2) G (hr.mono (by omega)) rfl (Or.inl rfl) T.Flook_double.kp T.blook_double .nil (passes_call (takes_of rfl rfl rfl rfl) (fun _ _ _ _ h => h)) (pa_cons (pv 0) (pa_cons (pv 1) pa_nil)))))), ?_⟩
    obtain ⟨a, v1, v2, rfl, ha, rfl, _⟩ := rp_t2 hR
    exact ⟨_, rfl, a, _, 0, _, rfl, rfl, SqT.of ha, rfl, T.aLOOKS, _, _, rfl, rfl, T.kLOOKS_double, rfl, _, rfl, _, rfl, _, ar, _, sc, rfl, rfl, hR, hT, har, hn, q⟩
theorem ok_look_body1 (T : Tops w K mg) (X : Exx K mg) (n : Nat) (Glook_thing : FnOk P w K mg base (L2.CX P w) (3 * n + 7) T.flook_thing T.dlook_thing ["thing", "around"] (spLkThing X.cls (fun _ => True) n)) : FnOk P w K mg base (L2.CX P w) (3 * n + 8) T.flook_body T.dlook_body ["body", "around"] (spLkBody X.cls n) := by
  refine T.Flook_body.okX (k := 3 * n + 7) sclook_body (fun vs H Q E h => ?_) (fun cdv A outer s H vs Q E hr h => ?_)
  · obtain ⟨v, ar, ts, sc, rfl, _⟩ := h
    rfl
  obtain ⟨v, ar, ts, sc, rfl, hR, hT, har, hn, q⟩ := h
  refine ⟨_, (pss_one (ps_for (passes_of rfl) rfl (pi_tup (pv 0)) (pg_name (i := 2) sclook_body.nd rfl (Or.inl rfl))
  (pss_one (ps_expr (pe_call Glook_thing (hr.mono (by omega)) (by rfl) T.glook_thing T.Flook_thing.kp T.blook_thing .nil (passes_call (takes_of rfl rfl rfl rfl) (fun _ _ _ _ h => h)) (pa_cons (pv 2) (pa_cons (pv 1) pa_nil))))))), ?_⟩
  obtain ⟨a, vs, rfl, ha, hvs⟩ := id hR
  have hl := hvs.length
  rw [encs_length] at hl
  refine ⟨_, rfl, a, rfl, ⟨_, SqT.of ha⟩, ?_⟩
  refine for_tup (xs := vs) (fun i σ H' => (∃ x2, σ = [some (.ref a), some (.ref ar), x2]) ∧ Same H H' ∧ Out X.cls (lookB ("n" :: sc) (ts.drop i)) H' Q E) ⟨⟨_, rfl⟩, Same.refl H, q⟩ (fun i σ H' _ hP => SqT.of (hP.2.1 _ _ ha)) (fun i x σ H2 hx hP => ?_) (fun σ H2 hP => ?_)
  · obtain ⟨⟨x2, rfl⟩, s2, q2⟩ := hP
    obtain ⟨t, ht, hRt⟩ := rpl_things hvs hx
    rw [look_drop ht] at q2
    exact ⟨_, rfl, _, rfl, x, ar, t, sc, rfl, trivial, hRt.to (Imm.same s2), (shb_iff ts).mp hT t (List.mem_of_getElem? ht), s2 _ _ har, hn, Out.first q2 fun _ H3 s3 q3 => ⟨⟨_, rfl⟩, s2.trans s3, q3⟩⟩
  · obtain ⟨⟨x2, rfl⟩, s2, q2⟩ := hP
    rw [hl, List.drop_length] at q2
    exact q2 H2 (Same.refl H2)
theorem ok_look_body (T : Tops w K mg) (X : Exx K mg) : ∀ n : Nat, FnOk P w K mg base (L2.CX P w) (3 * n + 8) T.flook_body T.dlook_body ["body", "around"] (spLkBody X.cls n)
  | 0 => ok_look_body1 T X 0 (ok_look_thing0 T X)
  | n + 1 => ok_look_body1 T X (n + 1) (ok_look_thing T X n (ok_look_body T X n))
theorem ok_look_plan (T : Tops w K mg) (X : Exx K mg) : FnOk P w K mg base (L2.CX P w) 20 T.flook_plan T.dlook_plan ["plan"] (spLkPlan X.cls 4) := by
  have Glook_again : FnOk P w K mg base (L2.CX P w) 5 T.flook_again T.dlook_again ["thing", "agains"] (spLkAgain X.cls) := ok_look_again T X
  have Glook_thing : FnOk P w K mg base (L2.CX P w) 19 T.flook_thing T.dlook_thing ["thing", "around"] (spLkThing X.cls (fun _ => True) 4) := ok_look_thing T X 3 (ok_look_body T X 3)
  refine T.Flook_plan.okX (k := 19) sclook_plan (fun vs H Q E h => ?_) (fun cdv A outer s H vs Q E hr h => ?_)
  · obtain ⟨v, ts, rfl, _⟩ := h
    rfl
  obtain ⟨v, ts, rfl, hR, hT, hn, q⟩ := h
  refine ⟨_, (pss_cons (ps_set (i := 1) sclook_plan.nd rfl (Or.inl rfl) pe_int)
 (pss_one (ps_for (passes_of rfl) rfl (pi_tup (pv 0)) (pg_name (i := 2) sclook_plan.nd rfl (Or.inl rfl))
  (pss_one (ps_if (pt_cmpR op_eq (pe_ix ix_tup (pv 2) pe_int (fun _ _ => rfl)) pe_str (nomark _))
  (pss_cons (ps_aug (i := 1) sclook_plan.nd rfl (Or.inl rfl) pe_int ip_add)
 (pss_one (ps_expr (pe_call Glook_again (hr.mono (by omega)) (by rfl) T.glook_again T.Flook_again.kp T.blook_again .nil (passes_call (takes_of rfl rfl rfl rfl) (fun _ _ _ _ h => h)) (pa_cons (pv 2) (pa_cons (pv 1) pa_nil))))))
  (pss_one (ps_expr (pe_call Glook_thing (hr.mono (by omega)) (by rfl) T.glook_thing T.Flook_thing.kp T.blook_thing .nil (passes_call (takes_of rfl rfl rfl rfl) (fun _ _ _ _ h => h)) (pa_cons (pv 2) (pa_cons (pe_tup pa_nil) pa_nil)))))))))), ?_⟩
  obtain ⟨a, vs, rfl, ha, hvs⟩ := id hR
  have hl := hvs.length
  rw [encs_length] at hl
  refine ⟨_, rfl, a, rfl, ⟨_, SqT.of ha⟩, ?_⟩
  refine for_tup (xs := vs) (fun i σ H' => ∃ g : Nat, (∃ x2, σ = [some (.ref a), some (.int g), x2]) ∧ Same H H' ∧ Out X.cls (lookP g (ts.drop i)) H' Q E) ⟨0, ⟨_, rfl⟩, Same.refl H, q⟩ (fun i σ H' _ hP => by
      obtain ⟨g, _, s2, _⟩ := hP
      exact SqT.of (s2 _ _ ha)) (fun i x σ H2 hx hP => ?_) (fun σ H2 hP => ?_)
  · obtain ⟨g, ⟨x2, rfl⟩, s2, q2⟩ := hP
    obtain ⟨t, ht, hRt⟩ := rpl_things hvs hx
    rw [lookP_drop ht] at q2
    have hRt2 := hRt.to (Imm.same s2)
    by_cases hk : kindT t = "again"
    · obtain ⟨k, w, rfl⟩ := kind_again hk
      obtain ⟨a1, v1, v2, v3, rfl, ha1, rfl, _⟩ := rp_t3 hRt2
      refine ⟨_, rfl, a1, _, 0, _, rfl, rfl, SqT.of ha1, rfl, rfl, _, rfl, ite2 (fun _ => ?_) (fun z => absurd (by decide +kernel) z)⟩
      refine ⟨_, rfl, _, _, rfl, rfl, _, rfl, _, rfl, .ref a1, k, w, g + 1, rfl, hRt2, ?_⟩
      have e : (lookA (.again k w)).or ((if isAg (.again k w) = true ∧ 1 ≤ g then some Rf.mis else none).or (lookP (if isAg (.again k w) = true then g + 1 else g) (ts.drop (i + 1)))) = (if 1 < g + 1 ∨ badA k w = true then some Rf.mis else none).or (lookP (g + 1) (ts.drop (i + 1))) := by
        show (if badA k w = true then some Rf.mis else none).or ((if true = true ∧ 1 ≤ g then some Rf.mis else none).or (lookP (g + 1) (ts.drop (i + 1)))) = _
        have z : (1 < g + 1) = (1 ≤ g) := propext ⟨fun z => by omega, fun z => by omega⟩
        by_cases h1 : badA k w = true
        · simp [h1]
        · by_cases h2 : 1 ≤ g
          · simp [h1, z, h2]
          · simp [h1, z, h2]
      rw [e] at q2
      exact Out.first q2 fun _ H3 s3 q3 => ⟨g + 1, ⟨_, rfl⟩, s2.trans s3, q3⟩
    · have e : (lookA t).or ((if isAg t = true ∧ 1 ≤ g then some Rf.mis else none).or (lookP (if isAg t = true then g + 1 else g) (ts.drop (i + 1)))) = (lookT ["n"] t).or (lookP g (ts.drop (i + 1))) := by
        cases t with
        | again k w => exact absurd rfl hk
        | _ => rfl
      rw [e] at q2
      obtain ⟨a1, u1, rfl, ha1⟩ := rp_kind hRt2
      refine ⟨_, rfl, a1, _, 0, _, rfl, rfl, SqT.of ha1, atI_nat (j := 0) rfl, rfl, _, rfl, ite2 (fun z => absurd (V.str.inj (of_decide_eq_true z)) hk) (fun _ => ?_)⟩
      refine ⟨_, rfl, Nat.zero_le _, fun p np => ?_⟩
      have s3 := same_new (o := .tup []) np
      refine ⟨.ref a1, p, t, [], rfl, trivial, hRt2.to (Imm.same s3), (shb_iff ts).mp hT t (List.mem_of_getElem? ht), upd_same, by decide, ?_⟩
      exact Out.first (Out.to q2 s3) fun _ H4 s4 q4 => ⟨g, ⟨_, rfl⟩, s2.trans (s3.trans s4), q4⟩
  · obtain ⟨g, ⟨x2, rfl⟩, s2, q2⟩ := hP
    rw [hl, List.drop_length] at q2
    exact q2 H2 (Same.refl H2)
end
end K06

set_option Elab.async false
set_option linter.all false
set_option maxRecDepth 100000
set_option maxHeartbeats 4000000
namespace K06
open PySem PySem.Spec PyProof.Rows L2 OG
open C8 (pss_cut pe_gc)
open OGX

section
variable {P : Program} {w : World} {K : PySem.W.Frag} {mg : Str → Option Value} {base : Heap}
theorem ok_lw_thing (T : Tops w K mg) (n : Nat) (Gl_look_thing : FnOk P w K mg base CX0 (n + 1) T.fl_look_thing T.dl_look_thing ["_law_thing", "_law_scope", "_law_deep"] (prevLw n)) : FnOk P w K mg base CX0 (n + 2) T.fl_look_thing T.dl_look_thing ["_law_thing", "_law_scope", "_law_deep"] (spLwThing n) := by
  have Gl_bodies : FnOk P w K mg base CX0 1 T.fl_bodies T.dl_bodies ["_law_thing"] spBodies := ok_l_bodies T
  refine T.Fl_look_thing.ok (k := n + 1) scl_look_thing (fun vs H Q E h => ?_) (fun cdv A outer s H vs Q E hr h => ?_)
  · obtain ⟨v, l, t, sc, dp, rfl, _⟩ := h
    rfl
  obtain ⟨v, l, t, sc, dp, rfl, hR, hT, hl, hn, q⟩ := h
  refine ⟨_, (pss_cons (ps_set (i := 3) scl_look_thing.nd rfl (Or.inl rfl) (pe_ix ix_tup (pv 0) pe_int (fun _ _ => rfl)))
 (pss_cut (ps_set (i := 4) scl_look_thing.nd rfl (Or.inl rfl) (pe_dget2 (hu_of hr) (pe_disp (pps_cons pe_str (pe_slice sl_tupA (pv 0) (po_some pe_int) (po_some pe_int)) (pps_cons pe_str (pe_slice sl_tupA (pv 0) (po_some pe_int) (po_some pe_int)) (pps_cons pe_str (pe_slice sl_tupA (pv 0) (po_some pe_int) (po_some pe_int)) pps_nil))) (by rfl) (by rfl) (fun z => by cases z) (by decide)) (pv 3) (pe_tup pa_nil) ⟨by rfl, by rfl, by rfl, by rfl⟩))
 (pss_cut (ps_if (PW.pt (pw_and (pt_cmpR op_eq (pv 3) pe_str (nomark _)) (pw_and1 (pt_cmpR op_in_seq (pe_ix ix_tup (pv 0) pe_int (fun _ _ => rfl)) (pv 1) (by rfl)))))
  (pss_one (ps_ret (pe_tup (pa_cons pe_str (pa_cons (pe_ix ix_tup (pv 0) pe_int (fun _ _ => rfl)) pa_nil)))))
  pss_nil)
 (pss_cons (ps_for PassesOwn.never rfl (pi_tup (pv 4)) (pg_name (i := 5) scl_look_thing.nd rfl (Or.inl rfl))
  (pss_one (ps_if (PW.pt (pw_and (pt_cmpR op_ne (pe_ix ix_tup (pv 5) pe_int (fun _ _ => rfl)) pe_str (nomark _)) (pw_and1 (pt_cmpR op_notIn_seq (pe_ix ix_tup (pv 5) pe_int (fun _ _ => rfl)) (pv 1) (by rfl)))))
  (pss_one (ps_ret (pe_tup (pa_cons pe_str (pa_cons (pe_ix ix_tup (pv 5) pe_int (fun _ _ => rfl)) pa_nil)))))
  pss_nil)))
 (pss_cut (ps_if (PW.pt (pw_and (pt_cmpR op_eq (pv 3) pe_str (nomark _)) (pw_and1 (PW.pt (pw_or (pt_cmpR op_gt (pv 2) pe_int (nomark _)) (pw_or1 (PW.pt (pw_and (pt_cmpR op_eq (pe_ix ix_tup (pv 0) pe_int (fun _ _ => rfl)) pe_str (nomark _)) (pw_and1 (pt_cmpR op_gt (pe_ix ix_tup (pv 0) pe_int (fun _ _ => rfl)) pe_int (nomark _)))))))))))
  (pss_one (ps_ret (pe_tup (pa_cons pe_str (pa_cons pe_non pa_nil)))))
  pss_nil)
 (pss_cons (ps_for PassesOwn.never rfl (pi_list (pe_call Gl_bodies (hr.mono (by omega)) (by rfl) T.gl_bodies T.Fl_bodies.kp T.bl_bodies .nil pass0 (pa_cons (pv 0) pa_nil))) (pg_name (i := 6) scl_look_thing.nd rfl (Or.inl rfl))
  (pss_one (ps_for PassesOwn.never rfl (pi_tup (pv 6)) (pg_name (i := 7) scl_look_thing.nd rfl (Or.inl rfl))
  (pss_cons (ps_set (i := 8) scl_look_thing.nd rfl (Or.inl rfl) (pe_call Gl_look_thing (hr.mono (by omega)) (by rfl) T.gl_look_thing T.Fl_look_thing.kp T.bl_look_thing .nil pass0 (pa_cons (pv 7) (pa_cons (pe_op op_cat (pv 1) (pe_op op_rep (pe_lst (pa_cons (pe_ix ix_tup (pv 0) pe_int (fun _ _ => rfl)) pa_nil)) (pe_callTy call_int1 (by rfl) T.mint (by decide +kernel) (pa_cons (pe_cmpR op_eq (pv 3) pe_str (nomark _)) pa_nil)))) (pa_cons (pe_op op_add (pv 2) pe_int) pa_nil)))))
 (pss_one (ps_if (pt_cmpR op_notN (pv 8) pe_non (nomark _))
  (pss_one (ps_ret (pv 8)))
  pss_nil))))))
 (pss_one (ps_ret pe_non)))))))), ?_⟩
  have due : Due ((headT sc t).or ((lookEs sc (endsT t)).or ((agT dp t).or (lookBs (scIn sc t) (bodiesT t))))) H Q := fun u H' s' r => q u H' s' (by rw [lawT_split]; exact r)
  clear q
  obtain ⟨a, y, ys, rfl, ha, hy⟩ := rp_two hR
  obtain ⟨xs, ex⟩ : ∃ xs, enc t = .tup xs := by cases t <;> exact ⟨_, rfl⟩
  have hX : Rp H (.ref a) (.tup xs) := ex ▸ hR
  refine ⟨_, rfl, a, _, 0, _, rfl, rfl, SqT.of ha, atI_nat (j := 0) rfl, ?_⟩
  refine ⟨fun σ' H' => ∃ ve, σ' = [some (.ref a), some (.ref l), some (.int dp), some (.str (kindT t)), some ve, none, none, none, none] ∧ Same H H' ∧ Rp H' ve (.tup ((endsT t).map encE)), ?_, ?_⟩
  · refine fun p np => ?_
    have sp : Same H (upd H p (.dK [])) := same_new np
    refine ⟨_, rfl, 2, rfl, 4, rfl, ?_⟩
    refine sl_rp (K := K) (lo := some 2) (hi := some 4) (hX.to (Imm.same sp)) fun w1 H1 s1 hw1 => ?_
    refine ⟨_, rfl, 1, rfl, 3, rfl, ?_⟩
    refine sl_rp (K := K) (lo := some 1) (hi := some 3) (hX.to (Imm.same (sp.trans s1))) fun w2 H2 s2 hw2 => ?_
    refine ⟨_, rfl, 2, rfl, 3, rfl, ?_⟩
    refine sl_rp (K := K) (lo := some 2) (hi := some 3) (hX.to (Imm.same ((sp.trans s1).trans s2))) fun w3 H3 s3 hw3 => ?_
    have hp : H3 p = some (.dK []) := ((s1.trans s2).trans s3) _ _ upd_same
    refine ⟨hp, [(Sum.inr "for", w1), (Sum.inr "if", w2), (Sum.inr "call", w3)], rfl, (by show 3 ≤ 15; decide), ?_⟩
    have hG : (upd H3 p (.dK (mergeK [] [(Sum.inr "for", w1), (Sum.inr "if", w2), (Sum.inr "call", w3)]))) p = some (.dK [(Sum.inr "for", w1), (Sum.inr "if", w2), (Sum.inr "call", w3)]) := by
      rw [upd_same]
      rfl
    have i3 : Imm H3 (upd H3 p (.dK (mergeK [] [(Sum.inr "for", w1), (Sum.inr "if", w2), (Sum.inr "call", w3)]))) := (Imm.refl H3).upd fun xs e => by rw [hp] at e; cases e
    have s4 : Same H (upd H3 p (.dK (mergeK [] [(Sum.inr "for", w1), (Sum.inr "if", w2), (Sum.inr "call", w3)]))) := Same.upd_new (((sp.trans s1).trans s2).trans s3) np
    refine ⟨p, rfl, .inl ⟨_, .inl hG⟩, _, rfl, Nat.zero_le _, fun e ne => ?_⟩
    have s5 := same_new (o := .tup []) ne
    have hw1' := ((hw1.to (Imm.same (s2.trans s3))).to i3).to (Imm.same s5)
    have hw2' := ((hw2.to (Imm.same s3)).to i3).to (Imm.same s5)
    have hw3' := (hw3.to i3).to (Imm.same s5)
    cases t with
    | step k =>
      cases ex
      refine ⟨_, DGet.k (k := Sum.inr "step") (same_new ne _ _ hG), ?_⟩
      exact ⟨_, rfl, s4.trans s5, rp_tup upd_same rpl_nil⟩
    | loop x e1 e2 b =>
      cases ex
      refine ⟨_, DGet.k (k := Sum.inr "for") (same_new ne _ _ hG), ?_⟩
      exact ⟨_, rfl, s4.trans s5, hw1'⟩
    | test e1 e2 b c =>
      cases ex
      refine ⟨_, DGet.k (k := Sum.inr "if") (same_new ne _ _ hG), ?_⟩
      exact ⟨_, rfl, s4.trans s5, hw2'⟩
    | twice b =>
      cases ex
      refine ⟨_, DGet.k (k := Sum.inr "double") (same_new ne _ _ hG), ?_⟩
      exact ⟨_, rfl, s4.trans s5, rp_tup upd_same rpl_nil⟩
    | call x e1 =>
      cases ex
      refine ⟨_, DGet.k (k := Sum.inr "call") (same_new ne _ _ hG), ?_⟩
      exact ⟨_, rfl, s4.trans s5, hw3'⟩
    | again k w =>
      cases ex
      refine ⟨_, DGet.k (k := Sum.inr "again") (same_new ne _ _ hG), ?_⟩
      exact ⟨_, rfl, s4.trans s5, rp_tup upd_same rpl_nil⟩
  rintro σ' H1 ⟨ve, rfl, s1, hve⟩
  have due1 := Due.to due s1
  refine ⟨fun σ' H' => σ' = [some (.ref a), some (.ref l), some (.int dp), some (.str (kindT t)), some ve, none, none, none, none] ∧ H' = H1 ∧ headT sc t = none, ?_, ?_⟩
  · by_cases hk : kindT t = "for"
    · obtain ⟨x, e1, e2, b, rfl⟩ := kind_for hk
      obtain rfl := hy x e1 e2 b rfl
      refine ⟨_, rfl, rfl, _, rfl, ite2 (fun _ => ?_) (fun z => absurd (decide_eq_true rfl) z)⟩
      refine ⟨_, rfl, a, _, 1, _, rfl, rfl, SqT.of (s1 _ _ ha), atI_nat (j := 1) rfl, _, rfl, l, _, rfl, .inl (SqL.of (s1 _ _ hl)), rfl, flat_strs _, _, rfl, ite2 (fun c => ?_) (fun c => ?_)⟩
      · have c1 : inV (.str x) (sc.map V.str) = true := c
        rw [inV_str] at c1
        have hs : x ∈ sc := of_decide_eq_true c1
        refine ⟨_, rfl, a, _, 1, _, rfl, rfl, SqT.of (s1 _ _ ha), atI_nat (j := 1) rfl, (by show 2 ≤ sizeLine; decide), fun p np => ?_⟩
        exact (Due.now due1 (if_pos hs)) _ _ (same_new np) (rp_tup upd_same (rpl_cons rfl (rpl_cons rfl rpl_nil)))
      · have c1 : inV (.str x) (sc.map V.str) = false := Bool.eq_false_iff.mpr c
        rw [inV_str] at c1
        exact ⟨rfl, rfl, if_neg (of_decide_eq_false c1)⟩
    · refine ⟨_, rfl, rfl, _, rfl, ite2 (fun z => absurd (V.str.inj (of_decide_eq_true z)) hk) (fun _ => ?_)⟩
      refine ⟨rfl, rfl, ?_⟩
      cases t with
      | loop x e1 e2 b => exact absurd rfl hk
      | _ => rfl
  rintro σ' H' ⟨rfl, rfl, eh⟩
  have due2 := Due.rest due1 eh
  obtain ⟨ae, vse, rfl, hae, hvse⟩ := id hve
  have lve := hvse.length
  rw [List.length_map] at lve
  refine ⟨_, rfl, ae, rfl, ⟨_, SqT.of hae⟩, ?_⟩
  refine for_tup (xs := vse) (fun i σ H2 => (∃ x5, σ = [some (.ref a), some (.ref l), some (.int dp), some (.str (kindT t)), some (.ref ae), x5, none, none, none]) ∧ H2 = H' ∧ Due ((lookEs sc ((endsT t).drop i)).or ((agT dp t).or (lookBs (scIn sc t) (bodiesT t)))) H' Q) ⟨⟨_, rfl⟩, rfl, due2⟩ (fun i σ H2 _ hP => by
      rw [hP.2.1]
      exact SqT.of hae) (fun i x σ H2 hx hP => ?_) (fun σ H2 hP => ?_)
  · obtain ⟨⟨x5, rfl⟩, rfl, d3⟩ := hP
    obtain ⟨e, he, hRe⟩ := rpl_encs hvse hx
    rw [es_drop he, Option.or_assoc] at d3
    obtain ⟨b, v1, v2, rfl, hb, rfl, rfl⟩ := rp_t2 hRe
    refine ⟨_, rfl, b, _, 0, _, rfl, rfl, SqT.of hb, rfl, rfl, _, rfl, ite2 (fun c => ?_) (fun c => ?_)⟩
    · have c1 : ¬ e.1 = "" := fun z => by
        have c2 : (!decide (V.str e.1 = V.str "")) = true := c
        rw [z, decide_eq_true rfl] at c2
        cases c2
      refine ⟨_, rfl, b, _, 0, _, rfl, rfl, SqT.of hb, rfl, _, rfl, l, _, rfl, .inl (SqL.of (s1 _ _ hl)), rfl, flat_strs _, _, rfl, ite2 (fun c2 => ?_) (fun c2 => ?_)⟩
      · have c3 : (!inV (.str e.1) (sc.map V.str)) = true := c2
        rw [inV_str] at c3
        have hs : e.1 ∉ sc := fun z => by rw [decide_eq_true z] at c3; cases c3
        refine ⟨_, rfl, b, _, 0, _, rfl, rfl, SqT.of hb, rfl, (by show 2 ≤ sizeLine; decide), fun p np => ?_⟩
        exact (Due.now d3 (if_pos ⟨c1, hs⟩)) _ _ (same_new np) (rp_tup upd_same (rpl_cons rfl (rpl_cons rfl rpl_nil)))
      · have c3 : (!inV (.str e.1) (sc.map V.str)) = false := Bool.eq_false_iff.mpr c2
        rw [inV_str] at c3
        have hs : e.1 ∈ sc := by
          by_cases z : e.1 ∈ sc
          · exact z
          · rw [decide_eq_false z] at c3; cases c3
        exact ⟨⟨_, rfl⟩, rfl, Due.rest d3 (if_neg fun z => z.2 hs)⟩
    · have c1 : e.1 = "" := by
        have c2 : (!decide (V.str e.1 = V.str "")) = false := Bool.eq_false_iff.mpr c
        by_cases z : e.1 = ""
        · exact z
        · rw [dec_str z] at c2; cases c2
      exact ⟨⟨_, rfl⟩, rfl, Due.rest d3 (if_neg fun z => z.1 c1)⟩
  obtain ⟨⟨x5, rfl⟩, rfl, d3⟩ := hP
  rw [lve, List.drop_length] at d3
  have d4 : Due ((agT dp t).or (lookBs (scIn sc t) (bodiesT t))) H2 Q := Due.rest d3 rfl
  refine ⟨fun σ' H' => σ' = [some (.ref a), some (.ref l), some (.int dp), some (.str (kindT t)), some (.ref ae), x5, none, none, none] ∧ H' = H2 ∧ agT dp t = none, ?_, ?_⟩
  · by_cases hk : kindT t = "again"
    · obtain ⟨k, w, rfl⟩ := kind_again hk
      obtain ⟨a', v1, v2, v3, ea, ha', rfl, rfl, rfl⟩ := rp_t3 (hR.to (Imm.same s1))
      cases ea
      have yes : (0 < dp ∨ badA k w = true) → ∀ p, H2 p = none → Q (.ref p) (upd H2 p (.tup [.str "Misplaced", .non])) := fun z p np => (Due.now d4 (if_pos z)) _ _ (same_new np) (rp_tup upd_same (rpl_cons rfl (rpl_cons rfl rpl_nil)))
      refine ⟨_, rfl, rfl, _, rfl, ite2 (fun _ => ?_) (fun z => absurd (decide_eq_true rfl) z)⟩
      refine ⟨_, rfl, (dp : Int), 0, rfl, rfl, _, rfl, ite2 (fun c1 => ?_) (fun c1 => ?_)⟩
      · have c2 : (0 : Int) < (dp : Int) := of_decide_eq_true c1
        exact iteT ⟨(by show 2 ≤ sizeLine; decide), yes (.inl (by omega))⟩
      have c2 : ¬ (0 : Int) < (dp : Int) := fun z => c1 (decide_eq_true z)
      refine ⟨_, rfl, a, _, 2, _, rfl, rfl, SqT.of ha', rfl, rfl, _, rfl, ite2 (fun c3 => ?_) (fun c3 => ?_)⟩
      · have e3 : w = "less" := V.str.inj (of_decide_eq_true c3)
        refine ⟨_, rfl, a, _, 1, _, rfl, rfl, SqT.of ha', rfl, k, 1, rfl, rfl, _, rfl, ite2 (fun c4 => ?_) (fun c4 => ?_)⟩
        · have e4 : (1 : Int) < k := of_decide_eq_true c4
          exact ⟨(by show 2 ≤ sizeLine; decide), yes (.inr (by unfold badA; rw [decide_eq_true e3, decide_eq_true e4]; rfl))⟩
        · have e4 : ¬ (1 : Int) < k := fun z => c4 (decide_eq_true z)
          exact ⟨rfl, rfl, if_neg (fun z => z.elim (by omega) (fun z => by unfold badA at z; rw [decide_eq_false e4, Bool.and_false] at z; cases z))⟩
      · have e3 : ¬ w = "less" := fun z => c3 (decide_eq_true (by rw [z]))
        exact ⟨rfl, rfl, if_neg (fun z => z.elim (by omega) (fun z => by unfold badA at z; rw [decide_eq_false e3, Bool.false_and] at z; cases z))⟩
    · refine ⟨_, rfl, rfl, _, rfl, ite2 (fun z => absurd (V.str.inj (of_decide_eq_true z)) hk) (fun _ => ?_)⟩
      refine ⟨rfl, rfl, ?_⟩
      cases t with
      | again k w => exact absurd rfl hk
      | _ => rfl
  rintro σ' H' ⟨rfl, rfl, ea⟩
  have d5 := Due.rest d4 ea
  refine ⟨_, rfl, .ref a, t, rfl, hR.to (Imm.same s1), fun B us H3 s3 nB hB hRB => ?_⟩
  refine ⟨B, rfl, ⟨_, SqL.of hB⟩, ?_⟩
  have lu := hRB.length
  unfold encBs at lu
  rw [List.length_map] at lu
  refine for_list (xs := us) (fun i σ H4 => (∃ x5 x6 x7 x8, σ = [some (.ref a), some (.ref l), some (.int dp), some (.str (kindT t)), some (.ref ae), x5, x6, x7, x8]) ∧ Same H3 H4 ∧ Due (lookBs (scIn sc t) ((bodiesT t).drop i)) H4 Q) ⟨⟨_, _, _, _, rfl⟩, Same.refl H3, Due.to d5 s3⟩ (fun i σ H4 _ hP => SqL.of (hP.2.1 _ _ hB)) (fun i x σ H4 hx hP => ?_) (fun σ H4 hP => ?_)
  · obtain ⟨⟨x5, x6, x7, x8, rfl⟩, s4, d6⟩ := hP
    obtain ⟨b, hb, hRb⟩ := rpl_bodies hRB hx
    rw [bs_drop hb] at d6
    obtain ⟨m, rfl, hSb⟩ := sh_bodies hT b (List.mem_of_getElem? hb)
    obtain ⟨ab, vsb, rfl, hab, hvsb⟩ := id hRb
    have lb := hvsb.length
    rw [encs_length] at lb
    refine ⟨_, rfl, ab, rfl, ⟨_, SqT.of (s4 _ _ hab)⟩, ?_⟩
    refine for_tup (xs := vsb) (fun j σ H5 => (∃ x5 x7 x8, σ = [some (.ref a), some (.ref l), some (.int dp), some (.str (kindT t)), some (.ref ae), x5, some (.ref ab), x7, x8]) ∧ Same H3 H5 ∧ Due ((lookB (scIn sc t) (b.drop j)).or (lookBs (scIn sc t) ((bodiesT t).drop (i + 1)))) H5 Q) ⟨⟨_, _, _, rfl⟩, s4, d6⟩ (fun j σ H5 _ hP => SqT.of (hP.2.1 _ _ hab)) (fun j z σ H5 hz hP => ?_) (fun σ H5 hP => ?_)
    · obtain ⟨⟨x5, x7, x8, rfl⟩, s5, d7⟩ := hP
      obtain ⟨t', ht', hRt'⟩ := rpl_things hvsb hz
      rw [look_drop ht', Option.or_assoc] at d7
      have sH5 : Same H H5 := (s1.trans s3).trans s5
      have ha5 := sH5 _ _ ha
      -- scope + [thing[1]] * int(word == 'for')
      refine ⟨_, rfl, _, rfl, _, rfl, a, _, 1, _, rfl, rfl, SqT.of ha5, atI_nat (j := 1) rfl, (by show 1 ≤ sizeLine; decide), fun l1 nl1 => ?_⟩
      have sl1 := same_new (o := .lst [y]) nl1
      by_cases hk : kindT t = "for"
      · obtain ⟨x, e1, e2, b1, et⟩ := kind_for hk
        have ey := hy x e1 e2 b1 et
        have esc : scIn sc t = sc ++ [x] := by rw [et]; rfl
        subst ey
        refine ⟨_, rfl, rfl, .inr ⟨true, congrArg (fun b => [V.bl b]) (decide_eq_true (by rw [hk])), ?_⟩⟩
        refine ⟨l1, 1, _, rfl, rfl, upd_same, by decide, by decide, (by show 1 * 1 ≤ sizeLine; decide), fun p2 np2 => ?_⟩
        have sl2 := same_new (o := .lst [V.str x]) np2
        have s52 := sl1.trans sl2
        refine ⟨l, p2, _, _, rfl, rfl, s52 _ _ (sH5 _ _ hl), upd_same, ?_, fun p3 np3 => ?_⟩
        · rw [List.length_map]
          show sc.length + 1 ≤ sizeLine
          exact sz (by omega)
        have s53 := s52.trans (same_new (o := .lst (sc.map V.str ++ [V.str x])) np3)
        have hl3 : (upd (upd (upd H5 l1 (.lst [V.str x])) p2 (.lst [V.str x])) p3 (.lst (sc.map V.str ++ [V.str x]))) p3 = some (.lst ((scIn sc t).map V.str)) := by
          rw [upd_same]
          rw [esc, List.map_append]; rfl
        refine ⟨_, rfl, (dp : Int), 1, rfl, rfl, z, p3, t', scIn sc t, dp + 1, rfl, hRt'.to (Imm.same (s5.trans s53)), (shb_iff b).mp hSb t' (List.mem_of_getElem? ht'), hl3, ?_, fun u H6 s6 hu => ?_⟩
        · have := scIn_len sc t
          omega
        rw [lawT_in] at hu
        have s56 := s53.trans s6
        cases hlk : lookT (scIn sc t) t' with
        | none =>
          rw [hlk] at hu
          obtain rfl : u = .non := hu
          refine ⟨_, rfl, rfl, _, rfl, ite2 (fun zz => absurd zz (by decide)) (fun _ => ?_)⟩
          exact ⟨⟨_, _, _, rfl⟩, s5.trans s56, Due.to (Due.rest d7 hlk) s56⟩
        | some r =>
          rw [hlk] at hu
          have un := rp_some hu
          refine ⟨_, rfl, rfl, _, rfl, ite2 (fun _ => ?_) (fun zz => absurd (by rw [decide_eq_false un]; rfl) zz)⟩
          exact ⟨_, rfl, (Due.now d7 hlk) u H6 s56 hu⟩
      · have esc : scIn sc t = sc := by
          cases t with
          | loop x e1 e2 b => exact absurd rfl hk
          | _ => rfl
        refine ⟨_, rfl, rfl, .inr ⟨false, congrArg (fun b => [V.bl b]) (dec_str hk), ?_⟩⟩
        refine ⟨l1, 0, _, rfl, rfl, upd_same, by decide, by decide, (by show 1 * 0 ≤ sizeLine; decide), fun p2 np2 => ?_⟩
        have sl2 := same_new (o := .lst []) np2
        have s52 := sl1.trans sl2
        refine ⟨l, p2, _, _, rfl, rfl, s52 _ _ (sH5 _ _ hl), upd_same, ?_, fun p3 np3 => ?_⟩
        · rw [List.length_map]
          show sc.length + 0 ≤ sizeLine
          exact sz (by omega)
        have s53 := s52.trans (same_new (o := .lst (sc.map V.str ++ [])) np3)
        have hl3 : (upd (upd (upd H5 l1 (.lst [y])) p2 (.lst [])) p3 (.lst (sc.map V.str ++ []))) p3 = some (.lst ((scIn sc t).map V.str)) := by
          rw [upd_same]
          rw [esc, List.append_nil]
        refine ⟨_, rfl, (dp : Int), 1, rfl, rfl, z, p3, t', scIn sc t, dp + 1, rfl, hRt'.to (Imm.same (s5.trans s53)), (shb_iff b).mp hSb t' (List.mem_of_getElem? ht'), hl3, ?_, fun u H6 s6 hu => ?_⟩
        · have := scIn_len sc t
          omega
        rw [lawT_in] at hu
        have s56 := s53.trans s6
        cases hlk : lookT (scIn sc t) t' with
        | none =>
          rw [hlk] at hu
          obtain rfl : u = .non := hu
          refine ⟨_, rfl, rfl, _, rfl, ite2 (fun zz => absurd zz (by decide)) (fun _ => ?_)⟩
          exact ⟨⟨_, _, _, rfl⟩, s5.trans s56, Due.to (Due.rest d7 hlk) s56⟩
        | some r =>
          rw [hlk] at hu
          have un := rp_some hu
          refine ⟨_, rfl, rfl, _, rfl, ite2 (fun _ => ?_) (fun zz => absurd (by rw [decide_eq_false un]; rfl) zz)⟩
          exact ⟨_, rfl, (Due.now d7 hlk) u H6 s56 hu⟩
    · obtain ⟨⟨x5, x7, x8, rfl⟩, s5, d7⟩ := hP
      rw [lb, List.drop_length] at d7
      exact ⟨⟨_, _, _, _, rfl⟩, s5, Due.rest d7 rfl⟩
  · obtain ⟨⟨x5, x6, x7, x8, rfl⟩, s4, d6⟩ := hP
    rw [lu, List.drop_length] at d6
    exact d6 .non H4 (Same.refl H4) rfl
theorem ok_lw_things (T : Tops w K mg) : ∀ n : Nat, FnOk P w K mg base CX0 (n + 2) T.fl_look_thing T.dl_look_thing ["_law_thing", "_law_scope", "_law_deep"] (spLwThing n)
  | 0 => ok_lw_thing T 0 OG.fn_none
  | n + 1 => ok_lw_thing T (n + 1) (ok_lw_things T n)
theorem ok_looking (T : Tops w K mg) : FnOk P w K mg base CX0 7 T.fl_looking T.dl_looking ["_law_plan"] (spLooking 4) := by
  have Gl_look_thing : FnOk P w K mg base CX0 6 T.fl_look_thing T.dl_look_thing ["_law_thing", "_law_scope", "_law_deep"] (spLwThing 4) := ok_lw_things T 4
  refine T.Fl_looking.ok (k := 6) scl_looking (fun vs H Q E h => ?_) (fun cdv A outer s H vs Q E hr h => ?_)
  · obtain ⟨v, ts, rfl, _⟩ := h
    rfl
  obtain ⟨v, ts, rfl, hR, hT, hn, q⟩ := h
  refine ⟨_, (pss_cons (ps_set (i := 1) scl_looking.nd rfl (Or.inl rfl) pe_int)
 (pss_cons (ps_for PassesOwn.never rfl (pi_tup (pv 0)) (pg_name (i := 2) scl_looking.nd rfl (Or.inl rfl))
  (pss_cons (ps_set (i := 3) scl_looking.nd rfl (Or.inl rfl) (pe_call Gl_look_thing (hr.mono (by omega)) (by rfl) T.gl_look_thing T.Fl_look_thing.kp T.bl_look_thing .nil pass0 (pa_cons (pv 2) (pa_cons (pe_lst (pa_cons pe_str pa_nil)) (pa_cons pe_int pa_nil)))))
 (pss_cons (ps_if (pt_cmpR op_notN (pv 3) pe_non (nomark _))
  (pss_one (ps_ret (pv 3)))
  pss_nil)
 (pss_cons (ps_set (i := 1) scl_looking.nd rfl (Or.inl rfl) (pe_op op_add (pv 1) (pe_callTy call_int1 (by rfl) T.mint (by decide +kernel) (pa_cons (pe_cmpR op_eq (pe_ix ix_tup (pv 2) pe_int (fun _ _ => rfl)) pe_str (nomark _)) pa_nil))))
 (pss_one (ps_if (pt_cmpR op_gt (pv 1) pe_int (nomark _))
  (pss_one (ps_ret (pe_tup (pa_cons pe_str (pa_cons pe_non pa_nil)))))
  pss_nil))))))
 (pss_one (ps_ret (pe_tup (pa_cons pe_str (pa_cons pe_non pa_nil))))))), ?_⟩
  obtain ⟨a, vs, rfl, ha, hvs⟩ := id hR
  have hl := hvs.length
  rw [encs_length] at hl
  refine ⟨_, rfl, a, rfl, ⟨_, SqT.of ha⟩, ?_⟩
  refine for_tup (xs := vs) (fun i σ H' => ∃ g : Nat, (∃ x2 x3, σ = [some (.ref a), some (.int g), x2, x3]) ∧ g ≤ 1 ∧ Same H H' ∧ ∀ u H2, Same H' H2 → Rp H2 u (encL (lookP g (ts.drop i))) → Q u H2) ⟨0, ⟨_, _, rfl⟩, by omega, Same.refl H, q⟩ (fun i σ H' _ hP => by
      obtain ⟨g, _, _, s2, _⟩ := hP
      exact SqT.of (s2 _ _ ha)) (fun i x σ H2 hx hP => ?_) (fun σ H2 hP => ?_)
  · obtain ⟨g, ⟨x2, x3, rfl⟩, hg, s2, q2⟩ := hP
    obtain ⟨t, ht, hRt⟩ := rpl_things hvs hx
    rw [lookP_drop ht] at q2
    have hRt2 := hRt.to (Imm.same s2)
    refine ⟨_, rfl, (by show 1 ≤ sizeLine; decide), fun l nl => ?_⟩
    have s3 := same_new (o := .lst [.str "n"]) nl
    refine ⟨x, l, t, ["n"], 0, rfl, hRt2.to (Imm.same s3), (shb_iff ts).mp hT t (List.mem_of_getElem? ht), upd_same, by decide, fun u H4 s4 hu => ?_⟩
    rw [lawT_top] at hu
    have s34 := s3.trans s4
    cases hlk : lookA t with
    | some r =>
      rw [hlk] at hu q2
      have un := rp_some hu
      refine ⟨_, rfl, rfl, _, rfl, ite2 (fun _ => ?_) (fun zz => absurd (by rw [decide_eq_false un]; rfl) zz)⟩
      exact ⟨_, rfl, q2 u H4 s34 hu⟩
    | none =>
      rw [hlk] at hu
      rw [hlk, Option.none_or] at q2
      obtain rfl : u = .non := hu
      refine ⟨_, rfl, rfl, _, rfl, ite2 (fun zz => absurd zz (by decide)) (fun _ => ?_)⟩
      obtain ⟨a1, u1, rfl, ha1⟩ := rp_kind (hRt2.to (Imm.same s34))
      by_cases hk : kindT t = "again"
      · have ei : isAg t = true := by
          obtain ⟨k, w, rfl⟩ := kind_again hk
          rfl
        rw [ei] at q2
        refine ⟨_, rfl, _, rfl, a1, _, 0, _, rfl, rfl, SqT.of ha1, atI_nat (j := 0) rfl, rfl, .inr ⟨true, congrArg (fun b => [V.bl b]) (decide_eq_true (by rw [hk])), ?_⟩⟩
        refine ⟨_, _, rfl, rfl, ?_⟩
        refine ⟨_, rfl, _, 1, rfl, rfl, _, rfl, ite2 (fun c => ?_) (fun c => ?_)⟩
        · have c1 : (1 : Int) < (g : Int) + 1 := of_decide_eq_true c
          rw [if_pos ⟨rfl, by omega⟩] at q2
          refine ⟨(by show 2 ≤ sizeLine; decide), fun p np => ?_⟩
          exact q2 _ _ (s34.trans (same_new np)) (rp_tup upd_same (rpl_cons rfl (rpl_cons rfl rpl_nil)))
        · have c1 : ¬ (1 : Int) < (g : Int) + 1 := fun z => c (decide_eq_true z)
          rw [if_neg (fun z => by have := z.2; omega), Option.none_or, if_pos rfl] at q2
          exact ⟨g + 1, ⟨_, _, rfl⟩, by omega, s2.trans s34, fun u H5 s5 hu => q2 u H5 (s34.trans s5) hu⟩
      · have ei : isAg t = false := by
          cases t with
          | again k w => exact absurd rfl hk
          | _ => rfl
        rw [ei, if_neg (fun z => by cases z.1), Option.none_or, if_neg (by decide)] at q2
        refine ⟨_, rfl, _, rfl, a1, _, 0, _, rfl, rfl, SqT.of ha1, atI_nat (j := 0) rfl, rfl, .inr ⟨false, congrArg (fun b => [V.bl b]) (dec_str hk), ?_⟩⟩
        refine ⟨_, _, rfl, rfl, ?_⟩
        refine ⟨_, rfl, _, 1, rfl, rfl, _, rfl, ite2 (fun c => ?_) (fun c => ?_)⟩
        · have c1 : (1 : Int) < (g : Int) + 0 := of_decide_eq_true c
          omega
        · exact ⟨g, ⟨_, _, rfl⟩, hg, s2.trans s34, fun u H5 s5 hu => q2 u H5 (s34.trans s5) hu⟩
  · obtain ⟨g, ⟨x2, x3, rfl⟩, hg, s2, q2⟩ := hP
    rw [hl, List.drop_length] at q2
    refine ⟨(by show 2 ≤ sizeLine; decide), fun p np => ?_⟩
    exact q2 _ _ (same_new np) (rp_tup upd_same (rpl_cons rfl (rpl_cons rfl rpl_nil)))
end
end K06

set_option Elab.async false
set_option linter.all false
set_option maxRecDepth 100000
set_option maxHeartbeats 4000000
namespace K06
open PySem PySem.Spec PyProof.Rows L2 OG
open C8 (pss_cut pe_gc)
open OGX

section
variable {P : Program} {w : World} {K : PySem.W.Frag} {mg : Str → Option Value} {base : Heap}
def tXfA (K : PySem.W.Frag) (a : Addr) (cls : Value) (d : Option Addr) (n : Str) (te : TE) : TE := fun σ H Q => ∃ C, XfC K C ∧ PySem.W.findIn K (.ref C) n = some none ∧ tXf a cls d C n te σ H Q
theorem pe_xfA {X : Cx} {K : PySem.W.Frag} {a : Addr} {oe : Obj} {cls : Value} {d : Option Addr} {e : Expr} {te : TE} {pos : Pos} {n : Str} (hK : X.K = K) (hp : (a, oe) ∈ X.pn) (hz : Zc cls d oe) (hf : ∃ vs, oe.data = .fields vs) (he : PE X e te)
    (hb : attributeBase e n X.env (eval e X.env) = eval e X.env := by rfl) : PE X (.Attribute e n pos) (tXfA K a cls d n te) :=
  ⟨fun pins s σ H Q I h => by
    subst hK
    obtain ⟨C, h1, h2, h3⟩ := h
    exact (pe_xfX hp h1 h2 hz hf he hb).run pins s σ H Q I h3⟩
def valR : Rf → V
  | .nam x => .str x
  | .two x => .str x
  | .mis => .non
def spClass (c : Rf → Addr) : SpX := fun a cls d vs H Q _ => vs = [.ref a] ∧ ∃ r, cls = .ref (c r) ∧ ∃ dd, d = some dd ∧ H dd = some (.xd (fldR r)) ∧ Q (.str (wordR r)) H
theorem ok_class (T : Tops w K mg) (X : Exx K mg) : FnX P w K mg base 1 T.fl_class T.dl_class ["_law_e"] (spClass X.cls) := by
  obtain ⟨oc, od, kV, doc, pm, an, cdv, ct, osl, e, lk, hcd⟩ := T.Fl_class.ex
  rw [e] at lk ⊢
  refine fn_ofX (N := Nl_class) lk hcd scl_class (fun a cls d vs H Q E h => ?_) (fun A outer s H vs Q E a oe cls d hz hf hr h => ?_)
  · obtain ⟨rfl, _⟩ := h
    rfl
  obtain ⟨rfl, r, rfl, dd, rfl, hdd, q⟩ := h
  have Y := X.xc r
  have hp : (a, oe) ∈ (L2H.cxH C8.CX0 P w K mg base Nl_class "_law_class" (defScope sl_class) T.fl_class cdv A outer s H E (a, oe)).pn := List.mem_cons_self
  refine ⟨_, pss_cons (ps_if (PW.pt (pw_or (pt_cmpR op_eq (pe_callB (call_isX hp hz hf) (by rfl) T.misinstance (by decide +kernel) (pa_cons (pv 0) (pa_cons (pe_gc (v := .ref X.CMi) (by rfl) ⟨_, X.gMi, rfl⟩) pa_nil))) (pe_callB (call_isX hp hz hf) (by rfl) T.misinstance (by decide +kernel) (pa_cons (pv 0) (pa_cons (pe_gc (v := .ref X.CF) (by rfl) ⟨_, X.gF, rfl⟩) pa_nil))) (nomark _)) (pw_or1 (pt_not (pt_val (pe_callB (call_isX hp hz hf) (by rfl) T.misinstance (by decide +kernel) (pa_cons (pv 0) (pa_cons (pe_bltn (v := .ty "ValueError") (by rfl) X.mV (by decide +kernel) rfl) pa_nil))))))))
    (pss_one (ps_ret pe_str)) pss_nil) (pss_one (ps_ret (pe_xfX (n := "word") hp Y.x Y.w hz hf (pv 0)))), ?_⟩
  refine ⟨_, rfl, X.cls r, dd, _, .ref X.CMi, _, false, rfl, rfl, rfl, Y.e, hdd, fun u h => h, Y.kM, ?_⟩
  refine ⟨_, rfl, X.cls r, dd, _, .ref X.CF, _, true, rfl, rfl, rfl, Y.e, hdd, fun u h => h, Y.kF, ?_⟩
  refine ⟨rfl, _, rfl, ite2 (fun z => absurd z (by decide)) (fun _ => ?_)⟩
  refine ⟨_, rfl, X.cls r, dd, _, .ty "ValueError", _, true, rfl, rfl, rfl, Y.e, hdd, fun u h => h, Y.kV, _, rfl, ite2 (fun z => absurd z (by decide)) (fun _ => ?_)⟩
  refine ⟨_, rfl, rfl, rfl, dd, _, _, rfl, hdd, ?_, q⟩
  cases r <;> rfl
def eTried (c : Rf → Addr) (Q : VK) : XK := fun cls d H' => ∃ r, cls = .ref (c r) ∧ ∃ dd, d = some dd ∧ H' dd = some (.xd (fldR r)) ∧ ∀ p, H' p = none → Q (.ref p) (upd H' p (.tup [.str (wordR r), valR r]))
def TTried (c : Rf → Addr) : (XK → Hp → VK → Prop) → Hp → VK → Prop := fun tl H Q => tl (eTried c Q) H (fun v H' => 2 ≤ sizeLine ∧ ∀ p, H' p = none → Q (.ref p) (upd H' p (.tup [.str "told", v])))
theorem exm_no {cls c : Value} (h : PySem.W.exmOne K cls c = some false) : PySem.W.exmAny K cls [c] = some false := by
  simp only [PySem.W.exmAny, h]
  rfl
theorem exm_yes {cls c : Value} (h : PySem.W.exmOne K cls c = some true) : PySem.W.exmAny K cls [c] = some true := by
  simp only [PySem.W.exmAny, h]
  rfl
theorem exm11_N (X : Exx K mg) : PySem.W.exmAny K (.ref X.CN) [.ref X.CN, .ref X.CT, .ref X.CNoPlan, .ref X.CNoLabel, .ref X.CTaken, .ref X.CRing, .ref X.CNotPlain, .ref X.CTangled, .ref X.CBreaks, .ref X.CInUse, .ref X.CUneven] = some true := by
  simp only [PySem.W.exmAny, X.yNN, X.yNT, X.xNNoPlan, X.xNNoLabel, X.xNTaken, X.xNRing, X.xNNotPlain, X.xNTangled, X.xNBreaks, X.xNInUse, X.xNUneven]
  rfl
theorem exm11_T (X : Exx K mg) : PySem.W.exmAny K (.ref X.CT) [.ref X.CN, .ref X.CT, .ref X.CNoPlan, .ref X.CNoLabel, .ref X.CTaken, .ref X.CRing, .ref X.CNotPlain, .ref X.CTangled, .ref X.CBreaks, .ref X.CInUse, .ref X.CUneven] = some true := by
  simp only [PySem.W.exmAny, X.yTN, X.yTT, X.xTNoPlan, X.xTNoLabel, X.xTTaken, X.xTRing, X.xTNotPlain, X.xTTangled, X.xTBreaks, X.xTInUse, X.xTUneven]
  rfl
theorem exm11_M (X : Exx K mg) : PySem.W.exmAny K (.ref X.CM) [.ref X.CN, .ref X.CT, .ref X.CNoPlan, .ref X.CNoLabel, .ref X.CTaken, .ref X.CRing, .ref X.CNotPlain, .ref X.CTangled, .ref X.CBreaks, .ref X.CInUse, .ref X.CUneven] = some false := by
  simp only [PySem.W.exmAny, X.yMN, X.yMT, X.xMNoPlan, X.xMNoLabel, X.xMTaken, X.xMRing, X.xMNotPlain, X.xMTangled, X.xMBreaks, X.xMInUse, X.xMUneven]
  rfl
theorem tried_gives {Y : Cx} {k : Nat} {cdg : Value} {q : Str} (T : Tops Y.w Y.K Y.mg) (X : Exx Y.K Y.mg) (GC : FnX Y.prog Y.w Y.K Y.mg Y.base 1 T.fl_class T.dl_class ["_law_e"] (spClass X.cls)) (hr : Room (k + 3) Y.A) :
    LamX.GivesTo Y Nl_tried "_law_tried" (defScope sl_tried) T.fl_tried cdg (defBody sl_tried) "_law_ask" q (TTried X.cls) := by
  intro f c' s H Q tl act hc h
  have hR : L2H.RoomH 1 (cxOf C8.CX0 Y.prog Y.w Y.K Y.mg Y.base Nl_tried "_law_tried" (defScope sl_tried) T.fl_tried cdg Y.A Y.stack s H C8.E0).nox.A := (L2H.roomH_of ((hr.deeper _).mono (by omega)))
  refine ⟨_, pss_one (ps_try_X (X := (cxOf C8.CX0 Y.prog Y.w Y.K Y.mg Y.base Nl_tried "_law_tried" (defScope sl_tried) T.fl_tried cdg Y.A Y.stack s H C8.E0).nox)
      (tb := fun W D σ H => ∃ Ech : XK, (∀ cls d σ' H', Ech cls d H' → W cls d σ' H') ∧ σ[0]? = some (some (.ref f)) ∧ H c' = some (LamX.CodeO c' q) ∧ tl Ech H (fun v H' => 2 ≤ sizeLine ∧ ∀ p, H' p = none → D.rt (.ref p) (upd H' p (.tup [.str "told", v]))))
      rfl rfl scl_tried.nd (fun W pn xe tk _ => ?_)
      (.cons (i := 1) (ts := fun _ _ _ _ _ _ => False) rfl rfl (.one ⟨by rfl, by decide, .inl X.gBadText⟩) (fun a oe cls d pn hz hf => ⟨fun _ _ _ _ _ _ z => z.elim⟩)
      (.cons (i := 1) (ts := fun _ _ _ _ _ _ => False) rfl rfl (.one ⟨by rfl, by decide, .inl X.gBadPage⟩) (fun a oe cls d pn hz hf => ⟨fun _ _ _ _ _ _ z => z.elim⟩)
      (.cons (i := 1) (ts := fun _ _ _ _ _ _ => False) rfl rfl (.one ⟨by rfl, by decide, .inl X.gStopped⟩) (fun a oe cls d pn hz hf => ⟨fun _ _ _ _ _ _ z => z.elim⟩)
      (.cons (i := 1) rfl rfl (.tup (.cons ⟨by rfl, by decide, .inl X.gN⟩ (.cons ⟨by rfl, by decide, .inl X.gT⟩ (.cons ⟨by rfl, by decide, .inl X.gNoPlan⟩ (.cons ⟨by rfl, by decide, .inl X.gNoLabel⟩ (.cons ⟨by rfl, by decide, .inl X.gTaken⟩ (.cons ⟨by rfl, by decide, .inl X.gRing⟩ (.cons ⟨by rfl, by decide, .inl X.gNotPlain⟩ (.cons ⟨by rfl, by decide, .inl X.gTangled⟩ (.cons ⟨by rfl, by decide, .inl X.gBreaks⟩ (.cons ⟨by rfl, by decide, .inl X.gInUse⟩ (.cons ⟨by rfl, by decide, .inl X.gUneven⟩ .nil))))))))))) (by show 11 ≤ sizeLine; decide))
        (fun a oe cls d pn hz hf => pss_one (ps_ret (pe_tup (pa_cons (pe_callX GC hR hz hf (by rfl) T.gl_class T.Fl_class.kp T.bl_class (pa_cons (pv 1) pa_nil)) (pa_cons (pe_xfA (K := Y.K) (n := "name") rfl List.mem_cons_self hz hf (pv 1)) pa_nil)))))
      (.cons (i := 1) rfl rfl (.one ⟨by rfl, by decide, .inl X.gR⟩)
        (fun a oe cls d pn hz hf => pss_one (ps_ret (pe_tup (pa_cons (pe_callX GC hR hz hf (by rfl) T.gl_class T.Fl_class.kp T.bl_class (pa_cons (pv 1) pa_nil)) (pa_cons pe_non pa_nil)))))
      .nil)))))), ?_⟩
  · refine ⟨fun pins s' σ H' D I h' => ?_⟩
    obtain ⟨Ech, hW, h1, h2, h3⟩ := h'
    exact PSs.run (X := ((cxOf C8.CX0 Y.prog Y.w Y.K Y.mg Y.base Nl_tried "_law_tried" (defScope sl_tried) T.fl_tried cdg Y.A Y.stack s H C8.E0).nox.tr pn xe)) (pss_one (ps_ret (pe_tup (pa_cons pe_str (pa_cons (act W pn xe Ech _ _ tk hW) pa_nil))))) pins s' σ H' D I ⟨h1, h2, h3⟩
  · refine ⟨eTried X.cls Q, fun cls d σ' H' hE => ?_, rfl, hc, ?_⟩
    · obtain ⟨r, rfl, dd, rfl, hdd, qd⟩ := hE
      cases r with
      | nam x =>
        refine ⟨false, exm_no X.xNBadText, (fun z => by cases z), fun _ => ⟨false, exm_no X.xNBadPage, (fun z => by cases z), fun _ => ⟨false, exm_no X.xNStopped, (fun z => by cases z), fun _ => ⟨true, exm11_N X, fun _ hlen a na => ?_, (fun z => by cases z)⟩⟩⟩⟩
        match σ', hlen with
        | [x0, x1], _ =>
          exact ⟨_, rfl, ⟨rfl, .nam x, rfl, dd, rfl, hdd, X.CN, X.xN.x, X.xN.n, _, rfl, rfl, rfl, dd, _, _, rfl, hdd, rfl, (by show 2 ≤ sizeLine; decide), fun p np => qd p np⟩⟩
      | two x =>
        refine ⟨false, exm_no X.xTBadText, (fun z => by cases z), fun _ => ⟨false, exm_no X.xTBadPage, (fun z => by cases z), fun _ => ⟨false, exm_no X.xTStopped, (fun z => by cases z), fun _ => ⟨true, exm11_T X, fun _ hlen a na => ?_, (fun z => by cases z)⟩⟩⟩⟩
        match σ', hlen with
        | [x0, x1], _ =>
          exact ⟨_, rfl, ⟨rfl, .two x, rfl, dd, rfl, hdd, X.CT, X.xT.x, X.xT.n, _, rfl, rfl, rfl, dd, _, _, rfl, hdd, rfl, (by show 2 ≤ sizeLine; decide), fun p np => qd p np⟩⟩
      | mis =>
        refine ⟨false, exm_no X.xMBadText, (fun z => by cases z), fun _ => ⟨false, exm_no X.xMBadPage, (fun z => by cases z), fun _ => ⟨false, exm_no X.xMStopped, (fun z => by cases z), fun _ => ⟨false, exm11_M X, (fun z => by cases z), fun _ => ⟨true, exm_yes X.yMR, fun _ hlen a na => ?_, (fun z => by cases z)⟩⟩⟩⟩⟩
        match σ', hlen with
        | [x0, x1], _ =>
          exact ⟨_, rfl, ⟨rfl, .mis, rfl, dd, rfl, hdd, (by show 2 ≤ sizeLine; decide), fun p np => qd p np⟩⟩
    · exact h
end
end K06

set_option Elab.async false
set_option linter.all false
set_option maxRecDepth 100000
set_option maxHeartbeats 4000000
namespace K06
open PySem PySem.Spec PyProof.Rows L2 OG
open C8 (pss_cut pe_gc)
open OGX

section
variable {P : Program} {w : World} {K : PySem.W.Frag} {mg : Str → Option Value} {base : Heap}
theorem exx_mk {K : PySem.W.Frag} {h : Heap} {mg : Str → Option Value} (X : K.In h) (G : h.Ns mainGlobals mg)
    {CN CT CM CF CR CMi fN fT fM fF fR TF TR : Addr}
    {N0N : Addr} {nmN qN : Str} {bsN bmN subN : List Value} {snN : List Str} {abN : Bool} {colN : Option Bool} {ddN : Option Addr} {m0N m1N m2N m3N m5N : Option Value}
    {N0T : Addr} {nmT qT : Str} {bsT bmT subT : List Value} {snT : List Str} {abT : Bool} {colT : Option Bool} {ddT : Option Addr} {m0T m1T m2T m3T m5T : Option Value}
    {N0M : Addr} {nmM qM : Str} {bsM bmM subM : List Value} {snM : List Str} {abM : Bool} {colM : Option Bool} {ddM : Option Addr} {m0M m1M m2M m3M m5M : Option Value}
    {ocN kVN dcN pmN cdN ctN : Value} {odN anN : Option Addr} {slN : Array (Option Value)}
    {ocT kVT dcT pmT cdT ctT : Value} {odT anT : Option Addr} {slT : Array (Option Value)}
    {ocM kVM dcM pmM cdM ctM : Value} {odM anM : Option Addr} {slM : Array (Option Value)}
    {ocF kVF dcF pmF cdF ctF : Value} {odF anF : Option Addr} {slF : Array (Option Value)}
    {ocR kVR dcR pmR cdR ctR : Value} {odR anR : Option Addr} {slR : Array (Option Value)}
    {dxF : Option Addr} {sxF : Array (Option Value)} {tk1F tk2F : Tok} {nnF : Nat}
    {dxR : Option Addr} {sxR : Array (Option Value)} {tk1R tk2R : Tok} {nnR : Nat}
    {CBadText : Addr}
    {CBadPage : Addr}
    {CStopped : Addr}
    {CNoPlan : Addr}
    {CNoLabel : Addr}
    {CTaken : Addr}
    {CRing : Addr}
    {CNotPlain : Addr}
    {CTangled : Addr}
    {CBreaks : Addr}
    {CInUse : Addr}
    {CUneven : Addr}
    (aN : PySem.W.nsIn K mainGlobals "NoName" = some (some (.ref CN)))
    (aT : PySem.W.nsIn K mainGlobals "Twice" = some (some (.ref CT)))
    (aM : PySem.W.nsIn K mainGlobals "Misplaced" = some (some (.ref CM)))
    (aF : PySem.W.nsIn K mainGlobals "Unfit" = some (some (.ref CF)))
    (aR : PySem.W.nsIn K mainGlobals "Refused" = some (some (.ref CR)))
    (aMi : PySem.W.nsIn K mainGlobals "Misread" = some (some (.ref CMi)))
    (oc : PySem.W.specialIn K (.builtin "object.__class__") "__get__" = some (some (.builtin "getset_descriptor.__get__")))
    (ot : PySem.W.takesIn K (.builtin "object.__class__") = some true)
    (xN : K.lookup CN = some (excClassObj nmN qN CN N0N bsN bmN true snN subN abN colN ddN m0N m1N m2N m3N m5N "ValueError.__new__"))
    (rN : PySem.HandSPX.refsVE bmN = true)
    (saN : PySem.W.findIn K (.ref CN) "__setattr__" = some (some (.builtin "object.__setattr__")))
    (eN : PySem.W.subIn K (.ref CN) (.type "BaseException") = some true)
    (tN : PySem.W.typeIn K (.ref CN) = some (.type "type"))
    (kN : PySem.W.keepIn K (.ref CN) = true)
    (gaN : PySem.W.findIn K (.ref CN) "__getattribute__" = some (some (.builtin "BaseException.__getattribute__")))
    (ggN : PySem.W.findIn K (.ref CN) "__getattr__" = some none)
    (hdN : PySem.W.hasDictIn K CN = true)
    (gcN : PySem.W.findIn K (.ref CN) "__class__" = some (some (.builtin "object.__class__")))
    (moN : PySem.W.mroIn K CN (.type "object") = some true)
    (wN : PySem.W.findIn K (.ref CN) "word" = some none)
    (nN : PySem.W.findIn K (.ref CN) "name" = some none)
    (iN : PySem.W.findIn K (.ref CN) "__init__" = some (some (.ref fN)))
    (tiN : PySem.W.typeIn K (.ref fN) = some (.type "function"))
    (kmN : PySem.W.kitOne K (.ref CN) (.ref CMi) = some false)
    (kf0N : PySem.W.kitOne K (.ref CN) (.ref CF) = some true)
    (kv0N : PySem.W.kitOne K (.ref CN) (.type "ValueError") = some true)
    (xT : K.lookup CT = some (excClassObj nmT qT CT N0T bsT bmT true snT subT abT colT ddT m0T m1T m2T m3T m5T "ValueError.__new__"))
    (rT : PySem.HandSPX.refsVE bmT = true)
    (saT : PySem.W.findIn K (.ref CT) "__setattr__" = some (some (.builtin "object.__setattr__")))
    (eT : PySem.W.subIn K (.ref CT) (.type "BaseException") = some true)
    (tT : PySem.W.typeIn K (.ref CT) = some (.type "type"))
    (kT : PySem.W.keepIn K (.ref CT) = true)
    (gaT : PySem.W.findIn K (.ref CT) "__getattribute__" = some (some (.builtin "BaseException.__getattribute__")))
    (ggT : PySem.W.findIn K (.ref CT) "__getattr__" = some none)
    (hdT : PySem.W.hasDictIn K CT = true)
    (gcT : PySem.W.findIn K (.ref CT) "__class__" = some (some (.builtin "object.__class__")))
    (moT : PySem.W.mroIn K CT (.type "object") = some true)
    (wT : PySem.W.findIn K (.ref CT) "word" = some none)
    (nT : PySem.W.findIn K (.ref CT) "name" = some none)
    (iT : PySem.W.findIn K (.ref CT) "__init__" = some (some (.ref fT)))
    (tiT : PySem.W.typeIn K (.ref fT) = some (.type "function"))
    (kmT : PySem.W.kitOne K (.ref CT) (.ref CMi) = some false)
    (kf0T : PySem.W.kitOne K (.ref CT) (.ref CF) = some true)
    (kv0T : PySem.W.kitOne K (.ref CT) (.type "ValueError") = some true)
    (xM : K.lookup CM = some (excClassObj nmM qM CM N0M bsM bmM true snM subM abM colM ddM m0M m1M m2M m3M m5M "ValueError.__new__"))
    (rM : PySem.HandSPX.refsVE bmM = true)
    (saM : PySem.W.findIn K (.ref CM) "__setattr__" = some (some (.builtin "object.__setattr__")))
    (eM : PySem.W.subIn K (.ref CM) (.type "BaseException") = some true)
    (tM : PySem.W.typeIn K (.ref CM) = some (.type "type"))
    (kM : PySem.W.keepIn K (.ref CM) = true)
    (gaM : PySem.W.findIn K (.ref CM) "__getattribute__" = some (some (.builtin "BaseException.__getattribute__")))
    (ggM : PySem.W.findIn K (.ref CM) "__getattr__" = some none)
    (hdM : PySem.W.hasDictIn K CM = true)
    (gcM : PySem.W.findIn K (.ref CM) "__class__" = some (some (.builtin "object.__class__")))
    (moM : PySem.W.mroIn K CM (.type "object") = some true)
    (wM : PySem.W.findIn K (.ref CM) "word" = some none)
    (nM : PySem.W.findIn K (.ref CM) "name" = some none)
    (iM : PySem.W.findIn K (.ref CM) "__init__" = some (some (.ref fM)))
    (tiM : PySem.W.typeIn K (.ref fM) = some (.type "function"))
    (kmM : PySem.W.kitOne K (.ref CM) (.ref CMi) = some false)
    (kf0M : PySem.W.kitOne K (.ref CM) (.ref CF) = some true)
    (kv0M : PySem.W.kitOne K (.ref CM) (.type "ValueError") = some true)
    (fcF : PySem.W.findCls K (.ref CF) (.type "type") "__init__" = some (.val (.ref fF)))
    (fcR : PySem.W.findCls K (.ref CR) (.type "type") "__init__" = some (.val (.ref fR)))
    (lN : K.lookup fN = some ⟨ocN, odN, .func (PySem.W.fnOf "__init__" "NoName.__init__" (defArgs sN) (defBody sN) (defScope sN) .none kVN dcN pmN anN cdN ctN), slN⟩)
    (cN : PySem.W.codeIn K cdN "NoName.__init__" = true)
    (kpN : PySem.W.keepIn K (.ref fN) = true)
    (lT : K.lookup fT = some ⟨ocT, odT, .func (PySem.W.fnOf "__init__" "Twice.__init__" (defArgs sT) (defBody sT) (defScope sT) .none kVT dcT pmT anT cdT ctT), slT⟩)
    (cT : PySem.W.codeIn K cdT "Twice.__init__" = true)
    (kpT : PySem.W.keepIn K (.ref fT) = true)
    (lM : K.lookup fM = some ⟨ocM, odM, .func (PySem.W.fnOf "__init__" "Misplaced.__init__" (defArgs sM) (defBody sM) (defScope sM) .none kVM dcM pmM anM cdM ctM), slM⟩)
    (cM : PySem.W.codeIn K cdM "Misplaced.__init__" = true)
    (kpM : PySem.W.keepIn K (.ref fM) = true)
    (lF : K.lookup fF = some ⟨ocF, odF, .func (PySem.W.fnOf "__init__" "Unfit.__init__" (defArgs sF) (defBody sF) (defScope sF) (.ref TF) kVF dcF pmF anF cdF ctF), slF⟩)
    (cF : PySem.W.codeIn K cdF "Unfit.__init__" = true)
    (kpF : PySem.W.keepIn K (.ref fF) = true)
    (lR : K.lookup fR = some ⟨ocR, odR, .func (PySem.W.fnOf "__init__" "Refused.__init__" (defArgs sR) (defBody sR) (defScope sR) (.ref TR) kVR dcR pmR anR cdR ctR), slR⟩)
    (cR : PySem.W.codeIn K cdR "Refused.__init__" = true)
    (kpR : PySem.W.keepIn K (.ref fR) = true)
    (dtF : K.lookup TF = some ⟨.type "tuple", dxF, .seq #[.str "Unfit" tk1F, .str "" tk2F] nnF, sxF⟩)
    (rdF : PySem.W.readsIn K CF (.type "type") = true)
    (sgF : PySem.W.specialIn K (.ref CF) "__getattribute__" = some (some (.builtin "type.__getattribute__")))
    (dtR : K.lookup TR = some ⟨.type "tuple", dxR, .seq #[.str "Refused" tk1R, .str "" tk2R] nnR, sxR⟩)
    (rdR : PySem.W.readsIn K CR (.type "type") = true)
    (sgR : PySem.W.specialIn K (.ref CR) "__getattribute__" = some (some (.builtin "type.__getattribute__")))
    (zV : PySem.W.nsIn K mainGlobals "ValueError" = some none)
    (ve : PySem.W.findCls K (.type "ValueError") (.type "type") "__init__" = some (.val (.builtin "ValueError.__init__")))
    (aBadText : PySem.W.nsIn K mainGlobals "BadText" = some (some (.ref CBadText)))
    (bBadText : PySem.W.subIn K (.ref CBadText) (.type "BaseException") = some true)
    (hBadText : PySem.W.hasDictIn K CBadText = true)
    (tBadText : PySem.W.typeIn K (.ref CBadText) = some (.type "type"))
    (sNBadText : PySem.W.subIn K (.ref CN) (.ref CBadText) = some false)
    (sTBadText : PySem.W.subIn K (.ref CT) (.ref CBadText) = some false)
    (sMBadText : PySem.W.subIn K (.ref CM) (.ref CBadText) = some false)
    (aBadPage : PySem.W.nsIn K mainGlobals "BadPage" = some (some (.ref CBadPage)))
    (bBadPage : PySem.W.subIn K (.ref CBadPage) (.type "BaseException") = some true)
    (hBadPage : PySem.W.hasDictIn K CBadPage = true)
    (tBadPage : PySem.W.typeIn K (.ref CBadPage) = some (.type "type"))
    (sNBadPage : PySem.W.subIn K (.ref CN) (.ref CBadPage) = some false)
    (sTBadPage : PySem.W.subIn K (.ref CT) (.ref CBadPage) = some false)
    (sMBadPage : PySem.W.subIn K (.ref CM) (.ref CBadPage) = some false)
    (aStopped : PySem.W.nsIn K mainGlobals "Stopped" = some (some (.ref CStopped)))
    (bStopped : PySem.W.subIn K (.ref CStopped) (.type "BaseException") = some true)
    (hStopped : PySem.W.hasDictIn K CStopped = true)
    (tStopped : PySem.W.typeIn K (.ref CStopped) = some (.type "type"))
    (sNStopped : PySem.W.subIn K (.ref CN) (.ref CStopped) = some false)
    (sTStopped : PySem.W.subIn K (.ref CT) (.ref CStopped) = some false)
    (sMStopped : PySem.W.subIn K (.ref CM) (.ref CStopped) = some false)
    (aNoPlan : PySem.W.nsIn K mainGlobals "NoPlan" = some (some (.ref CNoPlan)))
    (bNoPlan : PySem.W.subIn K (.ref CNoPlan) (.type "BaseException") = some true)
    (hNoPlan : PySem.W.hasDictIn K CNoPlan = true)
    (tNoPlan : PySem.W.typeIn K (.ref CNoPlan) = some (.type "type"))
    (sNNoPlan : PySem.W.subIn K (.ref CN) (.ref CNoPlan) = some false)
    (sTNoPlan : PySem.W.subIn K (.ref CT) (.ref CNoPlan) = some false)
    (sMNoPlan : PySem.W.subIn K (.ref CM) (.ref CNoPlan) = some false)
    (aNoLabel : PySem.W.nsIn K mainGlobals "NoLabel" = some (some (.ref CNoLabel)))
    (bNoLabel : PySem.W.subIn K (.ref CNoLabel) (.type "BaseException") = some true)
    (hNoLabel : PySem.W.hasDictIn K CNoLabel = true)
    (tNoLabel : PySem.W.typeIn K (.ref CNoLabel) = some (.type "type"))
    (sNNoLabel : PySem.W.subIn K (.ref CN) (.ref CNoLabel) = some false)
    (sTNoLabel : PySem.W.subIn K (.ref CT) (.ref CNoLabel) = some false)
    (sMNoLabel : PySem.W.subIn K (.ref CM) (.ref CNoLabel) = some false)
    (aTaken : PySem.W.nsIn K mainGlobals "Taken" = some (some (.ref CTaken)))
    (bTaken : PySem.W.subIn K (.ref CTaken) (.type "BaseException") = some true)
    (hTaken : PySem.W.hasDictIn K CTaken = true)
    (tTaken : PySem.W.typeIn K (.ref CTaken) = some (.type "type"))
    (sNTaken : PySem.W.subIn K (.ref CN) (.ref CTaken) = some false)
    (sTTaken : PySem.W.subIn K (.ref CT) (.ref CTaken) = some false)
    (sMTaken : PySem.W.subIn K (.ref CM) (.ref CTaken) = some false)
    (aRing : PySem.W.nsIn K mainGlobals "Ring" = some (some (.ref CRing)))
    (bRing : PySem.W.subIn K (.ref CRing) (.type "BaseException") = some true)
    (hRing : PySem.W.hasDictIn K CRing = true)
    (tRing : PySem.W.typeIn K (.ref CRing) = some (.type "type"))
    (sNRing : PySem.W.subIn K (.ref CN) (.ref CRing) = some false)
    (sTRing : PySem.W.subIn K (.ref CT) (.ref CRing) = some false)
    (sMRing : PySem.W.subIn K (.ref CM) (.ref CRing) = some false)
    (aNotPlain : PySem.W.nsIn K mainGlobals "NotPlain" = some (some (.ref CNotPlain)))
    (bNotPlain : PySem.W.subIn K (.ref CNotPlain) (.type "BaseException") = some true)
    (hNotPlain : PySem.W.hasDictIn K CNotPlain = true)
    (tNotPlain : PySem.W.typeIn K (.ref CNotPlain) = some (.type "type"))
    (sNNotPlain : PySem.W.subIn K (.ref CN) (.ref CNotPlain) = some false)
    (sTNotPlain : PySem.W.subIn K (.ref CT) (.ref CNotPlain) = some false)
    (sMNotPlain : PySem.W.subIn K (.ref CM) (.ref CNotPlain) = some false)
    (aTangled : PySem.W.nsIn K mainGlobals "Tangled" = some (some (.ref CTangled)))
    (bTangled : PySem.W.subIn K (.ref CTangled) (.type "BaseException") = some true)
    (hTangled : PySem.W.hasDictIn K CTangled = true)
    (tTangled : PySem.W.typeIn K (.ref CTangled) = some (.type "type"))
    (sNTangled : PySem.W.subIn K (.ref CN) (.ref CTangled) = some false)
    (sTTangled : PySem.W.subIn K (.ref CT) (.ref CTangled) = some false)
    (sMTangled : PySem.W.subIn K (.ref CM) (.ref CTangled) = some false)
    (aBreaks : PySem.W.nsIn K mainGlobals "Breaks" = some (some (.ref CBreaks)))
    (bBreaks : PySem.W.subIn K (.ref CBreaks) (.type "BaseException") = some true)
    (hBreaks : PySem.W.hasDictIn K CBreaks = true)
    (tBreaks : PySem.W.typeIn K (.ref CBreaks) = some (.type "type"))
    (sNBreaks : PySem.W.subIn K (.ref CN) (.ref CBreaks) = some false)
    (sTBreaks : PySem.W.subIn K (.ref CT) (.ref CBreaks) = some false)
    (sMBreaks : PySem.W.subIn K (.ref CM) (.ref CBreaks) = some false)
    (aInUse : PySem.W.nsIn K mainGlobals "InUse" = some (some (.ref CInUse)))
    (bInUse : PySem.W.subIn K (.ref CInUse) (.type "BaseException") = some true)
    (hInUse : PySem.W.hasDictIn K CInUse = true)
    (tInUse : PySem.W.typeIn K (.ref CInUse) = some (.type "type"))
    (sNInUse : PySem.W.subIn K (.ref CN) (.ref CInUse) = some false)
    (sTInUse : PySem.W.subIn K (.ref CT) (.ref CInUse) = some false)
    (sMInUse : PySem.W.subIn K (.ref CM) (.ref CInUse) = some false)
    (aUneven : PySem.W.nsIn K mainGlobals "Uneven" = some (some (.ref CUneven)))
    (bUneven : PySem.W.subIn K (.ref CUneven) (.type "BaseException") = some true)
    (hUneven : PySem.W.hasDictIn K CUneven = true)
    (tUneven : PySem.W.typeIn K (.ref CUneven) = some (.type "type"))
    (sNUneven : PySem.W.subIn K (.ref CN) (.ref CUneven) = some false)
    (sTUneven : PySem.W.subIn K (.ref CT) (.ref CUneven) = some false)
    (sMUneven : PySem.W.subIn K (.ref CM) (.ref CUneven) = some false)
    (uNN : PySem.W.subIn K (.ref CN) (.ref CN) = some true)
    (uNT : PySem.W.subIn K (.ref CN) (.ref CT) = some false)
    (uTN : PySem.W.subIn K (.ref CT) (.ref CN) = some false)
    (uTT : PySem.W.subIn K (.ref CT) (.ref CT) = some true)
    (uMN : PySem.W.subIn K (.ref CM) (.ref CN) = some false)
    (uMT : PySem.W.subIn K (.ref CM) (.ref CT) = some false)
    (uMR : PySem.W.subIn K (.ref CM) (.ref CR) = some true)
    (bR0 : PySem.W.subIn K (.ref CR) (.type "BaseException") = some true)
    (hR0 : PySem.W.hasDictIn K CR = true)
    (tR0 : PySem.W.typeIn K (.ref CR) = some (.type "type")) : Nonempty (Exx K mg) :=
  ⟨{ CN := CN, gN := PySem.W.mg_of X G aN, CT := CT, gT := PySem.W.mg_of X G aT, CM := CM, gM := PySem.W.mg_of X G aM, CF := CF, gF := PySem.W.mg_of X G aF, CR := CR, gR := PySem.W.mg_of X G aR, CMi := CMi, gMi := PySem.W.mg_of X G aMi, xN := ⟨⟨⟨_, _, _, _, _, _, _, _, _, _, _, _, _, _, _, xN, rN⟩, saN, eN, tN, kN⟩, wN, nN, ⟨gaN, ggN, eN, hdN⟩, ⟨gaN, ggN, eN, hdN, gcN, oc, ot, moN⟩, kmN, kf0N, kv0N⟩, fN := fN, dN := _, FN := ⟨⟨_, _, _, _, _, _, _, _, _, _, rfl, lN, cN, .inl ⟨rfl, rfl⟩, .inl rfl⟩, kpN⟩, iN := iN, tN := tiN, xT := ⟨⟨⟨_, _, _, _, _, _, _, _, _, _, _, _, _, _, _, xT, rT⟩, saT, eT, tT, kT⟩, wT, nT, ⟨gaT, ggT, eT, hdT⟩, ⟨gaT, ggT, eT, hdT, gcT, oc, ot, moT⟩, kmT, kf0T, kv0T⟩, fT := fT, dT := _, FT := ⟨⟨_, _, _, _, _, _, _, _, _, _, rfl, lT, cT, .inl ⟨rfl, rfl⟩, .inl rfl⟩, kpT⟩, iT := iT, tT := tiT, xM := ⟨⟨⟨_, _, _, _, _, _, _, _, _, _, _, _, _, _, _, xM, rM⟩, saM, eM, tM, kM⟩, wM, nM, ⟨gaM, ggM, eM, hdM⟩, ⟨gaM, ggM, eM, hdM, gcM, oc, ot, moM⟩, kmM, kf0M, kv0M⟩, fM := fM, dM := _, FM := ⟨⟨_, _, _, _, _, _, _, _, _, _, rfl, lM, cM, .inl ⟨rfl, rfl⟩, .inl rfl⟩, kpM⟩, iM := iM, tM := tiM, fF := fF, dF := _, FF := ⟨⟨_, _, _, _, _, _, _, _, _, _, rfl, lF, cF, .inr ⟨by simp, _, _, _, _, rfl, dtF, rfl, .cons ⟨_, rfl⟩ (.cons ⟨_, rfl⟩ .nil)⟩, .inl rfl⟩, kpF⟩, vF := fcF, cF := ⟨rdF, sgF⟩, fR := fR, dR := _, FR := ⟨⟨_, _, _, _, _, _, _, _, _, _, rfl, lR, cR, .inr ⟨by simp, _, _, _, _, rfl, dtR, rfl, .cons ⟨_, rfl⟩ (.cons ⟨_, rfl⟩ .nil)⟩, .inl rfl⟩, kpR⟩, vR := fcR, cR := ⟨rdR, sgR⟩, mV := PySem.W.mg_none_of X G zV, vV := ve, CBadText := CBadText, gBadText := PySem.W.mg_of X G aBadText, xNBadText := PySem.W.exm_ref bBadText hBadText tBadText sNBadText, xTBadText := PySem.W.exm_ref bBadText hBadText tBadText sTBadText, xMBadText := PySem.W.exm_ref bBadText hBadText tBadText sMBadText, CBadPage := CBadPage, gBadPage := PySem.W.mg_of X G aBadPage, xNBadPage := PySem.W.exm_ref bBadPage hBadPage tBadPage sNBadPage, xTBadPage := PySem.W.exm_ref bBadPage hBadPage tBadPage sTBadPage, xMBadPage := PySem.W.exm_ref bBadPage hBadPage tBadPage sMBadPage, CStopped := CStopped, gStopped := PySem.W.mg_of X G aStopped, xNStopped := PySem.W.exm_ref bStopped hStopped tStopped sNStopped, xTStopped := PySem.W.exm_ref bStopped hStopped tStopped sTStopped, xMStopped := PySem.W.exm_ref bStopped hStopped tStopped sMStopped, CNoPlan := CNoPlan, gNoPlan := PySem.W.mg_of X G aNoPlan, xNNoPlan := PySem.W.exm_ref bNoPlan hNoPlan tNoPlan sNNoPlan, xTNoPlan := PySem.W.exm_ref bNoPlan hNoPlan tNoPlan sTNoPlan, xMNoPlan := PySem.W.exm_ref bNoPlan hNoPlan tNoPlan sMNoPlan, CNoLabel := CNoLabel, gNoLabel := PySem.W.mg_of X G aNoLabel, xNNoLabel := PySem.W.exm_ref bNoLabel hNoLabel tNoLabel sNNoLabel, xTNoLabel := PySem.W.exm_ref bNoLabel hNoLabel tNoLabel sTNoLabel, xMNoLabel := PySem.W.exm_ref bNoLabel hNoLabel tNoLabel sMNoLabel, CTaken := CTaken, gTaken := PySem.W.mg_of X G aTaken, xNTaken := PySem.W.exm_ref bTaken hTaken tTaken sNTaken, xTTaken := PySem.W.exm_ref bTaken hTaken tTaken sTTaken, xMTaken := PySem.W.exm_ref bTaken hTaken tTaken sMTaken, CRing := CRing, gRing := PySem.W.mg_of X G aRing, xNRing := PySem.W.exm_ref bRing hRing tRing sNRing, xTRing := PySem.W.exm_ref bRing hRing tRing sTRing, xMRing := PySem.W.exm_ref bRing hRing tRing sMRing, CNotPlain := CNotPlain, gNotPlain := PySem.W.mg_of X G aNotPlain, xNNotPlain := PySem.W.exm_ref bNotPlain hNotPlain tNotPlain sNNotPlain, xTNotPlain := PySem.W.exm_ref bNotPlain hNotPlain tNotPlain sTNotPlain, xMNotPlain := PySem.W.exm_ref bNotPlain hNotPlain tNotPlain sMNotPlain, CTangled := CTangled, gTangled := PySem.W.mg_of X G aTangled, xNTangled := PySem.W.exm_ref bTangled hTangled tTangled sNTangled, xTTangled := PySem.W.exm_ref bTangled hTangled tTangled sTTangled, xMTangled := PySem.W.exm_ref bTangled hTangled tTangled sMTangled, CBreaks := CBreaks, gBreaks := PySem.W.mg_of X G aBreaks, xNBreaks := PySem.W.exm_ref bBreaks hBreaks tBreaks sNBreaks, xTBreaks := PySem.W.exm_ref bBreaks hBreaks tBreaks sTBreaks, xMBreaks := PySem.W.exm_ref bBreaks hBreaks tBreaks sMBreaks, CInUse := CInUse, gInUse := PySem.W.mg_of X G aInUse, xNInUse := PySem.W.exm_ref bInUse hInUse tInUse sNInUse, xTInUse := PySem.W.exm_ref bInUse hInUse tInUse sTInUse, xMInUse := PySem.W.exm_ref bInUse hInUse tInUse sMInUse, CUneven := CUneven, gUneven := PySem.W.mg_of X G aUneven, xNUneven := PySem.W.exm_ref bUneven hUneven tUneven sNUneven, xTUneven := PySem.W.exm_ref bUneven hUneven tUneven sTUneven, xMUneven := PySem.W.exm_ref bUneven hUneven tUneven sMUneven, yNN := PySem.W.exm_ref eN hdN tN uNN, yNT := PySem.W.exm_ref eT hdT tT uNT, yTN := PySem.W.exm_ref eN hdN tN uTN, yTT := PySem.W.exm_ref eT hdT tT uTT, yMN := PySem.W.exm_ref eN hdN tN uMN, yMT := PySem.W.exm_ref eT hdT tT uMT, yMR := PySem.W.exm_ref bR0 hR0 tR0 uMR }⟩
theorem codeHd_of {K : PySem.W.Frag} {h : Heap} (X : K.In h) {c P : Addr} {dd : Option Addr} {vs : Array Value} {sl : Array (Option Value)} (l : K.lookup c = some ⟨.type "code", dd, .fields vs, sl⟩) (h11 : vs[11]? = some (.ref P)) (g11 : vs.getD 11 .none = .ref P)
    {fl : Str} {tf tg tt : Tok} {flags tx : Int} {inF : Bool} (h18 : vs.getD 18 .none = .str fl tf) (h7 : vs.getD 7 .none = .int flags tg) (h9 : vs.getD 9 .none = .bool inF) (h10 : vs.getD 10 .none = .int tx tt) (ne : c ≠ P) : PySem.W.CodeHd h c P :=
  ⟨_, vs, fl, tf, flags, tg, inF, tx, tt, X _ _ l, rfl, rfl, h11, g11, h18, h7, h9, h10, ne⟩
end
end K06

set_option Elab.async false
set_option linter.all false
set_option maxRecDepth 100000
set_option maxHeartbeats 4000000
namespace K06
open PySem PySem.Spec PyProof.Rows L2 OG
open C8 (pss_cut pe_gc)
open OGX

section
variable {P : Program} {w : World} {K : PySem.W.Frag} {mg : Str → Option Value} {base : Heap}
def lamQ : Str := (envOfC "law" (defScope slaw) 0 0 .none).qual ++ "<lambda>"
def spLawT (K : PySem.W.Frag) (PL : Addr) : Sp := fun vs H Q _ => ∃ (a : Addr) (ns : List Int), vs = [.ref a] ∧ SqL K H a (ns.map V.int) ∧ ns.length ≤ 63 ∧ H PL = some (.tbl #[]) ∧ ∀ H', Q (.bl true) H'
def Kp (d : Addr) (H H' : Hp) : Prop := ∀ b o, b ≠ d → H b = some o → H' b = some o
theorem Kp.trans {d : Addr} {H H1 H2 : Hp} (a : Kp d H H1) (b : Kp d H1 H2) : Kp d H H2 := fun x o n h => b x o n (a x o n h)
theorem Kp.same {d : Addr} {H H' : Hp} (a : Same H H') : Kp d H H' := fun x o _ h => a x o h
theorem Kp.but {d : Addr} {H H' : Hp} (a : But d H H') : Kp d H H' := fun x o n h => (a x n).trans h
theorem Kp.go {d : Addr} {H H' : Hp} (a : Go (· = d) H H') : Kp d H H' := fun x o n h => a.at h n
theorem tabs_kp {T : List (Addr × Str)} {d L : Addr} {H H' : Hp} (hD : Dr H d L) (t : LamX.Tabs T H) (k : Kp d H H') : LamX.Tabs T H' := fun p hp => by
  obtain ⟨ps, h1, h2, h3⟩ := t p hp
  obtain ⟨ns, i, r, s, hd, _⟩ := hD
  refine ⟨ps, k _ _ (fun z => by rw [z, hd] at h1; cases h1) h1, h2, fun pos cv hc => ?_⟩
  obtain ⟨c, e1, e2⟩ := h3 pos cv hc
  exact ⟨c, e1, k _ _ (fun z => by rw [z, hd] at e2; unfold LamX.CodeO at e2; cases e2) e2⟩
theorem dr_ext {H H1 : Hp} (e : LamX.ExtN H H1) {d L : Addr} (h : Dr H d L) : Dr H1 d L := by
  obtain ⟨ns, i, r, s, hd, hL, q⟩ := h
  exact ⟨ns, i, r, s, e _ _ hd (fun ps z => by cases z), e _ _ hL (fun ps z => by cases z), q⟩
theorem imm_ext {H H1 : Hp} (e : LamX.ExtN H H1) : Imm H H1 := fun b xs hb => e b _ hb (fun ps z => by cases z)
theorem out_tried {c : Rf → Addr} {o : Option Rf} {H : Hp} {R A : VK} (hA : ∀ v H', (2 ≤ sizeLine ∧ ∀ p, H' p = none → R (.ref p) (upd H' p (.tup [.str "told", v]))) → A v H') (h : ∀ u H', Same H H' → Rp H' u (encL o) → R u H') : Out c o H A (eTried c R) := by
  cases o with
  | none => exact fun H' s => hA _ _ ⟨by decide, fun p np => h _ _ (s.trans (same_new np)) (rp_tup upd_same (rpl_cons rfl (rpl_cons rfl rpl_nil)))⟩
  | some r =>
    refine fun dd H' s nd hdd => ⟨r, rfl, dd, rfl, hdd, fun p np => h _ _ (s.trans (same_new np)) ?_⟩
    cases r with
    | nam x => exact rp_tup upd_same (rpl_cons rfl (rpl_cons rfl rpl_nil))
    | two x => exact rp_tup upd_same (rpl_cons rfl (rpl_cons rfl rpl_nil))
    | mis => exact rp_tup upd_same (rpl_cons rfl (rpl_cons rfl rpl_nil))
structure Mid (H : Hp) (d L : Addr) (T : List (Addr × Str)) (v : V) (ts : List Thing) : Prop where
  rp : Rp H v (.tup (encs ts))
  sh : ShB 4 ts
  dr : Dr H d L
  tab : LamX.Tabs T H
theorem Mid.same {H H' : Hp} {d L : Addr} {T : List (Addr × Str)} {v : V} {ts : List Thing} (h : Mid H d L T v ts) (s : Same H H') : Mid H' d L T v ts :=
  ⟨h.rp.to (Imm.same s), h.sh, h.dr.same s, h.tab.ext fun b o e => s b o e⟩
theorem Mid.go {H H' : Hp} {d L : Addr} {T : List (Addr × Str)} {v : V} {ts : List Thing} (h : Mid H d L T v ts) (hD : Dr H' d L) (g : Go (· = d) H H') : Mid H' d L T v ts :=
  ⟨h.rp.to g.im, h.sh, hD, tabs_kp h.dr h.tab (Kp.go g)⟩
theorem ok_lawT (T : Tops w K mg) (X : Exx K mg) {cL PL : Addr} (hcode : T.dlaw.code = .ref cL) (TB : LamX.TabB base mg cL PL) : FnOk P w K mg base C8.CX0 50 T.flaw T.dlaw ["_law_script"] (spLawT K PL) := by
  have Gl_begin : FnOk P w K mg base CX0 1 T.fl_begin T.dl_begin ["_law_script"] (spBegin K) := ok_begin T
  have Gl_take : FnOk P w K mg base CX0 1 T.fl_take T.dl_take ["_law_draw", "_law_sides"] spTake := ok_take T
  have Gl_pick : FnOk P w K mg base CX0 2 T.fl_pick T.dl_pick ["_law_draw", "_law_row"] (spPick K) := ok_pick T
  have Gl_fresh : FnOk P w K mg base CX0 3 T.fl_fresh T.dl_fresh ["_law_draw", "_law_taken"] spFresh := ok_fresh T
  have Gl_drawn : FnOk P w K mg base CX0 15 T.fl_drawn T.dl_drawn ["_law_draw", "_law_room", "_law_figures", "_law_wide"] spDrawn := ok_drawn T
  have Gl_same : FnOk P w K mg base CX0 21 T.fl_same T.dl_same ["_law_found", "_law_due"] (spSame 20) := ok_same T 20
  have Gl_every : FnOk P w K mg base CX0 6 T.fl_every T.dl_every ["_law_plan"] (spEvery 4) := ok_l_everys T 4
  have Gl_unfit : FnOk P w K mg base CX0 13 T.fl_unfit T.dl_unfit ["_law_draw", "_law_plan", "_law_names"] (spUnBody 4) := ok_unfit T 4
  have Gl_looking : FnOk P w K mg base CX0 7 T.fl_looking T.dl_looking ["_law_plan"] (spLooking 4) := ok_looking T
  have Glook_plan : FnOk P w K mg base (L2.CX P w) 20 T.flook_plan T.dlook_plan ["plan"] (spLkPlan X.cls 4) := ok_look_plan T X
  have GC : FnX P w K mg base 1 T.fl_class T.dl_class ["_law_e"] (spClass X.cls) := ok_class T X
  obtain ⟨ocT, odT, kVT, docT, pmT, anT, cdT, ctT, oslT, eT, lkT, hcdT⟩ := T.Fl_tried.ex
  have hbT := T.bl_tried
  rw [eT] at lkT hbT
  obtain ⟨oc, od, kV, doc, pm, an, cdv, ct, osl, e, lk, hcd⟩ := T.Flaw.ex
  rw [e] at lk hcode ⊢
  have ec : cdv = .ref cL := hcode
  subst ec
  refine fn_of (k := 49) lk hcd sclaw (fun vs H Q E h => ?_) (fun A outer s H vs Q E hr h => ?_)
  · obtain ⟨a, ns, rfl, _⟩ := h
    rfl
  obtain ⟨a, ns, rfl, hS, hlen, hPL, q⟩ := h
  suffices hh : ∃ t, PSs (cxOf C8.CX0 P w K mg base Nlaw "law" (defScope slaw) T.flaw (.ref cL) A outer s H E).nox (defBody slaw) t ∧ t { nx := fun _ H' => Q .non H', rt := Q } (L2.start Nlaw [.ref a]) H by
    obtain ⟨t, ht, hq⟩ := hh
    exact ⟨t, ht.nox, hq⟩
  refine ⟨_, (pss_cons (ps_set (i := 1) sclaw.nd rfl (Or.inl rfl) (pe_call Gl_begin (hr.mono (by omega)) (by rfl) T.gl_begin T.Fl_begin.kp T.bl_begin .nil pass0 (pa_cons (pv 0) pa_nil)))
 (pss_cons (ps_for PassesOwn.never rfl (pi_range1 (by rfl) T.mrange (pa_cons pe_int pa_nil)) (pg_name (i := 2) sclaw.nd rfl (Or.inl rfl))
  (pss_cons (ps_set (i := 3) sclaw.nd rfl (Or.inr rfl) (pe_call Gl_drawn (hr.mono (by omega)) (by rfl) T.gl_drawn T.Fl_drawn.kp T.bl_drawn .nil pass0 (pa_cons (pv 1) (pa_cons pe_int (pa_cons pe_bl (pa_cons pe_bl pa_nil))))))
 (pss_cons (ps_set (i := 4) sclaw.nd rfl (Or.inl rfl) (pe_op op_cat (pe_lst (pa_cons pe_str (pa_cons pe_str (pa_cons (pe_call Gl_fresh (hr.mono (by omega)) (by rfl) T.gl_fresh T.Fl_fresh.kp T.bl_fresh .nil pass0 (pa_cons (pv 1) (pa_cons (pe_lst pa_nil) pa_nil))) pa_nil)))) (pe_lc (own := [("_law_thing", 7)]) rfl sclaw.nd (pi_list (pe_call Gl_every (hr.mono (by omega)) (by rfl) T.gl_every T.Fl_every.kp T.bl_every .nil pass0 (pa_cons (pv 3) pa_nil))) (blkOk_by (N := Nlaw) (sc := defScope slaw) (by decide +kernel)) (fun _ _ _ _ _ => (pg_name (i := 7) sclaw.nd rfl (Or.inl rfl))) (fun _ _ _ _ _ => (pts_one (pt_cmpR op_eq (pe_ix (ix_tupK (K := K) rfl) (pv 7) pe_int (fun _ _ => rfl)) pe_str (nomark _)))) (fun _ _ _ _ _ => (pe_ix (ix_tupK (K := K) rfl) (pv 7) pe_int (fun _ _ => rfl))))))
 (pss_cons (ps_for PassesOwn.never rfl (pi_range1 (by rfl) T.mrange (pa_cons (pe_call Gl_take (hr.mono (by omega)) (by rfl) T.gl_take T.Fl_take.kp T.bl_take .nil pass0 (pa_cons (pv 1) (pa_cons pe_int pa_nil))) pa_nil)) (pg_name (i := 5) sclaw.nd rfl (Or.inl rfl))
  (pss_one (ps_set (i := 3) sclaw.nd rfl (Or.inr rfl) (pe_call Gl_unfit (hr.mono (by omega)) (by rfl) T.gl_unfit T.Fl_unfit.kp T.bl_unfit .nil pass0 (pa_cons (pv 1) (pa_cons (pv 3) (pa_cons (pv 4) pa_nil)))))))
 (pss_cut (ps_if (pt_cmpR op_eq (pe_call Gl_take (hr.mono (by omega)) (by rfl) T.gl_take T.Fl_take.kp T.bl_take .nil pass0 (pa_cons (pv 1) (pa_cons pe_int pa_nil))) pe_int (nomark _))
  (pss_cons (ps_set (i := 6) sclaw.nd rfl (Or.inl rfl) (pe_call Gl_take (hr.mono (by omega)) (by rfl) T.gl_take T.Fl_take.kp T.bl_take .nil pass0 (pa_cons (pv 1) (pa_cons (pe_op op_add (pe_callB call_len_seq (by rfl) T.mlen PySem.boot_len (pa_cons (pv 3) pa_nil)) pe_int) pa_nil))))
 (pss_one (ps_set (i := 3) sclaw.nd rfl (Or.inr rfl) (pe_op op_catA (pe_op op_catA (pe_slice sl_tupA (pv 3) po_none (po_some (pv 6))) (pe_tup (pa_cons (pe_tup (pa_cons pe_str (pa_cons (pe_op op_add pe_int (pe_call Gl_take (hr.mono (by omega)) (by rfl) T.gl_take T.Fl_take.kp T.bl_take .nil pass0 (pa_cons (pv 1) (pa_cons pe_int pa_nil)))) (pa_cons (pe_call Gl_pick (hr.mono (by omega)) (by rfl) T.gl_pick T.Fl_pick.kp T.bl_pick .nil pass0 (pa_cons (pv 1) (pa_cons (pe_lst (pa_cons pe_str (pa_cons pe_str pa_nil))) pa_nil))) pa_nil)))) pa_nil))) (pe_slice sl_tupA (pv 3) (po_some (pv 6)) po_none)))))
  pss_nil)
 (pss_one (ps_if (pt_not (pt_val (pe_call Gl_same (hr.mono (by omega)) (by rfl) T.gl_same T.Fl_same.kp T.bl_same .nil pass0 (pa_cons (LamX.pe_lamcall (k := 24) (T := [(PL, lamQ)]) (TT := TTried X.cls) (by rfl) T.gl_tried T.Fl_tried.kp lkT hcdT hbT scl_tried rfl (Or.inl rfl) (tried_gives (Y := (cxOf C8.CX0 P w K mg base Nlaw "law" (defScope slaw) T.flaw (.ref cL) A outer s H E).nox) (k := 24) T X GC (hr.mono (by omega))) TB rfl List.mem_cons_self (fun p hp _ => by rw [List.mem_singleton.mp hp]; rfl) (hr.mono (by omega)) (LamX.lamS_by (sc := defScope slaw) (by rfl)) rfl (fun _ _ _ _ _ => rfl) (fun A1 o1 s1 H1 E1 f1 c1 hr1 => pe_call Glook_plan (hr1.mono (by omega)) (by rfl) T.glook_plan T.Flook_plan.kp T.blook_plan .nil (passes_call (takes_of rfl rfl rfl rfl) (fun _ _ _ _ h => h)) (pa_cons (pv 3) pa_nil))) (pa_cons (pe_call Gl_looking (hr.mono (by omega)) (by rfl) T.gl_looking T.Fl_looking.kp T.bl_looking .nil pass0 (pa_cons (pv 3) pa_nil)) pa_nil)))))
  (pss_one (ps_ret pe_bl))
  pss_nil)))))))
 (pss_one (ps_ret pe_bl)))), ?_⟩
  refine ⟨_, rfl, a, ns, rfl, hS, fun d L H1 sm nd nL hD => ?_⟩
  have hT1 : LamX.Tabs [(PL, lamQ)] H1 := fun p hp => by
    rw [List.mem_singleton.mp hp]
    exact LamX.TabS.nil (sm _ _ hPL)
  refine ⟨8, rfl, by decide, by decide, ?_⟩
  refine for_range (n := 8) (fun i σ H' => (∃ x2 x3 x4 x5 x6 x7, σ = [some (.ref a), some (.ref d), x2, x3, x4, x5, x6, x7]) ∧ Dr H' d L ∧ LamX.Tabs [(PL, lamQ)] H') ⟨⟨_, _, _, _, _, _, rfl⟩, hD, hT1⟩ (fun i σ H2 hi hP => ?_) (fun σ H2 hP => ?_)
  · obtain ⟨⟨x2, x3, x4, x5, x6, x7, rfl⟩, hD2, hT2⟩ := hP
    refine ⟨_, rfl, d, L, 11, true, true, rfl, hD2, by decide, by decide, fun v ts H3 hts hR hT hc hD3 G3 => ?_⟩
    have M3 : Mid H3 d L [(PL, lamQ)] v ts := ⟨hR, shs_of ts _ _ hT scOk_n, hD3, tabs_kp hD2 hT2 (Kp.go G3)⟩
    -- names
    refine ⟨_, rfl, Nat.zero_le _, fun e0 ne0 => ?_⟩
    have s30 := same_new (o := .lst []) ne0
    refine ⟨d, L, e0, [], rfl, hD3.same s30, upd_same, (hD3.neNew ne0).1, by decide, fun x H4 hx _ hD4 G4 => ?_⟩
    have M4 := (M3.same s30).go hD4 G4
    refine ⟨(by show 3 ≤ sizeLine; decide), fun l1 nl1 => ?_⟩
    have s5 := same_new (o := .lst [.str "n", .str "n", .str x]) nl1
    have M5 := M4.same s5
    refine ⟨_, rfl, v, ts, C0, False, ["n"], rfl, M5.rp, hT, by omega, fun B us H6 s6 nB hB hRB => ?_⟩
    have M6 := M5.same s6
    refine ⟨B, rfl, ⟨_, SqL.of hB⟩, fun Dn nD => ?_⟩
    have lu := hRB.length
    rw [encs_length, everyB_len] at lu
    refine lc_list (xs := us) (fun j H' => Same H6 H' ∧ ∃ zs : List Str, H' Dn = some (.lst (zs.map V.str)) ∧ (∀ z ∈ zs, nameB z = true) ∧ zs.length ≤ j) ⟨same_new nD, [], upd_same, (fun z hz => by cases hz), Nat.le_refl _⟩ (fun j H' _ hP => SqL.of (hP.1 _ _ hB)) (fun j y H' hy hP => ?_) (fun H' hP => ?_)
    · obtain ⟨sm', zs, hDn, hzs, hzl⟩ := hP
      obtain ⟨t, ht, hRt⟩ := rpl_things hRB hy
      have hj : j < us.length := (List.getElem?_eq_some_iff.mp hy).1
      obtain ⟨a1, y1, u1, rfl, ha1, hy1⟩ := rp_two (hRt.to (Imm.same sm'))
      refine ⟨rfl, ?_⟩
      refine ⟨_, rfl, a1, _, 0, _, rfl, rfl, SqT.of ha1, atI_nat (j := 0) rfl, rfl, _, rfl, ite2 (fun c => ?_) (fun c => ?_)⟩
      · obtain ⟨z, e1, e2, b, rfl⟩ := kind_for (V.str.inj (of_decide_eq_true c))
        obtain rfl := hy1 z e1 e2 b rfl
        have hz : nameB z = true := things_names ts _ _ hT _ (List.mem_of_getElem? ht)
        refine ⟨_, rfl, a1, _, 1, _, rfl, rfl, SqT.of ha1, atI_nat (j := 1) rfl, _, hDn, szl (by rw [List.length_map]; omega), Same.upd_new sm' nD, zs ++ [z], ?_, fun w hw => ?_, by rw [List.length_append]; show zs.length + 1 ≤ j + 1; omega⟩
        · rw [upd_same, List.map_append]
          rfl
        · rcases List.mem_append.mp hw with h1 | h1
          · exact hzs w h1
          · rw [List.mem_singleton.mp h1]
            exact hz
      · exact ⟨sm', zs, hDn, hzs, by omega⟩
    obtain ⟨s7, zs, hDn, hzs, hzl⟩ := hP
    have M7 := M6.same s7
    have hl1 : H' l1 = some (.lst [.str "n", .str "n", .str x]) := (s6.trans s7) _ _ upd_same
    refine ⟨l1, Dn, _, _, rfl, rfl, hl1, hDn, ?_, fun nm nnm => ?_⟩
    · rw [List.length_map]
      show 3 + zs.length ≤ sizeLine
      exact sz (by omega)
    have s8 := same_new (o := .lst ([V.str "n", .str "n", .str x] ++ zs.map V.str)) nnm
    have M8 := M7.same s8
    have nmd := (M7.dr.neNew nnm).1
    have hN8 : NmsAt (upd H' nm (.lst ([V.str "n", .str "n", .str x] ++ zs.map V.str))) nm ((["n", "n", x] : List Str) ++ zs) := by
      refine ⟨by rw [upd_same, List.map_append]; rfl, ?_, ?_, fun w hw => ?_, fun w hw => ?_⟩
      · rw [List.length_append]
        show 3 ≤ 3 + zs.length
        omega
      · rw [List.length_append]
        show 3 + zs.length < 1000
        omega
      · rcases List.mem_append.mp hw with h1 | h1
        · rcases List.mem_cons.mp h1 with rfl | h1
          · exact .inl rfl
          rcases List.mem_cons.mp h1 with rfl | h1
          · exact .inl rfl
          rw [List.mem_singleton.mp h1]
          exact .inr hx
        · exact .inr (hzs w h1)
      · have hw2 : w ∈ [x] ++ zs := hw
        rcases List.mem_append.mp hw2 with h1 | h1
        · rw [List.mem_singleton.mp h1]
          exact hx
        · exact hzs w h1
    -- made unfit
    refine ⟨_, rfl, d, L, 3, rfl, M8.dr, by decide, by decide, fun g H9 g0 g3 hD9 hB9 => ?_⟩
    have G9 : Go (· = d) (upd H' nm (.lst ([V.str "n", .str "n", .str x] ++ zs.map V.str))) H9 := Go.but M8.dr hB9 rfl
    refine ⟨g, rfl, by omega, by omega, ?_⟩
    refine for_range (n := g.toNat) (fun i σ H' => ∃ v ts, (∃ x2 x5 x6 x7, σ = [some (.ref a), some (.ref d), x2, some v, some (.ref nm), x5, x6, x7]) ∧ Mid H' d L [(PL, lamQ)] v ts ∧ cntB ts ≤ 11 ∧ NmsAt H' nm ((["n", "n", x] : List Str) ++ zs)) ⟨v, ts, ⟨_, _, _, _, rfl⟩, M8.go hD9 G9, hc, hN8.go G9 nmd⟩ (fun j σ H10 hj hP => ?_) (fun σ H10 hP => ?_)
    · obtain ⟨v, ts, ⟨x2, x5, x6, x7, rfl⟩, M10, hc10, hN10⟩ := hP
      refine ⟨_, rfl, _, rfl, _, rfl, d, L, nm, v, ts, _, rfl, M10.dr, M10.rp, M10.sh, by omega, hN10, nmd, fun v' ts' H11 hR11 hS11 hc11 hD11 G11 => ?_⟩
      exact ⟨v', ts', ⟨_, _, _, _, rfl⟩, ⟨hR11, hS11, hD11, tabs_kp M10.dr M10.tab (Kp.go G11)⟩, by omega, hN10.go G11 nmd⟩
    obtain ⟨v, ts, ⟨x2, x5, x6, x7, rfl⟩, M10, hc10, hN10⟩ := hP
    -- an again
    refine ⟨fun σ' H' => ∃ v ts x2 x4 x5 x6 x7, σ' = [some (.ref a), some (.ref d), x2, some v, x4, x5, x6, x7] ∧ Mid H' d L [(PL, lamQ)] v ts, ?_, ?_⟩
    · refine ⟨_, rfl, d, L, 3, rfl, M10.dr, by decide, by decide, fun t1 H11 _ _ hD11 hB11 => ?_⟩
      have M11 := M10.go hD11 (Go.but M10.dr hB11 rfl)
      refine ⟨rfl, _, rfl, ite2 (fun c => ?_) (fun c => ?_)⟩
      · obtain ⟨av, vv, rfl, hav, hvv⟩ := id M11.rp
        have lv := hvv.length
        rw [encs_length] at lv
        have lc := cnt_len ts
        refine ⟨_, rfl, _, rfl, av, _, rfl, .inr (SqT.of hav), _, 1, rfl, rfl, d, L, ((vv.length : Int) + 1), rfl, M11.dr, by omega, by omega, fun k H12 k0 k1 hD12 hB12 => ?_⟩
        have M12 := M11.go hD12 (Go.but M11.dr hB12 rfl)
        obtain ⟨kn, rfl⟩ : ∃ kn : Nat, k = kn := ⟨k.toNat, by omega⟩
        refine ⟨_, rfl, _, rfl, _, rfl, ?_⟩
        refine sl_rp (K := K) (lo := none) (hi := some (kn : Int)) M12.rp fun w1 H13 s13 hw1 => ?_
        rw [cutD_to, encs_take] at hw1
        have M13 := M12.same s13
        refine ⟨_, rfl, d, L, 3, rfl, M13.dr, by decide, by decide, fun g2 H14 _ _ hD14 hB14 => ?_⟩
        have G14 : Go (· = d) H13 H14 := Go.but M13.dr hB14 rfl
        have M14 := M13.go hD14 G14
        refine ⟨1, g2, rfl, rfl, _, rfl, (by show 2 ≤ sizeLine; decide), fun l nl => ?_⟩
        have s15 := same_new (o := .lst [.str "halves", .str "less"]) nl
        have M15 := M14.same s15
        refine ⟨d, L, _, 2, rfl, M15.dr, by decide, by decide, .inr ⟨l, _, rfl, (M14.dr.neNew nl).1, SqL.of upd_same, rfl, fun y H16 hy hD16 hB16 => ?_⟩⟩
        obtain ⟨z, rfl, hz⟩ := mem_strs (ns := ["halves", "less"]) hy
        have G16 : Go (· = d) (upd H14 l (.lst [.str "halves", .str "less"])) H16 := Go.but M15.dr hB16 rfl
        have M16 := M15.go hD16 G16
        refine ⟨(by show 3 ≤ sizeLine; decide), fun p1 np1 => ⟨(by show 1 ≤ sizeLine; decide), fun p2 np2 => ?_⟩⟩
        have s17 := same_new (o := .tup [.str "again", .int (1 + g2), .str z]) np1
        have s18 := same_new (o := .tup [.ref p1]) np2
        have M18 := M16.same (s17.trans s18)
        have hp2 : Rp (upd (upd H16 p1 (.tup [.str "again", .int (1 + g2), .str z])) p2 (.tup [.ref p1])) (.ref p2) (.tup (encs [.again (1 + g2) z])) := rp_tup upd_same (rpl_cons (rp_tup (s18 _ _ upd_same) (rpl_cons rfl (rpl_cons rfl (rpl_cons rfl rpl_nil)))) rpl_nil)
        refine cat_rp ((((hw1.to G14.im).to (Imm.same s15)).to G16.im).to (Imm.same (s17.trans s18))) hp2 ?_ fun w2 H19 s19 hw2 => ?_
        · rw [encs_length, encs_length, List.length_take]
          show _ + 1 ≤ 100000
          omega
        have M19 := M18.same s19
        refine ⟨_, rfl, _, rfl, _, rfl, ?_⟩
        dsimp only [tNoPart]
        refine sl_rp (K := K) (lo := some (kn : Int)) (hi := none) M19.rp fun w3 H20 s20 hw3 => ?_
        rw [cutD_from, encs_drop] at hw3
        have M20 := M19.same s20
        refine cat_rp (hw2.to (Imm.same s20)) hw3 ?_ fun w4 H21 s21 hw4 => ?_
        · rw [List.length_append, encs_length, encs_length, encs_length, List.length_take, List.length_drop]
          show _ + 1 + _ ≤ 100000
          omega
        have M21 := M20.same s21
        refine ⟨w4, (ts.take kn ++ [.again (1 + g2) z]) ++ ts.drop kn, _, _, _, _, _, rfl, ?_, shb_append (shb_append (shb_take M10.sh kn) (show ShB 4 [Thing.again (1 + g2) z] from ⟨trivial, trivial⟩)) (shb_drop M10.sh kn), M21.dr, M21.tab⟩
        rw [encs_append, encs_append]
        exact hw4
      · exact ⟨v, ts, _, _, _, _, _, rfl, M11⟩
    rintro σ' H11 ⟨v, ts, x2, x4, x5, x6, x7, rfl, M11⟩
    refine ⟨M11.tab, fun H12 eN T12 => ?_⟩
    have M12 : Mid H12 d L [(PL, lamQ)] v ts := ⟨M11.rp.to (imm_ext eN), M11.sh, dr_ext eN M11.dr, T12⟩
    refine ⟨_, rfl, v, ts, rfl, M12.rp, M12.sh, by decide, out_tried (fun _ _ h => h) fun u H13 s13 hu => ?_⟩
    have M13 := M12.same s13
    refine ⟨_, rfl, v, ts, rfl, M13.rp, M13.sh, by decide, fun u2 H14 s14 hu2 => ?_⟩
    have hf := enc_fitL (lookP 0 ts)
    refine ⟨u, u2, rfl, eq2_of 20 _ _ _ (hu.to (Imm.same s14)) hu2 hf.1 hf.2, fun H15 s15 => ?_⟩
    have M15 := (M13.same s14).same s15
    exact ⟨true, rfl, iteF ⟨⟨_, _, _, _, _, _, rfl⟩, M15.dr, M15.tab⟩⟩
  · exact q H2
theorem lawAt {K : PySem.W.Frag} {h : Heap} {w : World} (T : Tops w K mg) (X : Exx K mg) {c Pt : Addr} (hcode : T.dlaw.code = .ref c) (hhd : PySem.W.CodeHd h c Pt) (hP : h.get? Pt = some { cls := .none, data := .fields #[] }) (nP : K.lookup Pt = none) : LamX.LawAtS PySem.Challenge.rw_outgrow_k06_plans_that_do_not_fit w K C8.CX0 50 63 "_law_script" mg T.flaw h :=
  ⟨T.dlaw, [(c, Pt)], spLawT K Pt, fun p hp => by rw [List.mem_singleton.mp hp]; exact hP, fun p hp => by rw [List.mem_singleton.mp hp]; exact nP, fun p hp => by rw [List.mem_singleton.mp hp]; exact hhd, T.blaw,
    fun H a ns hl _ hT hS => ⟨a, ns, rfl, hS, hl, hT (c, Pt) List.mem_cons_self, fun _ => rfl⟩, fun base _ _ tb => ok_lawT T X hcode (tb (c, Pt) List.mem_cons_self)⟩
end
end K06

set_option Elab.async false
set_option linter.all false
set_option maxRecDepth 100000
set_option maxHeartbeats 4000000
namespace K06
open PySem PySem.Spec PyProof.Rows L2 OG
theorem all_mk {w : World} {K : PySem.W.Frag} {h : Heap} {mg : Str → Option Value} {fa : Addr} (X : K.In h) (G : h.Ns mainGlobals mg) (hfa : mg "law" = some (.ref fa))
    {f1 : Addr} {od1 an1 : Option Addr} {sl1 : Array (Option Value)} {oc1 kV1 dc1 pm1 cd1 ct1 : Value}
    {f2 : Addr} {od2 an2 : Option Addr} {sl2 : Array (Option Value)} {oc2 kV2 dc2 pm2 cd2 ct2 : Value}
    {f3 : Addr} {od3 an3 : Option Addr} {sl3 : Array (Option Value)} {oc3 kV3 dc3 pm3 cd3 ct3 : Value}
    {f4 : Addr} {od4 an4 : Option Addr} {sl4 : Array (Option Value)} {oc4 kV4 dc4 pm4 cd4 ct4 : Value}
    {f5 : Addr} {od5 an5 : Option Addr} {sl5 : Array (Option Value)} {oc5 kV5 dc5 pm5 cd5 ct5 : Value}
    {f6 : Addr} {od6 an6 : Option Addr} {sl6 : Array (Option Value)} {oc6 kV6 dc6 pm6 cd6 ct6 : Value}
    {f7 : Addr} {od7 an7 : Option Addr} {sl7 : Array (Option Value)} {oc7 kV7 dc7 pm7 cd7 ct7 : Value}
    {f8 : Addr} {od8 an8 : Option Addr} {sl8 : Array (Option Value)} {oc8 kV8 dc8 pm8 cd8 ct8 : Value}
    {f9 : Addr} {od9 an9 : Option Addr} {sl9 : Array (Option Value)} {oc9 kV9 dc9 pm9 cd9 ct9 : Value}
    {f10 : Addr} {od10 an10 : Option Addr} {sl10 : Array (Option Value)} {oc10 kV10 dc10 pm10 cd10 ct10 : Value}
    {f11 : Addr} {od11 an11 : Option Addr} {sl11 : Array (Option Value)} {oc11 kV11 dc11 pm11 cd11 ct11 : Value}
    {f12 : Addr} {od12 an12 : Option Addr} {sl12 : Array (Option Value)} {oc12 kV12 dc12 pm12 cd12 ct12 : Value}
    {f13 : Addr} {od13 an13 : Option Addr} {sl13 : Array (Option Value)} {oc13 kV13 dc13 pm13 cd13 ct13 : Value}
    {f14 : Addr} {od14 an14 : Option Addr} {sl14 : Array (Option Value)} {oc14 kV14 dc14 pm14 cd14 ct14 : Value}
    {f15 : Addr} {od15 an15 : Option Addr} {sl15 : Array (Option Value)} {oc15 kV15 dc15 pm15 cd15 ct15 : Value}
    {f16 : Addr} {od16 an16 : Option Addr} {sl16 : Array (Option Value)} {oc16 kV16 dc16 pm16 cd16 ct16 : Value}
    {f17 : Addr} {od17 an17 : Option Addr} {sl17 : Array (Option Value)} {oc17 kV17 dc17 pm17 cd17 ct17 : Value}
    {f18 : Addr} {od18 an18 : Option Addr} {sl18 : Array (Option Value)} {oc18 kV18 dc18 pm18 cd18 ct18 : Value}
    {f19 : Addr} {od19 an19 : Option Addr} {sl19 : Array (Option Value)} {oc19 kV19 dc19 pm19 cd19 ct19 : Value}
    {f20 : Addr} {od20 an20 : Option Addr} {sl20 : Array (Option Value)} {oc20 kV20 dc20 pm20 cd20 ct20 : Value}
    {f21 : Addr} {od21 an21 : Option Addr} {sl21 : Array (Option Value)} {oc21 kV21 dc21 pm21 cd21 ct21 : Value}
    {f22 : Addr} {od22 an22 : Option Addr} {sl22 : Array (Option Value)} {oc22 kV22 dc22 pm22 cd22 ct22 : Value}
    {f23 : Addr} {od23 an23 : Option Addr} {sl23 : Array (Option Value)} {oc23 kV23 dc23 pm23 cd23 ct23 : Value}
    {f24 : Addr} {od24 an24 : Option Addr} {sl24 : Array (Option Value)} {oc24 kV24 dc24 pm24 cd24 ct24 : Value}
    {f25 : Addr} {od25 an25 : Option Addr} {sl25 : Array (Option Value)} {oc25 kV25 dc25 pm25 cd25 ct25 : Value}
    {f26 : Addr} {od26 an26 : Option Addr} {sl26 : Array (Option Value)} {oc26 kV26 dc26 pm26 cd26 ct26 : Value}
    {f27 : Addr} {od27 an27 : Option Addr} {sl27 : Array (Option Value)} {oc27 kV27 dc27 pm27 cd27 ct27 : Value}
    {f28 : Addr} {od28 an28 : Option Addr} {sl28 : Array (Option Value)} {oc28 kV28 dc28 pm28 cd28 ct28 : Value}
    {f29 : Addr} {od29 an29 : Option Addr} {sl29 : Array (Option Value)} {oc29 kV29 dc29 pm29 cd29 ct29 : Value}
    {f30 : Addr} {od30 an30 : Option Addr} {sl30 : Array (Option Value)} {oc30 kV30 dc30 pm30 cd30 ct30 : Value}
    {f31 : Addr} {od31 an31 : Option Addr} {sl31 : Array (Option Value)} {oc31 kV31 dc31 pm31 cd31 ct31 : Value}
    (a1 : PySem.W.nsIn K mainGlobals "look_plan" = some (some (.ref f1))) (l1 : K.lookup f1 = some ⟨oc1, od1, .func (PySem.W.fnOf "look_plan" "look_plan" (defArgs slook_plan) (defBody slook_plan) (defScope slook_plan) .none kV1 dc1 pm1 an1 cd1 ct1), sl1⟩) (c1 : PySem.W.codeIn K cd1 "look_plan" = true) (k1 : PySem.W.keepIn K (.ref f1) = true)
    (a2 : PySem.W.nsIn K mainGlobals "look_again" = some (some (.ref f2))) (l2 : K.lookup f2 = some ⟨oc2, od2, .func (PySem.W.fnOf "look_again" "look_again" (defArgs slook_again) (defBody slook_again) (defScope slook_again) .none kV2 dc2 pm2 an2 cd2 ct2), sl2⟩) (c2 : PySem.W.codeIn K cd2 "look_again" = true) (k2 : PySem.W.keepIn K (.ref f2) = true)
    (a3 : PySem.W.nsIn K mainGlobals "look_body" = some (some (.ref f3))) (l3 : K.lookup f3 = some ⟨oc3, od3, .func (PySem.W.fnOf "look_body" "look_body" (defArgs slook_body) (defBody slook_body) (defScope slook_body) .none kV3 dc3 pm3 an3 cd3 ct3), sl3⟩) (c3 : PySem.W.codeIn K cd3 "look_body" = true) (k3 : PySem.W.keepIn K (.ref f3) = true)
    (a4 : PySem.W.nsIn K mainGlobals "look_thing" = some (some (.ref f4))) (l4 : K.lookup f4 = some ⟨oc4, od4, .func (PySem.W.fnOf "look_thing" "look_thing" (defArgs slook_thing) (defBody slook_thing) (defScope slook_thing) .none kV4 dc4 pm4 an4 cd4 ct4), sl4⟩) (c4 : PySem.W.codeIn K cd4 "look_thing" = true) (k4 : PySem.W.keepIn K (.ref f4) = true)
    (a5 : PySem.W.nsIn K mainGlobals "look_end" = some (some (.ref f5))) (l5 : K.lookup f5 = some ⟨oc5, od5, .func (PySem.W.fnOf "look_end" "look_end" (defArgs slook_end) (defBody slook_end) (defScope slook_end) .none kV5 dc5 pm5 an5 cd5 ct5), sl5⟩) (c5 : PySem.W.codeIn K cd5 "look_end" = true) (k5 : PySem.W.keepIn K (.ref f5) = true)
    (a6 : PySem.W.nsIn K mainGlobals "look_step" = some (some (.ref f6))) (l6 : K.lookup f6 = some ⟨oc6, od6, .func (PySem.W.fnOf "look_step" "look_step" (defArgs slook_step) (defBody slook_step) (defScope slook_step) .none kV6 dc6 pm6 an6 cd6 ct6), sl6⟩) (c6 : PySem.W.codeIn K cd6 "look_step" = true) (k6 : PySem.W.keepIn K (.ref f6) = true)
    (a7 : PySem.W.nsIn K mainGlobals "look_for" = some (some (.ref f7))) (l7 : K.lookup f7 = some ⟨oc7, od7, .func (PySem.W.fnOf "look_for" "look_for" (defArgs slook_for) (defBody slook_for) (defScope slook_for) .none kV7 dc7 pm7 an7 cd7 ct7), sl7⟩) (c7 : PySem.W.codeIn K cd7 "look_for" = true) (k7 : PySem.W.keepIn K (.ref f7) = true)
    (a8 : PySem.W.nsIn K mainGlobals "look_if" = some (some (.ref f8))) (l8 : K.lookup f8 = some ⟨oc8, od8, .func (PySem.W.fnOf "look_if" "look_if" (defArgs slook_if) (defBody slook_if) (defScope slook_if) .none kV8 dc8 pm8 an8 cd8 ct8), sl8⟩) (c8 : PySem.W.codeIn K cd8 "look_if" = true) (k8 : PySem.W.keepIn K (.ref f8) = true)
    (a9 : PySem.W.nsIn K mainGlobals "look_double" = some (some (.ref f9))) (l9 : K.lookup f9 = some ⟨oc9, od9, .func (PySem.W.fnOf "look_double" "look_double" (defArgs slook_double) (defBody slook_double) (defScope slook_double) .none kV9 dc9 pm9 an9 cd9 ct9), sl9⟩) (c9 : PySem.W.codeIn K cd9 "look_double" = true) (k9 : PySem.W.keepIn K (.ref f9) = true)
    (a10 : PySem.W.nsIn K mainGlobals "look_call" = some (some (.ref f10))) (l10 : K.lookup f10 = some ⟨oc10, od10, .func (PySem.W.fnOf "look_call" "look_call" (defArgs slook_call) (defBody slook_call) (defScope slook_call) .none kV10 dc10 pm10 an10 cd10 ct10), sl10⟩) (c10 : PySem.W.codeIn K cd10 "look_call" = true) (k10 : PySem.W.keepIn K (.ref f10) = true)
    (a11 : PySem.W.nsIn K mainGlobals "refuse_again" = some (some (.ref f11))) (l11 : K.lookup f11 = some ⟨oc11, od11, .func (PySem.W.fnOf "refuse_again" "refuse_again" (defArgs srefuse_again) (defBody srefuse_again) (defScope srefuse_again) .none kV11 dc11 pm11 an11 cd11 ct11), sl11⟩) (c11 : PySem.W.codeIn K cd11 "refuse_again" = true) (k11 : PySem.W.keepIn K (.ref f11) = true)
    (a12 : PySem.W.nsIn K mainGlobals "_law_begin" = some (some (.ref f12))) (l12 : K.lookup f12 = some ⟨oc12, od12, .func (PySem.W.fnOf "_law_begin" "_law_begin" (defArgs sl_begin) (defBody sl_begin) (defScope sl_begin) .none kV12 dc12 pm12 an12 cd12 ct12), sl12⟩) (c12 : PySem.W.codeIn K cd12 "_law_begin" = true) (k12 : PySem.W.keepIn K (.ref f12) = true)
    (a13 : PySem.W.nsIn K mainGlobals "_law_take" = some (some (.ref f13))) (l13 : K.lookup f13 = some ⟨oc13, od13, .func (PySem.W.fnOf "_law_take" "_law_take" (defArgs sl_take) (defBody sl_take) (defScope sl_take) .none kV13 dc13 pm13 an13 cd13 ct13), sl13⟩) (c13 : PySem.W.codeIn K cd13 "_law_take" = true) (k13 : PySem.W.keepIn K (.ref f13) = true)
    (a14 : PySem.W.nsIn K mainGlobals "_law_pick" = some (some (.ref f14))) (l14 : K.lookup f14 = some ⟨oc14, od14, .func (PySem.W.fnOf "_law_pick" "_law_pick" (defArgs sl_pick) (defBody sl_pick) (defScope sl_pick) .none kV14 dc14 pm14 an14 cd14 ct14), sl14⟩) (c14 : PySem.W.codeIn K cd14 "_law_pick" = true) (k14 : PySem.W.keepIn K (.ref f14) = true)
    (a15 : PySem.W.nsIn K mainGlobals "_law_some_end" = some (some (.ref f15))) (l15 : K.lookup f15 = some ⟨oc15, od15, .func (PySem.W.fnOf "_law_some_end" "_law_some_end" (defArgs sl_some_end) (defBody sl_some_end) (defScope sl_some_end) .none kV15 dc15 pm15 an15 cd15 ct15), sl15⟩) (c15 : PySem.W.codeIn K cd15 "_law_some_end" = true) (k15 : PySem.W.keepIn K (.ref f15) = true)
    (a16 : PySem.W.nsIn K mainGlobals "_law_leaf" = some (some (.ref f16))) (l16 : K.lookup f16 = some ⟨oc16, od16, .func (PySem.W.fnOf "_law_leaf" "_law_leaf" (defArgs sl_leaf) (defBody sl_leaf) (defScope sl_leaf) .none kV16 dc16 pm16 an16 cd16 ct16), sl16⟩) (c16 : PySem.W.codeIn K cd16 "_law_leaf" = true) (k16 : PySem.W.keepIn K (.ref f16) = true)
    (a17 : PySem.W.nsIn K mainGlobals "_law_kept_words" = some (some (.ref f17))) (l17 : K.lookup f17 = some ⟨oc17, od17, .func (PySem.W.fnOf "_law_kept_words" "_law_kept_words" (defArgs sl_kept_words) (defBody sl_kept_words) (defScope sl_kept_words) .none kV17 dc17 pm17 an17 cd17 ct17), sl17⟩) (c17 : PySem.W.codeIn K cd17 "_law_kept_words" = true) (k17 : PySem.W.keepIn K (.ref f17) = true)
    (a18 : PySem.W.nsIn K mainGlobals "_law_fresh" = some (some (.ref f18))) (l18 : K.lookup f18 = some ⟨oc18, od18, .func (PySem.W.fnOf "_law_fresh" "_law_fresh" (defArgs sl_fresh) (defBody sl_fresh) (defScope sl_fresh) .none kV18 dc18 pm18 an18 cd18 ct18), sl18⟩) (c18 : PySem.W.codeIn K cd18 "_law_fresh" = true) (k18 : PySem.W.keepIn K (.ref f18) = true)
    (a19 : PySem.W.nsIn K mainGlobals "_law_drawn_thing" = some (some (.ref f19))) (l19 : K.lookup f19 = some ⟨oc19, od19, .func (PySem.W.fnOf "_law_drawn_thing" "_law_drawn_thing" (defArgs sl_drawn_thing) (defBody sl_drawn_thing) (defScope sl_drawn_thing) .none kV19 dc19 pm19 an19 cd19 ct19), sl19⟩) (c19 : PySem.W.codeIn K cd19 "_law_drawn_thing" = true) (k19 : PySem.W.keepIn K (.ref f19) = true)
    (a20 : PySem.W.nsIn K mainGlobals "_law_drawn_body" = some (some (.ref f20))) (l20 : K.lookup f20 = some ⟨oc20, od20, .func (PySem.W.fnOf "_law_drawn_body" "_law_drawn_body" (defArgs sl_drawn_body) (defBody sl_drawn_body) (defScope sl_drawn_body) .none kV20 dc20 pm20 an20 cd20 ct20), sl20⟩) (c20 : PySem.W.codeIn K cd20 "_law_drawn_body" = true) (k20 : PySem.W.keepIn K (.ref f20) = true)
    (a21 : PySem.W.nsIn K mainGlobals "_law_drawn" = some (some (.ref f21))) (l21 : K.lookup f21 = some ⟨oc21, od21, .func (PySem.W.fnOf "_law_drawn" "_law_drawn" (defArgs sl_drawn) (defBody sl_drawn) (defScope sl_drawn) .none kV21 dc21 pm21 an21 cd21 ct21), sl21⟩) (c21 : PySem.W.codeIn K cd21 "_law_drawn" = true) (k21 : PySem.W.keepIn K (.ref f21) = true)
    (a22 : PySem.W.nsIn K mainGlobals "_law_bodies" = some (some (.ref f22))) (l22 : K.lookup f22 = some ⟨oc22, od22, .func (PySem.W.fnOf "_law_bodies" "_law_bodies" (defArgs sl_bodies) (defBody sl_bodies) (defScope sl_bodies) .none kV22 dc22 pm22 an22 cd22 ct22), sl22⟩) (c22 : PySem.W.codeIn K cd22 "_law_bodies" = true) (k22 : PySem.W.keepIn K (.ref f22) = true)
    (a23 : PySem.W.nsIn K mainGlobals "_law_every" = some (some (.ref f23))) (l23 : K.lookup f23 = some ⟨oc23, od23, .func (PySem.W.fnOf "_law_every" "_law_every" (defArgs sl_every) (defBody sl_every) (defScope sl_every) .none kV23 dc23 pm23 an23 cd23 ct23), sl23⟩) (c23 : PySem.W.codeIn K cd23 "_law_every" = true) (k23 : PySem.W.keepIn K (.ref f23) = true)
    (a24 : PySem.W.nsIn K mainGlobals "_law_unfit_thing" = some (some (.ref f24))) (l24 : K.lookup f24 = some ⟨oc24, od24, .func (PySem.W.fnOf "_law_unfit_thing" "_law_unfit_thing" (defArgs sl_unfit_thing) (defBody sl_unfit_thing) (defScope sl_unfit_thing) .none kV24 dc24 pm24 an24 cd24 ct24), sl24⟩) (c24 : PySem.W.codeIn K cd24 "_law_unfit_thing" = true) (k24 : PySem.W.keepIn K (.ref f24) = true)
    (a25 : PySem.W.nsIn K mainGlobals "_law_unfit" = some (some (.ref f25))) (l25 : K.lookup f25 = some ⟨oc25, od25, .func (PySem.W.fnOf "_law_unfit" "_law_unfit" (defArgs sl_unfit) (defBody sl_unfit) (defScope sl_unfit) .none kV25 dc25 pm25 an25 cd25 ct25), sl25⟩) (c25 : PySem.W.codeIn K cd25 "_law_unfit" = true) (k25 : PySem.W.keepIn K (.ref f25) = true)
    (a26 : PySem.W.nsIn K mainGlobals "_law_same" = some (some (.ref f26))) (l26 : K.lookup f26 = some ⟨oc26, od26, .func (PySem.W.fnOf "_law_same" "_law_same" (defArgs sl_same) (defBody sl_same) (defScope sl_same) .none kV26 dc26 pm26 an26 cd26 ct26), sl26⟩) (c26 : PySem.W.codeIn K cd26 "_law_same" = true) (k26 : PySem.W.keepIn K (.ref f26) = true)
    (a27 : PySem.W.nsIn K mainGlobals "_law_class" = some (some (.ref f27))) (l27 : K.lookup f27 = some ⟨oc27, od27, .func (PySem.W.fnOf "_law_class" "_law_class" (defArgs sl_class) (defBody sl_class) (defScope sl_class) .none kV27 dc27 pm27 an27 cd27 ct27), sl27⟩) (c27 : PySem.W.codeIn K cd27 "_law_class" = true) (k27 : PySem.W.keepIn K (.ref f27) = true)
    (a28 : PySem.W.nsIn K mainGlobals "_law_tried" = some (some (.ref f28))) (l28 : K.lookup f28 = some ⟨oc28, od28, .func (PySem.W.fnOf "_law_tried" "_law_tried" (defArgs sl_tried) (defBody sl_tried) (defScope sl_tried) .none kV28 dc28 pm28 an28 cd28 ct28), sl28⟩) (c28 : PySem.W.codeIn K cd28 "_law_tried" = true) (k28 : PySem.W.keepIn K (.ref f28) = true)
    (a29 : PySem.W.nsIn K mainGlobals "_law_look_thing" = some (some (.ref f29))) (l29 : K.lookup f29 = some ⟨oc29, od29, .func (PySem.W.fnOf "_law_look_thing" "_law_look_thing" (defArgs sl_look_thing) (defBody sl_look_thing) (defScope sl_look_thing) .none kV29 dc29 pm29 an29 cd29 ct29), sl29⟩) (c29 : PySem.W.codeIn K cd29 "_law_look_thing" = true) (k29 : PySem.W.keepIn K (.ref f29) = true)
    (a30 : PySem.W.nsIn K mainGlobals "_law_looking" = some (some (.ref f30))) (l30 : K.lookup f30 = some ⟨oc30, od30, .func (PySem.W.fnOf "_law_looking" "_law_looking" (defArgs sl_looking) (defBody sl_looking) (defScope sl_looking) .none kV30 dc30 pm30 an30 cd30 ct30), sl30⟩) (c30 : PySem.W.codeIn K cd30 "_law_looking" = true) (k30 : PySem.W.keepIn K (.ref f30) = true)
    (a31 : PySem.W.nsIn K mainGlobals "law" = some (some (.ref f31))) (l31 : K.lookup f31 = some ⟨oc31, od31, .func (PySem.W.fnOf "law" "law" (defArgs slaw) (defBody slaw) (defScope slaw) .none kV31 dc31 pm31 an31 cd31 ct31), sl31⟩) (c31 : PySem.W.codeIn K cd31 "law" = true) (k31 : PySem.W.keepIn K (.ref f31) = true)
    (z1 : PySem.W.nsIn K mainGlobals "abs" = some none)
    (z2 : PySem.W.nsIn K mainGlobals "all" = some none)
    (z3 : PySem.W.nsIn K mainGlobals "bool" = some none)
    (z4 : PySem.W.nsIn K mainGlobals "int" = some none)
    (z5 : PySem.W.nsIn K mainGlobals "isinstance" = some none)
    (z6 : PySem.W.nsIn K mainGlobals "len" = some none)
    (z7 : PySem.W.nsIn K mainGlobals "list" = some none)
    (z8 : PySem.W.nsIn K mainGlobals "range" = some none)
    (z9 : PySem.W.nsIn K mainGlobals "sorted" = some none)
    (z10 : PySem.W.nsIn K mainGlobals "str" = some none)
    (z11 : PySem.W.nsIn K mainGlobals "tuple" = some none)
    (z12 : PySem.W.nsIn K mainGlobals "zip" = some none)
    {da1 : Addr} {de1 : Array DictEntry} {dn1 : Nat} (dv1 : PySem.W.nsIn K mainGlobals "LOOKS" = some (some (.ref da1))) (dl1 : K.lookup da1 = some ⟨.type "dict", none, .dict de1 dn1, #[]⟩) (dk1 : PySem.W.KeysLit w.params de1.toList) (dw1 : (da1 == sysModules) = false)
    (dx1_0 : PySem.W.nsIn K da1 "step" = some (some (.ref f6)))
    (dx1_1 : PySem.W.nsIn K da1 "for" = some (some (.ref f7)))
    (dx1_2 : PySem.W.nsIn K da1 "if" = some (some (.ref f8)))
    (dx1_3 : PySem.W.nsIn K da1 "double" = some (some (.ref f9)))
    (dx1_4 : PySem.W.nsIn K da1 "call" = some (some (.ref f10)))
    (dx1_5 : PySem.W.nsIn K da1 "again" = some (some (.ref f11))) :
    ∃ T : Tops w K mg, T.flaw = fa := by
  have e := hfa.symm.trans (PySem.W.mg_of X G a31)
  refine ⟨{ flook_plan := f1, dlook_plan := _, Flook_plan := (fun_mk (st := slook_plan) l1 c1 k1), glook_plan := (PySem.W.mg_of X G a1), flook_again := f2, dlook_again := _, Flook_again := (fun_mk (st := slook_again) l2 c2 k2), glook_again := (PySem.W.mg_of X G a2), flook_body := f3, dlook_body := _, Flook_body := (fun_mk (st := slook_body) l3 c3 k3), glook_body := (PySem.W.mg_of X G a3), flook_thing := f4, dlook_thing := _, Flook_thing := (fun_mk (st := slook_thing) l4 c4 k4), glook_thing := (PySem.W.mg_of X G a4), flook_end := f5, dlook_end := _, Flook_end := (fun_mk (st := slook_end) l5 c5 k5), glook_end := (PySem.W.mg_of X G a5), flook_step := f6, dlook_step := _, Flook_step := (fun_mk (st := slook_step) l6 c6 k6), glook_step := (PySem.W.mg_of X G a6), flook_for := f7, dlook_for := _, Flook_for := (fun_mk (st := slook_for) l7 c7 k7), glook_for := (PySem.W.mg_of X G a7), flook_if := f8, dlook_if := _, Flook_if := (fun_mk (st := slook_if) l8 c8 k8), glook_if := (PySem.W.mg_of X G a8), flook_double := f9, dlook_double := _, Flook_double := (fun_mk (st := slook_double) l9 c9 k9), glook_double := (PySem.W.mg_of X G a9), flook_call := f10, dlook_call := _, Flook_call := (fun_mk (st := slook_call) l10 c10 k10), glook_call := (PySem.W.mg_of X G a10), frefuse_again := f11, drefuse_again := _, Frefuse_again := (fun_mk (st := srefuse_again) l11 c11 k11), grefuse_again := (PySem.W.mg_of X G a11), fl_begin := f12, dl_begin := _, Fl_begin := (fun_mk (st := sl_begin) l12 c12 k12), gl_begin := (PySem.W.mg_of X G a12), fl_take := f13, dl_take := _, Fl_take := (fun_mk (st := sl_take) l13 c13 k13), gl_take := (PySem.W.mg_of X G a13), fl_pick := f14, dl_pick := _, Fl_pick := (fun_mk (st := sl_pick) l14 c14 k14), gl_pick := (PySem.W.mg_of X G a14), fl_some_end := f15, dl_some_end := _, Fl_some_end := (fun_mk (st := sl_some_end) l15 c15 k15), gl_some_end := (PySem.W.mg_of X G a15), fl_leaf := f16, dl_leaf := _, Fl_leaf := (fun_mk (st := sl_leaf) l16 c16 k16), gl_leaf := (PySem.W.mg_of X G a16), fl_kept_words := f17, dl_kept_words := _, Fl_kept_words := (fun_mk (st := sl_kept_words) l17 c17 k17), gl_kept_words := (PySem.W.mg_of X G a17), fl_fresh := f18, dl_fresh := _, Fl_fresh := (fun_mk (st := sl_fresh) l18 c18 k18), gl_fresh := (PySem.W.mg_of X G a18), fl_drawn_thing := f19, dl_drawn_thing := _, Fl_drawn_thing := (fun_mk (st := sl_drawn_thing) l19 c19 k19), gl_drawn_thing := (PySem.W.mg_of X G a19), fl_drawn_body := f20, dl_drawn_body := _, Fl_drawn_body := (fun_mk (st := sl_drawn_body) l20 c20 k20), gl_drawn_body := (PySem.W.mg_of X G a20), fl_drawn := f21, dl_drawn := _, Fl_drawn := (fun_mk (st := sl_drawn) l21 c21 k21), gl_drawn := (PySem.W.mg_of X G a21), fl_bodies := f22, dl_bodies := _, Fl_bodies := (fun_mk (st := sl_bodies) l22 c22 k22), gl_bodies := (PySem.W.mg_of X G a22), fl_every := f23, dl_every := _, Fl_every := (fun_mk (st := sl_every) l23 c23 k23), gl_every := (PySem.W.mg_of X G a23), fl_unfit_thing := f24, dl_unfit_thing := _, Fl_unfit_thing := (fun_mk (st := sl_unfit_thing) l24 c24 k24), gl_unfit_thing := (PySem.W.mg_of X G a24), fl_unfit := f25, dl_unfit := _, Fl_unfit := (fun_mk (st := sl_unfit) l25 c25 k25), gl_unfit := (PySem.W.mg_of X G a25), fl_same := f26, dl_same := _, Fl_same := (fun_mk (st := sl_same) l26 c26 k26), gl_same := (PySem.W.mg_of X G a26), fl_class := f27, dl_class := _, Fl_class := (fun_mk (st := sl_class) l27 c27 k27), gl_class := (PySem.W.mg_of X G a27), fl_tried := f28, dl_tried := _, Fl_tried := (fun_mk (st := sl_tried) l28 c28 k28), gl_tried := (PySem.W.mg_of X G a28), fl_look_thing := f29, dl_look_thing := _, Fl_look_thing := (fun_mk (st := sl_look_thing) l29 c29 k29), gl_look_thing := (PySem.W.mg_of X G a29), fl_looking := f30, dl_looking := _, Fl_looking := (fun_mk (st := sl_looking) l30 c30 k30), gl_looking := (PySem.W.mg_of X G a30), flaw := f31, dlaw := _, Flaw := (fun_mk (st := slaw) l31 c31 k31), glaw := (PySem.W.mg_of X G a31), mabs := PySem.W.mg_none_of X G z1, mall := PySem.W.mg_none_of X G z2, mbool := PySem.W.mg_none_of X G z3, mint := PySem.W.mg_none_of X G z4, misinstance := PySem.W.mg_none_of X G z5, mlen := PySem.W.mg_none_of X G z6, mlist := PySem.W.mg_none_of X G z7, mrange := PySem.W.mg_none_of X G z8, msorted := PySem.W.mg_none_of X G z9, mstr := PySem.W.mg_none_of X G z10, mtuple := PySem.W.mg_none_of X G z11, mzip := PySem.W.mg_none_of X G z12, aLOOKS := da1, cLOOKS := ⟨_, PySem.W.mg_of X G dv1, rfl⟩, eLOOKS := de1, nLOOKS := dn1, DLOOKS := ⟨dl1, dk1, dw1⟩, kLOOKS_step := ⟨_, _, _, dl1, dk1, dx1_0, rfl⟩, sLOOKS_step := dx1_0, kLOOKS_for := ⟨_, _, _, dl1, dk1, dx1_1, rfl⟩, sLOOKS_for := dx1_1, kLOOKS_if := ⟨_, _, _, dl1, dk1, dx1_2, rfl⟩, sLOOKS_if := dx1_2, kLOOKS_double := ⟨_, _, _, dl1, dk1, dx1_3, rfl⟩, sLOOKS_double := dx1_3, kLOOKS_call := ⟨_, _, _, dl1, dk1, dx1_4, rfl⟩, sLOOKS_call := dx1_4, kLOOKS_again := ⟨_, _, _, dl1, dk1, dx1_5, rfl⟩, sLOOKS_again := dx1_5 }, ?_⟩
  cases e
  rfl
theorem law_fin {K : PySem.W.Frag} {h : Heap} {w : World} {mg : Str → Option Value} (X : K.In h) (G : h.Ns mainGlobals mg) (T : Tops w K mg) (E : Exx K mg) {f c P : Addr} {oc dV kV dc pm ct : Value} {od an dd : Option Addr} {sl sl2 : Array (Option Value)} {vs : Array Value} {fl : Str} {tf tg tt : Tok} {flags tx : Int} {inF : Bool}
    (aL : PySem.W.nsIn K mainGlobals "law" = some (some (.ref f))) (l : K.lookup f = some ⟨oc, od, .func (PySem.W.fnOf "law" "law" (defArgs slaw) (defBody slaw) (defScope slaw) dV kV dc pm an (.ref c) ct), sl⟩)
    (lc : K.lookup c = some ⟨.type "code", dd, .fields vs, sl2⟩) (h11 : vs[11]? = some (.ref P)) (g11 : vs.getD 11 .none = .ref P) (h18 : vs.getD 18 .none = .str fl tf) (h7 : vs.getD 7 .none = .int flags tg) (h9 : vs.getD 9 .none = .bool inF) (h10 : vs.getD 10 .none = .int tx tt) (ne : c ≠ P)
    (nP : K.lookup P = none) (hP : h.get? P = some { cls := .none, data := .fields #[] }) : LamX.LawAtS PySem.Challenge.rw_outgrow_k06_plans_that_do_not_fit w K C8.CX0 50 63 "_law_script" mg T.flaw h := by
  have e0 : T.flaw = f := by
    have z := T.glaw.symm.trans (PySem.W.mg_of X G aL)
    injection z with z
    injection z
  obtain ⟨oc', od', kV', doc', pm', an', cdv', ct', osl', e, lk, hcd⟩ := T.Flaw.ex
  rw [e0, l] at lk
  have e2 := Option.some.inj lk
  injection e2 with _ _ e3 _
  injection e3 with e4
  exact lawAt T E (by rw [← e4]) (codeHd_of X lc h11 g11 h18 h7 h9 h10 ne) hP nP
end K06
open PySem PySem.W PyProof.Rows
set_option maxRecDepth 100000 in
set_option maxHeartbeats 0 in
theorem PySem.Challenge.cw_outgrow_k06_plans_that_do_not_fit_holds : PySem.Challenge.rw_outgrow_k06_plans_that_do_not_fit.Holds := by
  w_on; o_law; k_head; (case hw => w_witness2)
  k_fill
  refine LamX.walk_ofTs (l := PySem.Challenge.rw_outgrow_k06_plans_that_do_not_fit) (n := 63) (k := 50) (x := "_law_script") (CX := fun _ => C8.CX0) rfl (by decide) rfl ⟨rfl, by decide, by decide⟩ (fun w h Y => PySem.W.km_in_of Y) ?F (fun _ _ _ _ _ h => h)
  case F =>
    intro w mg fa h Y KX G hmg
    have hT := K06.all_mk (w := w) KX G hmg (by k_is) (by k_is) (by k_is) (by k_is) (by k_is) (by k_is) (by k_is) (by k_is) (by k_is) (by k_is) (by k_is) (by k_is) (by k_is) (by k_is) (by k_is) (by k_is) (by k_is) (by k_is) (by k_is) (by k_is) (by k_is) (by k_is) (by k_is) (by k_is) (by k_is) (by k_is) (by k_is) (by k_is) (by k_is) (by k_is) (by k_is) (by k_is) (by k_is) (by k_is) (by k_is) (by k_is) (by k_is) (by k_is) (by k_is) (by k_is) (by k_is) (by k_is) (by k_is) (by k_is) (by k_is) (by k_is) (by k_is) (by k_is) (by k_is) (by k_is) (by k_is) (by k_is) (by k_is) (by k_is) (by k_is) (by k_is) (by k_is) (by k_is) (by k_is) (by k_is) (by k_is) (by k_is) (by k_is) (by k_is) (by k_is) (by k_is) (by k_is) (by k_is) (by k_is) (by k_is) (by k_is) (by k_is) (by k_is) (by k_is) (by k_is) (by k_is) (by k_is) (by k_is) (by k_is) (by k_is) (by k_is) (by k_is) (by k_is) (by k_is) (by k_is) (by k_is) (by k_is) (by k_is) (by k_is) (by k_is) (by k_is) (by k_is) (by k_is) (by k_is) (by k_is) (by k_is) (by k_is) (by k_is) (by k_is) (by k_is) (by k_is) (by k_is) (by k_is) (by k_is) (by k_is) (by k_is) (by k_is) (by k_is) (by k_is) (by k_is) (by k_is) (by k_is) (by k_is) (by k_is) (by k_is) (by k_is) (by k_is) (by k_is) (by k_is) (by k_is) (by k_is) (by k_is) (by k_is) (by k_is) (by k_is) (by k_is) (by k_is) (by k_is) (by k_is) (by k_is) (by k_is) (by k_is) (by k_is) (by k_is) (by k_is) (by k_is) (by k_is) (by k_is) (by exact ⟨⟨_, _, rfl, rfl⟩, ⟨_, _, rfl, rfl⟩, ⟨_, _, rfl, rfl⟩, ⟨_, _, rfl, rfl⟩, ⟨_, _, rfl, rfl⟩, ⟨_, _, rfl, rfl⟩, trivial⟩) (by rfl) (by k_is) (by k_is) (by k_is) (by k_is) (by k_is) (by k_is)
    obtain ⟨T, rfl⟩ := hT
    have hX := K06.exx_mk KX G (by first | k_is | rfl) (by first | k_is | rfl) (by first | k_is | rfl) (by first | k_is | rfl) (by first | k_is | rfl) (by first | k_is | rfl) (by first | k_is | rfl) (by first | k_is | rfl) (by first | k_is | rfl) (by first | k_is | rfl) (by first | k_is | rfl) (by first | k_is | rfl) (by first | k_is | rfl) (by first | k_is | rfl) (by first | k_is | rfl) (by first | k_is | rfl) (by first | k_is | rfl) (by first | k_is | rfl) (by first | k_is | rfl) (by first | k_is | rfl) (by first | k_is | rfl) (by first | k_is | rfl) (by first | k_is | rfl) (by first | k_is | rfl) (by first | k_is | rfl) (by first | k_is | rfl) (by first | k_is | rfl) (by first | k_is | rfl) (by first | k_is | rfl) (by first | k_is | rfl) (by first | k_is | rfl) (by first | k_is | rfl) (by first | k_is | rfl) (by first | k_is | rfl) (by first | k_is | rfl) (by first | k_is | rfl) (by first | k_is | rfl) (by first | k_is | rfl) (by first | k_is | rfl) (by first | k_is | rfl) (by first | k_is | rfl) (by first | k_is | rfl) (by first | k_is | rfl) (by first | k_is | rfl) (by first | k_is | rfl) (by first | k_is | rfl) (by first | k_is | rfl) (by first | k_is | rfl) (by first | k_is | rfl) (by first | k_is | rfl) (by first | k_is | rfl) (by first | k_is | rfl) (by first | k_is | rfl) (by first | k_is | rfl) (by first | k_is | rfl) (by first | k_is | rfl) (by first | k_is | rfl) (by first | k_is | rfl) (by first | k_is | rfl) (by first | k_is | rfl) (by first | k_is | rfl) (by first | k_is | rfl) (by first | k_is | rfl) (by first | k_is | rfl) (by first | k_is | rfl) (by first | k_is | rfl) (by first | k_is | rfl) (by first | k_is | rfl) (by first | k_is | rfl) (by first | k_is | rfl) (by first | k_is | rfl) (by first | k_is | rfl) (by first | k_is | rfl) (by first | k_is | rfl) (by first | k_is | rfl) (by first | k_is | rfl) (by first | k_is | rfl) (by first | k_is | rfl) (by first | k_is | rfl) (by first | k_is | rfl) (by first | k_is | rfl) (by first | k_is | rfl) (by first | k_is | rfl) (by first | k_is | rfl) (by first | k_is | rfl) (by first | k_is | rfl) (by first | k_is | rfl) (by first | k_is | rfl) (by first | k_is | rfl) (by first | k_is | rfl) (by first | k_is | rfl) (by first | k_is | rfl) (by first | k_is | rfl) (by first | k_is | rfl) (by first | k_is | rfl) (by first | k_is | rfl) (by first | k_is | rfl) (by first | k_is | rfl) (by first | k_is | rfl) (by first | k_is | rfl) (by first | k_is | rfl) (by first | k_is | rfl) (by first | k_is | rfl) (by first | k_is | rfl) (by first | k_is | rfl) (by first | k_is | rfl) (by first | k_is | rfl) (by first | k_is | rfl) (by first | k_is | rfl) (by first | k_is | rfl) (by first | k_is | rfl) (by first | k_is | rfl) (by first | k_is | rfl) (by first | k_is | rfl) (by first | k_is | rfl) (by first | k_is | rfl) (by first | k_is | rfl) (by first | k_is | rfl) (by first | k_is | rfl) (by first | k_is | rfl) (by first | k_is | rfl) (by first | k_is | rfl) (by first | k_is | rfl) (by first | k_is | rfl) (by first | k_is | rfl) (by first | k_is | rfl) (by first | k_is | rfl) (by first | k_is | rfl) (by first | k_is | rfl) (by first | k_is | rfl) (by first | k_is | rfl) (by first | k_is | rfl) (by first | k_is | rfl) (by first | k_is | rfl) (by first | k_is | rfl) (by first | k_is | rfl) (by first | k_is | rfl) (by first | k_is | rfl) (by first | k_is | rfl) (by first | k_is | rfl) (by first | k_is | rfl) (by first | k_is | rfl) (by first | k_is | rfl) (by first | k_is | rfl) (by first | k_is | rfl) (by first | k_is | rfl) (by first | k_is | rfl) (by first | k_is | rfl) (by first | k_is | rfl) (by first | k_is | rfl) (by first | k_is | rfl) (by first | k_is | rfl) (by first | k_is | rfl) (by first | k_is | rfl) (by first | k_is | rfl) (by first | k_is | rfl) (by first | k_is | rfl) (by first | k_is | rfl) (by first | k_is | rfl) (by first | k_is | rfl) (by first | k_is | rfl) (by first | k_is | rfl) (by first | k_is | rfl) (by first | k_is | rfl) (by first | k_is | rfl) (by first | k_is | rfl) (by first | k_is | rfl) (by first | k_is | rfl) (by first | k_is | rfl) (by first | k_is | rfl) (by first | k_is | rfl) (by first | k_is | rfl) (by first | k_is | rfl) (by first | k_is | rfl) (by first | k_is | rfl) (by first | k_is | rfl) (by first | k_is | rfl) (by first | k_is | rfl) (by first | k_is | rfl) (by first | k_is | rfl) (by first | k_is | rfl)
    obtain ⟨X⟩ := hX
    exact K06.law_fin KX G T X (by k_is) (by k_is) (by k_is) (by rfl) (by rfl) (by rfl) (by rfl) (by rfl) (by rfl) (by decide) (by first | k_is | rfl) (PySem.W.km_tabs_of Y _ (by first | decide | simp))

