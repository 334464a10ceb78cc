import PyProof.Rows.All
import Wide.All
import OpenK.AllK
import Wide.FinOn
import HandS.ForMost
import HandS.Walk
import HandS.Codes
import HandS.IsInst
import HandS.Style
import HandS.TupAny
import HandS.FStr
import HandS.CallLocal
import HandS.More
import HandS.Zip
import HandS.Replace
import HandS.ReplaceList
import HandS.ReplaceDef
import HandS.ReplaceLit
import PySem.Challenge.RW_outgrow_k03_plans_read
set_option Elab.async false
set_option linter.all false
set_option maxRecDepth 100000
set_option maxHeartbeats 4000000
namespace OG
open PySem PySem.Spec PyProof.Rows L2
open C8 (pss_cut pe_gc)

/-! ### heaps -/
theorem same_new {H : Hp} {p : Addr} {o : HO} (h : H p = none) : Same H (upd H p o) := fun b u e => by
  rw [upd_ne (ne_of_none e h)]
  exact e
/-- only the object at d may differ -/
def But (d : Addr) (H H' : Hp) : Prop := ∀ b, b ≠ d → H' b = H b
theorem But.refl (d : Addr) (H : Hp) : But d H H := fun _ _ => rfl
theorem But.trans {d : Addr} {H H1 H2 : Hp} (a : But d H H1) (b : But d H1 H2) : But d H H2 := fun x h => (b x h).trans (a x h)
theorem but_upd {d : Addr} {H : Hp} {o : HO} : But d H (upd H d o) := fun _ h => upd_ne h
/-- all that was tracked stands as it was, but for what M tells -/
def Sx (M : Addr → Prop) (H H' : Hp) : Prop := ∀ b u, ¬ M b → H b = some u → H' b = some u
theorem Sx.refl (M : Addr → Prop) (H : Hp) : Sx M H H := fun _ _ _ h => h
theorem Sx.trans {M : Addr → Prop} {H H1 H2 : Hp} (a : Sx M H H1) (b : Sx M H1 H2) : Sx M H H2 := fun c u n h => b c u n (a c u n h)
theorem Sx.of_same {M : Addr → Prop} {H H' : Hp} (a : Same H H') : Sx M H H' := fun b u _ h => a b u h
theorem Sx.of_but {M : Addr → Prop} {d : Addr} {H H' : Hp} (a : But d H H') (m : M d) : Sx M H H' := fun b u n h => by
  rw [a b (fun e => n (e ▸ m))]
  exact h
theorem Sx.mono {M N : Addr → Prop} {H H' : Hp} (a : Sx M H H') (h : ∀ b, M b → N b) : Sx N H H' := fun b u n e => a b u (fun m => n (h b m)) e
theorem Sx.upd_in {M : Addr → Prop} {H H' : Hp} {p : Addr} {o : HO} (a : Sx M H H') (m : M p) : Sx M H (upd H' p o) := fun b u n e => by
  have z : b ≠ p := fun z => n (by rw [z]; exact m)
  rw [upd_ne z]
  exact a b u n e
/-- what was not tracked ahead may be written -/
theorem Sx.upd_new {M : Addr → Prop} {H H' : Hp} {p : Addr} {o : HO} (a : Sx M H H') (h : H p = none) : Sx M H (upd H' p o) := fun b u n e => by
  rw [upd_ne (ne_of_none e h)]
  exact a b u n e
theorem Same.upd_new {H H' : Hp} {p : Addr} {o : HO} (a : Same H H') (h : H p = none) : Same H (upd H' p o) := fun b u e => by
  rw [upd_ne (ne_of_none e h)]
  exact a b u e
theorem but_none {d : Addr} {H H' : Hp} (a : But d H H') {p : Addr} (h : H' p = none) (hd : ∃ u, H' d = some u) : H p = none := by
  by_cases e : p = d
  · subst e
    obtain ⟨u, q⟩ := hd
    rw [q] at h
    cases h
  · rw [← a p e]
    exact h
theorem sz {n : Nat} (h : n ≤ 100000) : n ≤ sizeLine := Nat.le_trans h (by decide)
theorem szl {n : Nat} (h : n < 100000) : n < sizeLine := Nat.lt_of_lt_of_le h (by decide)

/-! ### texts -/
abbrev S (l : List Nat) : Str := ⟨l.toArray⟩
abbrev tl (x : Str) : List Nat := x.cps.toList
theorem S_tl (x : Str) : S (tl x) = x := by cases x; rfl
theorem len_tl (x : Str) : x.length = (tl x).length := by simp [Str.length, tl]
theorem len_S (l : List Nat) : (S l).length = l.length := by simp [Str.length, S]
theorem tl_S (l : List Nat) : tl (S l) = l := rfl

/-! ### the drawing -/
/-- the drawing's own list at d: the script's copy at L, a place, a rest, a seed -/
def Dr (H : Hp) (d L : Addr) : Prop := ∃ (ns : List Int) (i r s : Int), H d = some (.lst [.ref L, .int i, .int r, .int s]) ∧ H L = some (.lst (ns.map V.int)) ∧ 0 ≤ i ∧ 0 ≤ r ∧ 0 ≤ s ∧ s < 2147483647
theorem Dr.ne {H : Hp} {d L : Addr} (h : Dr H d L) : L ≠ d := by
  obtain ⟨ns, i, r, s, hd, hL, _⟩ := h
  refine ne_of hL hd fun z => ?_
  have z2 := HO.lst.inj z
  cases ns with
  | nil => cases z2
  | cons n r =>
    have z3 := (List.cons.inj z2).1
    cases z3
theorem Dr.some {H : Hp} {d L : Addr} (h : Dr H d L) : ∃ u, H d = some u := by
  obtain ⟨ns, i, r, s, hd, _⟩ := h
  exact ⟨_, hd⟩
theorem Dr.someL {H : Hp} {d L : Addr} (h : Dr H d L) : ∃ u, H L = Option.some u := by
  obtain ⟨ns, i, r, s, hd, hL, _⟩ := h
  exact ⟨_, hL⟩
theorem Dr.same {H H' : Hp} {d L : Addr} (h : Dr H d L) (a : Same H H') : Dr H' d L := by
  obtain ⟨ns, i, r, s, hd, hL, q⟩ := h
  exact ⟨ns, i, r, s, a _ _ hd, a _ _ hL, q⟩
theorem Dr.at {H H' : Hp} {d L : Addr} (h : Dr H d L) (a : H' d = H d) (b : H' L = H L) : Dr H' d L := by
  obtain ⟨ns, i, r, s, hd, hL, q⟩ := h
  exact ⟨ns, i, r, s, a.trans hd, b.trans hL, q⟩
theorem Dr.upd {H : Hp} {d L p : Addr} {o : HO} (h : Dr H d L) (n1 : p ≠ d) (n2 : p ≠ L) : Dr (upd H p o) d L := h.at (upd_ne n1.symm) (upd_ne n2.symm)
theorem Dr.new {H : Hp} {d L p : Addr} {o : HO} (h : Dr H d L) (n : H p = none) : Dr (L2.upd H p o) d L := h.same (same_new n)
theorem Dr.neNew {H : Hp} {d L p : Addr} (h : Dr H d L) (n : H p = none) : p ≠ d ∧ p ≠ L := by
  obtain ⟨u, q⟩ := h.some
  obtain ⟨u2, q2⟩ := h.someL
  exact ⟨(ne_of_none q n).symm, (ne_of_none q2 n).symm⟩
theorem dr_set {H : Hp} {d L : Addr} {ns : List Int} {i r s : Int} (hL : H L = some (.lst (ns.map V.int))) (ne : L ≠ d) (h1 : 0 ≤ i) (h2 : 0 ≤ r) (h3 : 0 ≤ s) (h4 : s < 2147483647) :
    Dr (upd H d (.lst [.ref L, .int i, .int r, .int s])) d L := ⟨ns, i, r, s, upd_same, by rw [upd_ne ne]; exact hL, h1, h2, h3, h4⟩
/-- _law_take(draw, sides) -/
def spTake : Sp := fun vs H Q _ => ∃ (d L : Addr) (k : Int), vs = [.ref d, .int k] ∧ Dr H d L ∧ 1 ≤ k ∧ k < 1073741824 ∧
  ∀ (g : Int) (H' : Hp), 0 ≤ g → g < k → Dr H' d L → But d H H' → Q (.int g) H'
/-- _law_begin(script) -/
def spBegin (K : PySem.W.Frag) : Sp := fun vs H Q _ => ∃ (a : Addr) (ns : List Int), vs = [.ref a] ∧ SqL K H a (ns.map V.int) ∧
  ∀ (d L : Addr) (H' : Hp), Same H H' → H d = none → H L = none → Dr H' d L → Q (.ref d) H'
/-- _law_pick(draw, row), row a text | a list of texts -/
def spPick (K : PySem.W.Frag) : Sp := fun vs H Q _ => ∃ (d L : Addr) (x : V) (n : Nat), vs = [.ref d, x] ∧ Dr H d L ∧ 0 < n ∧ n < 100000 ∧
  ((∃ z : Str, x = .str z ∧ z.length = n ∧ ∀ (c : Nat) (H' : Hp), c ∈ tl z → Dr H' d L → But d H H' → Q (.str ⟨#[c]⟩) H') ∨
   (∃ (a : Addr) (xs : List V), x = .ref a ∧ a ≠ d ∧ SqL K H a xs ∧ xs.length = n ∧ ∀ (y : V) (H' : Hp), y ∈ xs → Dr H' d L → But d H H' → Q y H'))
/-- what a SqL tells stays where its place is not written -/
theorem SqL.but {K : PySem.W.Frag} {H H' : Hp} {d a : Addr} {xs : List V} (h : SqL K H a xs) (b : But d H H') (n : a ≠ d) : SqL K H' a xs := by
  rcases h with (h | ⟨o, h⟩) | h
  · exact .inl (.inl (by rw [b a n]; exact h))
  · exact .inl (.inr ⟨o, by rw [b a n]; exact h⟩)
  · exact .inr h
theorem SqL.sx {K : PySem.W.Frag} {M : Addr → Prop} {H H' : Hp} {a : Addr} {xs : List V} (h : SqL K H a xs) (b : Sx M H H') (n : ¬ M a) : SqL K H' a xs := by
  rcases h with (h | ⟨o, h⟩) | h
  · exact .inl (.inl (b _ _ n h))
  · exact .inl (.inr ⟨o, b _ _ n h⟩)
  · exact .inr h

theorem mod_lt {a k : Int} (h : 1 ≤ k) : 0 ≤ a % k ∧ a % k < k := ⟨Int.emod_nonneg _ (by omega), Int.emod_lt_of_pos _ (by omega)⟩
theorem atI_lt {α : Type} {xs : List α} {g : Int} (h0 : 0 ≤ g) (h1 : g < (xs.length : Int)) : ∃ v, atI xs g = some v ∧ v ∈ xs := by
  have hk : g.toNat < xs.length := by omega
  have e : g = ((g.toNat : Nat) : Int) := by omega
  refine ⟨xs[g.toNat], ?_, List.getElem_mem hk⟩
  have q : atI xs ((g.toNat : Nat) : Int) = some xs[g.toNat] := atI_nat (List.getElem?_eq_getElem hk)
  rw [← e] at q
  exact q
theorem cut_len (xs : List V) (lo hi : Option Int) : (cutV xs lo hi).length ≤ xs.length := cutV_length xs lo hi
theorem cut_map (ns : List Int) (lo hi : Option Int) : ∃ ms : List Int, cutV (ns.map V.int) lo hi = ms.map V.int := by
  refine ⟨(ns.drop (HT.sIx ns.length 0 lo)).take (HT.sIx ns.length ns.length hi - HT.sIx ns.length 0 lo), ?_⟩
  unfold cutV
  rw [List.length_map, List.map_take, List.map_drop]
/-! ### a comprehension over a text's signs, its element of a plain value -/
theorem lc_str_val {z : Str} {g : TG} {te : TE} {vs : List Nat} {σ : L2.St} {H1 : Hp} {D : Addr} {Qd : Hp → Prop} (f : Nat → V) (i0 : Nat) (hg : g = gName i0) (hw : ∀ v, wipe ((wipe σ vs).set i0 v) vs = wipe σ vs) (hz : z.length < 100000) (hD : H1 D = none)
    (he : ∀ c ∈ tl z, ∀ (H2 : Hp) (Q : VK), Same H1 H2 → Q (f c) H2 → te ((wipe σ vs).set i0 (some (.str ⟨#[c]⟩))) H2 Q)
    (hd : ∀ H', Same H1 H' → H' D = some (.lst ((tl z).map f)) → Qd H') :
    ∃ W : Nat → Nat → Hp → Prop, (∃ m, W 0 m (upd H1 D (.lst []))) ∧ ∀ i m H, W i m H →
      ((Its z).stop i H ∧ Qd H) ∨ ((Its z).go i H ∧ ∃ Nx : Hp → Prop, (∀ H', Nx H' → ∃ m', m' < m ∧ W (i + 1) m' H') ∧ ∀ x H', (Its z).yld i H x H' → g x (wipe σ vs) H' fun σ2 H2 => wipe σ2 vs = wipe σ vs ∧ tYes σ2 H2 fun b H3 =>
        if b = true then te σ2 H3 fun y H4 => ∃ acc, H4 D = some (.lst acc) ∧ acc.length < sizeLine ∧ Nx (upd H4 D (.lst (acc ++ [y]))) else Nx H3) := by
  subst hg
  have el : z.cps.size = (tl z).length := by simp [tl]
  refine lc_it walk_str (fun i H' => Same H1 H' ∧ H' D = some (.lst (((tl z).take i).map f))) ⟨same_new hD, by rw [upd_same]; rfl⟩ (fun _ _ _ _ => trivial) (fun i x H H' hi hP hY => ?_) (fun H' hP => ?_)
  · obtain ⟨rfl, c, hc, rfl⟩ := hY
    obtain ⟨sm, hl⟩ := hP
    have hc2 : (tl z)[i]? = some c := by
      have q : z.cps.toList[i]? = z.cps[i]? := by simp
      exact q.trans hc
    refine ⟨hw _, ?_⟩
    dsimp only [tYes]
    rw [if_pos rfl]
    refine he c (List.mem_of_getElem? hc2) _ _ sm ?_
    refine ⟨_, hl, ?_, ?_, ?_⟩
    · rw [List.length_map, List.length_take]
      have := len_tl z
      exact szl (by omega)
    · exact Same.upd_new sm hD
    · rw [upd_same, List.take_add_one, hc2, List.map_append]
      rfl
  · obtain ⟨sm, hl⟩ := hP
    refine hd H' sm ?_
    rw [el, List.take_length] at hl
    exact hl
theorem yes_go {σ : L2.St} {H : Hp} {A B : Hp → Prop} (h : A H) : tYes σ H (fun b H3 => if b = true then A H3 else B H3) := h
theorem len_app (a b : Str) : (a ++ b).length = a.length + b.length := PySem.Str.length_append a b
theorem join1_len : ∀ cs : List Nat, (TL.joinL [] (cs.map fun c => [c])) = cs
  | [] => rfl
  | [c] => rfl
  | c :: e :: r => by
    have ih := join1_len (e :: r)
    show [c] ++ ([] ++ TL.joinL [] ((e :: r).map fun c => [c])) = c :: e :: r
    rw [ih]
    rfl
/-- ''.join of signs -/
theorem join_signs (cs : List Nat) : Txt.join "" (cs.map fun c => S [c]) = S cs := by
  have e := SX.join_S [] (cs.map fun c => [c])
  rw [join1_len, List.map_map] at e
  exact e
theorem sum_ones : ∀ cs : List Nat, ((cs.map fun c => S [c]).map (·.length)).sum = cs.length
  | [] => rfl
  | c :: r => by
    rw [List.map_cons, List.map_cons, List.sum_cons, sum_ones r, len_S, List.length_cons, List.length_cons]
    simp
    omega
theorem cutS_len (z : Str) (lo hi : Option Int) : (cutS z lo hi).length ≤ z.length := by
  unfold cutS
  rw [len_S, List.length_take, List.length_drop]
  have := len_tl z
  unfold tl at this
  omega
/-! ### rules with the written part by its name, for a comprehension's block -/
section
variable {X : Cx} {K : PySem.W.Frag}
theorem ix_listK (h : X.K = K) : IxR X (rIxL K) := h ▸ ix_list
theorem ix_tupK (h : X.K = K) : IxR X (rIxT K) := h ▸ ix_tup
theorem ix_seqK (h : X.K = K) : IxR X (rIx K) := h ▸ ix_seq
theorem op_in_seqK (h : X.K = K) : OpR X (compareOp .In) (rIn K false) := h ▸ op_in_seq
theorem op_notIn_seqK (h : X.K = K) : OpR X (compareOp .NotIn) (rIn K true) := h ▸ op_notIn_seq
theorem op_eqDK (h : X.K = K) (hu : X.A.units + 64 < cLine) : OpR X (compareOp .Eq) (rEqD K) := h ▸ op_eqD hu
theorem op_neDK (h : X.K = K) (hu : X.A.units + 64 < cLine) : OpR X (compareOp .NotEq) (rNeD K) := h ▸ op_neD hu
theorem sl_listK (h : X.K = K) : SlR X (rSlL K) := h ▸ sl_list
theorem call_len_seqK (h : X.K = K) : CallR X (.builtin "len") (fun xs H Q => ∃ p ys, xs = [.ref p] ∧ (SqL K H p ys ∨ SqT K H p ys) ∧ Q (.int ys.length) H) := by
  subst h
  exact call_len_seq
end
end OG

set_option Elab.async false
set_option linter.all false
set_option maxRecDepth 100000
set_option maxHeartbeats 4000000
namespace OG
open PySem PySem.Spec PyProof.Rows L2
/-! ### text * number -/
def rRepS : R2 := fun x y H Q => ∃ (z : Str) (k : Int), x = .str z ∧ y = .int k ∧ -(2 ^ 62) ≤ k ∧ k < 2 ^ 62 ∧ z.length * k.toNat ≤ 100000 ∧ Q (.str (S (List.replicate k.toNat (tl z)).flatten)) H
theorem fold_rep (a : Array Nat) : ∀ (k : Nat) (acc : Array Nat), (List.foldl (fun x y => x ++ y) acc (List.replicate k a)) = acc ++ (List.replicate k a.toList).flatten.toArray
  | 0, acc => by simp
  | k + 1, acc => by
    rw [List.replicate_succ, List.foldl_cons, fold_rep a k (acc ++ a), List.replicate_succ, List.flatten_cons, Array.append_assoc]
    congr 1
    apply Array.ext'
    simp
theorem op_repS {X : Cx} : OpR X (binaryOp .Mult) rRepS := by
  intro pins s σ H x y v u Q I rx ry h
  obtain ⟨z, k, rfl, rfl, h1, h2, hz, q⟩ := h
  obtain ⟨t, rfl⟩ := rx
  obtain ⟨t', rfl⟩ := ry
  refine PySem.P.mul_str ?_ (fun a b => ?_) (fun a b => ?_) ?_
  · rw [decide_eq_false (by omega), decide_eq_false (by omega)]; rfl
  · have hk : 0 < k := by omega
    have e : ((z.length * k.toNat : Nat) : Int) ≤ 100000 := Int.ofNat_le.mpr hz
    have e2 : ((z.length * k.toNat : Nat) : Int) = (z.length : Int) * k := by
      rw [Int.natCast_mul, Int.toNat_of_nonneg (by omega)]
    intro hc
    have h3 : (z.length : Int) ≤ (2 ^ 63 - 1) / k := by
      rw [Int.le_ediv_iff_mul_le hk]
      rw [← e2]
      omega
    omega
  · unfold PySem.Builtin.Str.tooLong
    exact decide_eq_false (Nat.not_lt.mpr (sz hz))
  · by_cases c1 : k < 1
    · rw [if_pos c1]
      have e : k.toNat = 0 := by omega
      rw [e] at q
      exact ⟨by decide, .str Str.empty, H, I.tok _, ⟨_, rfl⟩, q⟩
    · rw [if_neg c1]
      by_cases c2 : (k == 1 || z.length == 0) = true
      · rw [if_pos c2]
        have e : S (List.replicate k.toNat (tl z)).flatten = z := by
          rcases Bool.or_eq_true_iff.mp c2 with c3 | c3
          · have e1 : k = 1 := by simpa using c3
            rw [e1]
            show S ((tl z) ++ []) = z
            rw [List.append_nil, S_tl]
          · have e1 : z.length = 0 := by simpa using c3
            have e2 : tl z = [] := List.eq_nil_of_length_eq_zero (by rw [← len_tl]; exact e1)
            have e3 : ∀ n : Nat, (List.replicate n ([] : List Nat)).flatten = [] := fun n => by
              induction n with
              | zero => rfl
              | succ n ih => rw [List.replicate_succ, List.flatten_cons, ih]; rfl
            rw [e2, e3, ← e2, S_tl]
        rw [e] at q
        exact ⟨.str z, H, I, ⟨_, rfl⟩, q⟩
      · rw [if_neg c2]
        have e : (⟨(List.replicate k.toNat z.cps).foldl (· ++ ·) #[]⟩ : Str) = S (List.replicate k.toNat (tl z)).flatten := by
          have := fold_rep z.cps k.toNat #[]
          rw [this]
          simp [S, tl]
        rw [e]
        refine ⟨?_, .str _, H, I.tok _, ⟨_, rfl⟩, q⟩
        have : (S (List.replicate k.toNat (tl z)).flatten).length ≤ 100000 := by
          rw [len_S, List.length_flatten]
          rw [List.map_replicate, List.sum_replicate_nat, Nat.mul_comm]
          rw [← len_tl]
          exact hz
        first
          | exact sz this
          | (unfold PySem.Builtin.Str.tooLong; exact decide_eq_false (Nat.not_lt.mpr (sz this)))
          | (show _ = _; unfold PySem.Builtin.Str.tooLong; exact decide_eq_false (Nat.not_lt.mpr (sz this)))
end OG

set_option Elab.async false
set_option linter.all false
set_option maxRecDepth 100000
set_option maxHeartbeats 4000000
namespace OG
open PySem PySem.Spec PyProof.Rows L2

/-! ### data of tuples -/
inductive D where
  | non
  | bl (b : Bool)
  | int (n : Int)
  | str (z : Str)
  | tup (xs : List D)
mutual
/-- v stands for the datum -/
def Rp (H : Hp) : V → D → Prop
  | v, .non => v = .non
  | v, .bl b => v = .bl b
  | v, .int n => v = .int n
  | v, .str z => v = .str z
  | v, .tup xs => ∃ (a : Addr) (vs : List V), v = .ref a ∧ H a = some (.tup vs) ∧ RpL H vs xs
def RpL (H : Hp) : List V → List D → Prop
  | vs, [] => vs = []
  | vs, x :: xs => ∃ (v : V) (r : List V), vs = v :: r ∧ Rp H v x ∧ RpL H r xs
end
/-- tuples stay -/
def Imm (H H' : Hp) : Prop := ∀ b xs, H b = some (.tup xs) → H' b = some (.tup xs)
theorem Imm.refl (H : Hp) : Imm H H := fun _ _ h => h
theorem Imm.trans {H H1 H2 : Hp} (a : Imm H H1) (b : Imm H1 H2) : Imm H H2 := fun c xs h => b c xs (a c xs h)
theorem Imm.same {H H' : Hp} (a : Same H H') : Imm H H' := fun b xs h => a b _ h
theorem Imm.upd {H H' : Hp} {p : Addr} {o : HO} (a : Imm H H') (n : ∀ xs, H p ≠ some (.tup xs)) : Imm H (upd H' p o) := fun b xs h => by
  have e : b ≠ p := fun z => n xs (by rw [← z]; exact h)
  rw [upd_ne e]
  exact a b xs h
theorem Imm.but {H H' : Hp} {d : Addr} {l : List V} (a : But d H H') (h : H d = some (.lst l)) : Imm H H' := fun b xs e => by
  have n : b ≠ d := fun z => by
    rw [z, h] at e
    cases e
  rw [a b n]
  exact e
theorem Dr.imm {H H' : Hp} {d L : Addr} (h : Dr H d L) (a : But d H H') : Imm H H' := by
  obtain ⟨ns, i, r, s, hd, _⟩ := h
  exact Imm.but a hd
mutual
theorem Rp.imm {H H' : Hp} (m : Imm H H') : ∀ (x : D) (v : V), Rp H v x → Rp H' v x
  | .non, _, h => h
  | .bl _, _, h => h
  | .int _, _, h => h
  | .str _, _, h => h
  | .tup xs, _, h => by
    obtain ⟨a, vs, e, q, r⟩ := h
    exact ⟨a, vs, e, m _ _ q, RpL.imm m xs vs r⟩
theorem RpL.imm {H H' : Hp} (m : Imm H H') : ∀ (xs : List D) (vs : List V), RpL H vs xs → RpL H' vs xs
  | [], _, h => h
  | x :: xs, _, h => by
    obtain ⟨v, r, e, q, t⟩ := h
    exact ⟨v, r, e, Rp.imm m x v q, RpL.imm m xs r t⟩
end
theorem Rp.to {H H' : Hp} {x : D} {v : V} (h : Rp H v x) (m : Imm H H') : Rp H' v x := Rp.imm m x v h
theorem RpL.to {H H' : Hp} {xs : List D} {vs : List V} (h : RpL H vs xs) (m : Imm H H') : RpL H' vs xs := RpL.imm m xs vs h
theorem RpL.length {H : Hp} : ∀ {xs : List D} {vs : List V}, RpL H vs xs → vs.length = xs.length
  | [], _, h => by rw [show _ = [] from h]; rfl
  | x :: xs, _, h => by
    obtain ⟨v, r, e, _, t⟩ := h
    rw [e, List.length_cons, List.length_cons, RpL.length t]
theorem RpL.get {H : Hp} : ∀ {xs : List D} {vs : List V} {i : Nat} {v : V}, RpL H vs xs → vs[i]? = some v → ∃ x, xs[i]? = some x ∧ Rp H v x
  | [], _, i, v, h, g => by
    rw [show _ = [] from h] at g
    simp at g
  | x :: xs, _, 0, v, h, g => by
    obtain ⟨u, r, e, q, t⟩ := h
    rw [e] at g
    have : u = v := Option.some.inj g
    exact ⟨x, rfl, this ▸ q⟩
  | x :: xs, _, i + 1, v, h, g => by
    obtain ⟨u, r, e, q, t⟩ := h
    rw [e] at g
    exact RpL.get (xs := xs) (i := i) t g
theorem RpL.append {H : Hp} : ∀ {xs ys : List D} {vs ws : List V}, RpL H vs xs → RpL H ws ys → RpL H (vs ++ ws) (xs ++ ys)
  | [], _, _, _, h, k => by rw [show _ = [] from h]; exact k
  | x :: xs, ys, _, ws, h, k => by
    obtain ⟨u, r, e, q, t⟩ := h
    rw [e]
    exact ⟨u, r ++ ws, rfl, q, RpL.append t k⟩
theorem RpL.take {H : Hp} : ∀ {xs : List D} {vs : List V} (n : Nat), RpL H vs xs → RpL H (vs.take n) (xs.take n)
  | _, _, 0, _ => rfl
  | [], _, n + 1, h => by rw [show _ = [] from h]; rfl
  | x :: xs, _, n + 1, h => by
    obtain ⟨u, r, e, q, t⟩ := h
    rw [e]
    exact ⟨u, r.take n, rfl, q, RpL.take n t⟩
theorem RpL.drop {H : Hp} : ∀ {xs : List D} {vs : List V} (n : Nat), RpL H vs xs → RpL H (vs.drop n) (xs.drop n)
  | _, _, 0, h => h
  | [], _, n + 1, h => by rw [show _ = [] from h]; rfl
  | x :: xs, _, n + 1, h => by
    obtain ⟨u, r, e, q, t⟩ := h
    rw [e]
    exact RpL.drop n t
theorem rpl_nil {H : Hp} : RpL H [] [] := rfl
theorem rpl_cons {H : Hp} {v : V} {vs : List V} {x : D} {xs : List D} (h : Rp H v x) (t : RpL H vs xs) : RpL H (v :: vs) (x :: xs) := ⟨v, vs, rfl, h, t⟩
theorem rp_tup {H : Hp} {a : Addr} {vs : List V} {xs : List D} (h : H a = some (.tup vs)) (t : RpL H vs xs) : Rp H (.ref a) (.tup xs) := ⟨a, vs, rfl, h, t⟩
theorem rp_t2 {H : Hp} {v : V} {x y : D} (h : Rp H v (.tup [x, y])) : ∃ a v1 v2, v = .ref a ∧ H a = some (.tup [v1, v2]) ∧ Rp H v1 x ∧ Rp H v2 y := by
  obtain ⟨a, vs, e, q, v1, r1, rfl, h1, v2, r2, rfl, h2, rfl⟩ := h
  exact ⟨a, v1, v2, e, q, h1, h2⟩
theorem rp_t3 {H : Hp} {v : V} {x y z : D} (h : Rp H v (.tup [x, y, z])) : ∃ a v1 v2 v3, v = .ref a ∧ H a = some (.tup [v1, v2, v3]) ∧ Rp H v1 x ∧ Rp H v2 y ∧ Rp H v3 z := by
  obtain ⟨a, vs, e, q, v1, r1, rfl, h1, v2, r2, rfl, h2, v3, r3, rfl, h3, rfl⟩ := h
  exact ⟨a, v1, v2, v3, e, q, h1, h2, h3⟩
theorem rp_t5 {H : Hp} {v : V} {x y z u w : D} (h : Rp H v (.tup [x, y, z, u, w])) : ∃ a v1 v2 v3 v4 v5, v = .ref a ∧ H a = some (.tup [v1, v2, v3, v4, v5]) ∧ Rp H v1 x ∧ Rp H v2 y ∧ Rp H v3 z ∧ Rp H v4 u ∧ Rp H v5 w := by
  obtain ⟨a, vs, e, q, v1, r1, rfl, h1, v2, r2, rfl, h2, v3, r3, rfl, h3, v4, r4, rfl, h4, v5, r5, rfl, h5, rfl⟩ := h
  exact ⟨a, v1, v2, v3, v4, v5, e, q, h1, h2, h3, h4, h5⟩

/-! ### names -/
def kept : List Str := ["step", "for", "from", "to", "if", "else", "double", "call", "with", "again", "on", "halves", "thirds", "less", "n"]
theorem kept_split : (Txt.split "step for from to if else double call with again on halves thirds less n" " ") = kept := by decide +kernel
def spKept : Sp := fun vs H Q _ => vs = [] ∧ ∀ (p : Addr) (H' : Hp), H p = none → H' = upd H p (.lst (kept.map V.str)) → Q (.ref p) H'
def abc : List Nat := tl "abcdefghijklmnopqrstuvwxyz"
/-- whether a text is a name -/
def nameB (z : Str) : Bool := (!inV (.str z) (kept.map V.str) && (decide ((1 : Int) ≤ (z.length : Int)) && decide ((z.length : Int) ≤ 8))) && ((tl z).map (fun c => decide (c ∈ tl "abcdefghijklmnopqrstuvwxyz"))).all id
def spName : Sp := fun vs H Q _ => ∃ z : Str, vs = [.str z] ∧ z.length < 100000 ∧ ∀ H', Same H H' → Q (.bl (nameB z)) H'
theorem inV_str (z : Str) : ∀ ys : List Str, inV (.str z) (ys.map V.str) = decide (z ∈ ys)
  | [] => rfl
  | y :: r => by
    have ih := inV_str z r
    unfold inV at ih ⊢
    rw [List.map_cons, List.any_cons, ih]
    show ((y == z) || decide (z ∈ r)) = decide (z ∈ y :: r)
    by_cases h : y = z
    · subst h
      simp
    · have h2 : (y == z) = false := by simpa using h
      have h3 : ¬ z = y := fun e => h e.symm
      rw [h2, Bool.false_or]
      by_cases h4 : z ∈ r
      · rw [decide_eq_true h4, decide_eq_true (List.mem_cons_of_mem _ h4)]
      · rw [decide_eq_false h4, decide_eq_false (fun h5 => (List.mem_cons.mp h5).elim h3 h4)]
theorem name_of {cs : List Nat} (h0 : 1 ≤ cs.length) (h8 : cs.length ≤ 8) (hk : S cs ∉ kept) (hc : ∀ c ∈ cs, c ∈ abc) : nameB (S cs) = true := by
  unfold nameB
  rw [inV_str, decide_eq_false hk, len_S]
  rw [decide_eq_true (by omega), decide_eq_true (by omega)]
  have : ((tl (S cs)).map (fun c => decide (c ∈ tl "abcdefghijklmnopqrstuvwxyz"))).all id = true := by
    rw [List.all_eq_true]
    intro b hb
    obtain ⟨c, hc2, rfl⟩ := List.mem_map.mp hb
    exact decide_eq_true (hc c hc2)
  rw [this]
  rfl
theorem name_len {z : Str} (h : nameB z = true) : 1 ≤ z.length ∧ z.length ≤ 8 := by
  unfold nameB at h
  simp only [Bool.and_eq_true, decide_eq_true_eq] at h
  omega
theorem name_abc {z : Str} (h : nameB z = true) : ∀ c ∈ tl z, c ∈ abc := by
  unfold nameB at h
  have h2 := (Bool.and_eq_true_iff.mp h).2
  rw [List.all_eq_true] at h2
  intro c hc
  exact of_decide_eq_true (h2 _ (List.mem_map.mpr ⟨c, hc, rfl⟩))
theorem name_kept {z : Str} (h : nameB z = true) : z ∉ kept := by
  unfold nameB at h
  rw [inV_str] at h
  intro hk
  rw [decide_eq_true hk] at h
  cases h
theorem name_two : ∀ c ∈ abc, nameB (S [c, c]) = true := by
  have h : abc.all (fun c => nameB (S [c, c])) = true := by decide +kernel
  exact fun c hc => List.all_eq_true.mp h c hc

/-! ### plans -/
inductive Thing where
  | step (k : Int)
  | loop (x : Str) (a b : Str × Int) (body : List Thing)
  | test (a b : Str × Int) (x y : List Thing)
  | twice (body : List Thing)
  | call (x : Str) (e : Str × Int)
  | again (k : Int) (w : Str)
def encE (e : Str × Int) : D := .tup [.str e.1, .int e.2]
mutual
def enc : Thing → D
  | .step k => .tup [.str "step", .int k]
  | .loop x a b body => .tup [.str "for", .str x, encE a, encE b, .tup (encs body)]
  | .test a b x y => .tup [.str "if", encE a, encE b, .tup (encs x), .tup (encs y)]
  | .twice b => .tup [.str "double", .tup (encs b)]
  | .call x e => .tup [.str "call", .str x, encE e]
  | .again k w => .tup [.str "again", .int k, .str w]
def encs : List Thing → List D
  | [] => []
  | t :: r => enc t :: encs r
end
theorem encs_map : ∀ ts : List Thing, encs ts = ts.map enc
  | [] => rfl
  | t :: r => by
    show enc t :: encs r = enc t :: r.map enc
    rw [encs_map r]
theorem encs_append (a b : List Thing) : encs (a ++ b) = encs a ++ encs b := by rw [encs_map, encs_map, encs_map, List.map_append]
theorem encs_length (ts : List Thing) : (encs ts).length = ts.length := by rw [encs_map, List.length_map]
/-- an end that may stand where the names sc may -/
def EndOk (sc : List Str) (e : Str × Int) : Prop := (e.1 = "" ∧ 0 ≤ e.2 ∧ e.2 ≤ 99) ∨ (e.1 ∈ sc ∧ -99 ≤ e.2 ∧ e.2 ≤ 99)
def ScOk (sc : List Str) : Prop := ∀ x ∈ sc, x = "n" ∨ nameB x = true
def AgOk (k : Int) (w : Str) : Prop := 1 ≤ k ∧ k ≤ 9 ∧ (w = "halves" ∨ w = "thirds" ∨ w = "less")
mutual
/-- a thing with at most n brackets within one another, calling only what C tells; again only where A does -/
def TOk (C : Str → Prop) (A : Prop) : List Str → Nat → Thing → Prop
  | _, _, .step k => 0 ≤ k ∧ k ≤ 99
  | sc, n, .loop x a b body => nameB x = true ∧ x ∉ sc ∧ EndOk sc a ∧ EndOk sc b ∧ body ≠ [] ∧ ∃ m, n = m + 1 ∧ TsOk C A (sc ++ [x]) m body
  | sc, n, .test a b x y => EndOk sc a ∧ EndOk sc b ∧ x ≠ [] ∧ ∃ m, n = m + 1 ∧ TsOk C A sc m x ∧ TsOk C A sc m y
  | sc, n, .twice b => b ≠ [] ∧ ∃ m, n = m + 1 ∧ TsOk C A sc m b
  | sc, _, .call x e => nameB x = true ∧ C x ∧ EndOk sc e
  | _, _, .again k w => A ∧ AgOk k w
def TsOk (C : Str → Prop) (A : Prop) : List Str → Nat → List Thing → Prop
  | _, _, [] => True
  | sc, n, t :: r => TOk C A sc n t ∧ TsOk C A sc n r
end
theorem tsok_iff {C : Str → Prop} {A : Prop} {sc : List Str} {n : Nat} : ∀ ts : List Thing, TsOk C A sc n ts ↔ ∀ t ∈ ts, TOk C A sc n t
  | [] => ⟨fun _ _ h => (by cases h), fun _ => trivial⟩
  | t :: r => by
    show (TOk C A sc n t ∧ TsOk C A sc n r) ↔ _
    rw [tsok_iff r]
    constructor
    · rintro ⟨h1, h2⟩ u hu
      rcases List.mem_cons.mp hu with rfl | hu
      · exact h1
      · exact h2 u hu
    · intro h
      exact ⟨h t List.mem_cons_self, fun u hu => h u (List.mem_cons_of_mem _ hu)⟩
mutual
def cntT : Thing → Nat
  | .step _ => 1
  | .loop _ _ _ b => 1 + cntB b
  | .test _ _ x y => 1 + cntB x + cntB y
  | .twice b => 1 + cntB b
  | .call _ _ => 1
  | .again _ _ => 1
def cntB : List Thing → Nat
  | [] => 0
  | t :: r => cntT t + cntB r
end
theorem cntB_append : ∀ a b : List Thing, cntB (a ++ b) = cntB a + cntB b
  | [], b => by show cntB b = 0 + cntB b; omega
  | t :: r, b => by
    show cntT t + cntB (r ++ b) = cntT t + cntB r + cntB b
    rw [cntB_append r b]
    omega

/-! ### a plan's text -/
def numL (i : Int) : List Nat := tl (toString i)
def endL (e : Str × Int) : List Nat :=
  if e.1 = "" then numL e.2 else if e.2 = 0 then tl e.1 else if 0 < e.2 then tl e.1 ++ tl " + " ++ numL e.2 else tl e.1 ++ tl " - " ++ numL (-e.2)
mutual
def thingL : Thing → List Nat
  | .step k => tl "step " ++ numL k
  | .loop x a b body => tl "for " ++ tl x ++ tl " from " ++ endL a ++ tl " to " ++ endL b ++ tl " (" ++ TL.joinL (tl "; ") (thingsL body) ++ tl ")"
  | .test a b x y => tl "if " ++ endL a ++ tl " <= " ++ endL b ++ tl " (" ++ TL.joinL (tl "; ") (thingsL x) ++ tl ")" ++ (match y with
    | [] => []
    | t :: r => tl " else (" ++ TL.joinL (tl "; ") (thingsL (t :: r)) ++ tl ")")
  | .twice b => tl "double (" ++ TL.joinL (tl "; ") (thingsL b) ++ tl ")"
  | .call x e => tl "call " ++ tl x ++ tl " with " ++ endL e
  | .again k w => tl "again " ++ numL k ++ tl " on " ++ tl w
def thingsL : List Thing → List (List Nat)
  | [] => []
  | t :: r => thingL t :: thingsL r
end
def planL (ts : List Thing) : List Nat := TL.joinL (tl "; ") (thingsL ts)
theorem thingsL_map : ∀ ts : List Thing, thingsL ts = ts.map thingL
  | [] => rfl
  | t :: r => by
    show thingL t :: thingsL r = thingL t :: r.map thingL
    rw [thingsL_map r]
theorem str_ext {a b : Str} (h : tl a = tl b) : a = b := by rw [← S_tl a, ← S_tl b, h]
theorem tl_app (a b : Str) : tl (a ++ b) = tl a ++ tl b := TL.tl_append a b
theorem tl_empty : tl Str.empty = [] := rfl
/-! sizes -/
theorem num_small {i : Int} (h0 : -99 ≤ i) (h1 : i ≤ 99) : (numL i).length ≤ 3 ∧ i.natAbs.log2 < 1920 := by
  have e : ∀ n : Nat, n < 199 → (numL ((n : Int) - 99)).length ≤ 3 ∧ ((n : Int) - 99).natAbs.log2 < 1920 := by
    have h : (List.range 199).all (fun n => decide ((numL ((n : Int) - 99)).length ≤ 3) && decide (((n : Int) - 99).natAbs.log2 < 1920)) = true := by decide +kernel
    intro n hn
    have := List.all_eq_true.mp h n (List.mem_range.mpr hn)
    simpa only [Bool.and_eq_true, decide_eq_true_eq] using this
  have q := e (i + 99).toNat (by omega)
  have e2 : (((i + 99).toNat : Nat) : Int) - 99 = i := by omega
  rw [e2] at q
  exact q
theorem end_small {sc : List Str} {e : Str × Int} (hs : ScOk sc) (h : EndOk sc e) : (endL e).length ≤ 14 ∧ e.1.length ≤ 8 ∧ -99 ≤ e.2 ∧ e.2 ≤ 99 := by
  have hl : e.1.length ≤ 8 ∧ -99 ≤ e.2 ∧ e.2 ≤ 99 := by
    rcases h with ⟨h1, h2, h3⟩ | ⟨h1, h2, h3⟩
    · rw [h1]
      exact ⟨by decide +kernel, by omega, h3⟩
    · rcases hs _ h1 with h4 | h4
      · rw [h4]
        exact ⟨by decide +kernel, h2, h3⟩
      · exact ⟨(name_len h4).2, h2, h3⟩
  refine ⟨?_, hl⟩
  have n1 := (num_small hl.2.1 hl.2.2).1
  have n2 := (num_small (i := -e.2) (by omega) (by omega)).1
  have l1 := len_tl e.1
  have p1 : (tl " + ").length = 3 := by decide +kernel
  have p2 : (tl " - ").length = 3 := by decide +kernel
  unfold endL
  split
  · omega
  · split
    · omega
    · split
      · rw [List.length_append, List.length_append]
        omega
      · rw [List.length_append, List.length_append]
        omega
end OG

set_option Elab.async false
set_option linter.all false
set_option maxRecDepth 100000
set_option maxHeartbeats 4000000
namespace OG
open PySem PySem.Spec PyProof.Rows L2
/-! ### sizes of texts -/
theorem joinL_len (s : List Nat) : ∀ ls : List (List Nat), (TL.joinL s ls).length ≤ (ls.map (fun l => l.length + s.length)).sum
  | [] => Nat.le_refl _
  | [p] => by
    show p.length ≤ (p.length + s.length) + 0
    omega
  | p :: q :: r => by
    have ih := joinL_len s (q :: r)
    show (p ++ (s ++ TL.joinL s (q :: r))).length ≤ (p.length + s.length) + ((q :: r).map (fun l => l.length + s.length)).sum
    rw [List.length_append, List.length_append]
    omega
theorem scOk_snoc {sc : List Str} {x : Str} (h : ScOk sc) (n : nameB x = true) : ScOk (sc ++ [x]) := fun y hy => by
  rcases List.mem_append.mp hy with h1 | h1
  · exact h y h1
  · rw [List.mem_singleton.mp h1]
    exact .inr n
mutual
theorem thing_size {C : Str → Prop} {A : Prop} : ∀ (t : Thing) (sc : List Str) (n : Nat), TOk C A sc n t → ScOk sc → (thingL t).length + 2 ≤ 80 * cntT t
  | .step k, sc, n, h, hs => by
    have e := (num_small (i := k) (by have := h.1; omega) h.2).1
    have c : (tl "step ").length = 5 := by decide +kernel
    show (tl "step " ++ numL k).length + 2 ≤ 80 * 1
    rw [List.length_append]
    omega
  | .loop x a b body, sc, n, h, hs => by
    obtain ⟨h1, h2, h3, h4, h5, m, rfl, h6⟩ := h
    have hn := name_len h1
    have e1 := (end_small hs h3).1
    have e2 := (end_small hs h4).1
    have ih := things_size body _ _ h6 (scOk_snoc hs h1)
    have j := joinL_len (tl "; ") (thingsL body)
    have c0 : (tl "; ").length = 2 := by decide +kernel
    have c1 : (tl "for ").length = 4 := by decide +kernel
    have c2 : (tl " from ").length = 6 := by decide +kernel
    have c3 : (tl " to ").length = 4 := by decide +kernel
    have c4 : (tl " (").length = 2 := by decide +kernel
    have c5 : (tl ")").length = 1 := by decide +kernel
    have l := len_tl x
    rw [c0] at j
    show (tl "for " ++ tl x ++ tl " from " ++ endL a ++ tl " to " ++ endL b ++ tl " (" ++ TL.joinL (tl "; ") (thingsL body) ++ tl ")").length + 2 ≤ 80 * (1 + cntB body)
    simp only [List.length_append]
    omega
  | .test a b x y, sc, n, h, hs => by
    obtain ⟨h3, h4, h5, m, rfl, h6, h7⟩ := h
    have e1 := (end_small hs h3).1
    have e2 := (end_small hs h4).1
    have ih := things_size x _ _ h6 hs
    have j := joinL_len (tl "; ") (thingsL x)
    have ih2 := things_size y _ _ h7 hs
    have j2 := joinL_len (tl "; ") (thingsL y)
    have c0 : (tl "; ").length = 2 := by decide +kernel
    have c1 : (tl "if ").length = 3 := by decide +kernel
    have c2 : (tl " <= ").length = 4 := by decide +kernel
    have c4 : (tl " (").length = 2 := by decide +kernel
    have c5 : (tl ")").length = 1 := by decide +kernel
    have c6 : (tl " else (").length = 7 := by decide +kernel
    rw [c0] at j j2
    cases y with
    | nil =>
      show (tl "if " ++ endL a ++ tl " <= " ++ endL b ++ tl " (" ++ TL.joinL (tl "; ") (thingsL x) ++ tl ")" ++ []).length + 2 ≤ 80 * (1 + cntB x + 0)
      simp only [List.length_append, List.length_nil]
      omega
    | cons t r =>
      show (tl "if " ++ endL a ++ tl " <= " ++ endL b ++ tl " (" ++ TL.joinL (tl "; ") (thingsL x) ++ tl ")" ++ (tl " else (" ++ TL.joinL (tl "; ") (thingsL (t :: r)) ++ tl ")")).length + 2 ≤ 80 * (1 + cntB x + cntB (t :: r))
      simp only [List.length_append]
      omega
  | .twice b, sc, n, h, hs => by
    obtain ⟨h5, m, rfl, h6⟩ := h
    have ih := things_size b _ _ h6 hs
    have j := joinL_len (tl "; ") (thingsL b)
    have c0 : (tl "; ").length = 2 := by decide +kernel
    have c1 : (tl "double (").length = 8 := by decide +kernel
    have c5 : (tl ")").length = 1 := by decide +kernel
    rw [c0] at j
    show (tl "double (" ++ TL.joinL (tl "; ") (thingsL b) ++ tl ")").length + 2 ≤ 80 * (1 + cntB b)
    simp only [List.length_append]
    omega
  | .call x e, sc, n, h, hs => by
    have e1 := (end_small hs h.2.2).1
    have hn := name_len h.1
    have c1 : (tl "call ").length = 5 := by decide +kernel
    have c2 : (tl " with ").length = 6 := by decide +kernel
    have l := len_tl x
    show (tl "call " ++ tl x ++ tl " with " ++ endL e).length + 2 ≤ 80 * 1
    simp only [List.length_append]
    omega
  | .again k w, sc, n, h, hs => by
    obtain ⟨_, h1, h2, h3⟩ := h
    have e := (num_small (i := k) (by omega) (by omega)).1
    have c1 : (tl "again ").length = 6 := by decide +kernel
    have c2 : (tl " on ").length = 4 := by decide +kernel
    have c3 : (tl w).length ≤ 6 := by
      rcases h3 with rfl | rfl | rfl
      · decide +kernel
      · decide +kernel
      · decide +kernel
    show (tl "again " ++ numL k ++ tl " on " ++ tl w).length + 2 ≤ 80 * 1
    simp only [List.length_append]
    omega
theorem things_size {C : Str → Prop} {A : Prop} : ∀ (ts : List Thing) (sc : List Str) (n : Nat), TsOk C A sc n ts → ScOk sc → ((thingsL ts).map (fun l => l.length + 2)).sum ≤ 80 * cntB ts
  | [], _, _, _, _ => Nat.le_refl _
  | t :: r, sc, n, h, hs => by
    have h1 := thing_size t sc n h.1 hs
    have h2 := things_size r sc n h.2 hs
    show ((thingL t).length + 2) + ((thingsL r).map (fun l => l.length + 2)).sum ≤ 80 * (cntT t + cntB r)
    omega
end
theorem plan_size {C : Str → Prop} {A : Prop} {ts : List Thing} {sc : List Str} {n : Nat} (h : TsOk C A sc n ts) (hs : ScOk sc) : (planL ts).length ≤ 80 * cntB ts := by
  have j := joinL_len (tl "; ") (thingsL ts)
  have c0 : (tl "; ").length = 2 := by decide +kernel
  rw [c0] at j
  exact Nat.le_trans j (things_size ts sc n h hs)
theorem cnt_pos : ∀ t : Thing, 1 ≤ cntT t
  | .step _ => Nat.le_refl _
  | .loop _ _ _ b => Nat.le_add_right _ _
  | .test _ _ x y => by show 1 ≤ 1 + cntB x + cntB y; omega
  | .twice b => Nat.le_add_right _ _
  | .call _ _ => Nat.le_refl _
  | .again _ _ => Nat.le_refl _
theorem cnt_len : ∀ ts : List Thing, ts.length ≤ cntB ts
  | [] => Nat.le_refl _
  | t :: r => by
    have h1 := cnt_pos t
    have h2 := cnt_len r
    show r.length + 1 ≤ cntT t + cntB r
    omega
theorem cnt_mem {t : Thing} : ∀ {ts : List Thing}, t ∈ ts → cntT t ≤ cntB ts
  | [], h => by cases h
  | u :: r, h => by
    show cntT t ≤ cntT u + cntB r
    rcases List.mem_cons.mp h with rfl | h
    · omega
    · have := cnt_mem h
      omega
/-! ### a comprehension over a tuple, its element a call that leaves all as it was -/
theorem lc_tup_map {K : PySem.W.Frag} {a : Addr} {xs : List V} {g : TG} {te : TE} {vs : List Nat} {σ : L2.St} {H1 : Hp} {D : Addr} {Qd : Hp → Prop} (ys : List V) (i0 : Nat) (hg : g = gName i0) (hw : ∀ v, wipe ((wipe σ vs).set i0 v) vs = wipe σ vs)
    (hlen : ys.length = xs.length) (hz : xs.length < 100000) (hS : H1 a = some (.tup xs)) (hD : H1 D = none)
    (he : ∀ (i : Nat) (x y : V) (H2 : Hp) (Q : VK), xs[i]? = some x → ys[i]? = some y → Same H1 H2 → (∀ H3, Same H2 H3 → Q y H3) → te ((wipe σ vs).set i0 (some x)) H2 Q)
    (hd : ∀ H', Same H1 H' → H' D = some (.lst ys) → Qd H') :
    ∃ W : Nat → Nat → Hp → Prop, (∃ m, W 0 m (upd H1 D (.lst []))) ∧ ∀ i m H, W i m H →
      ((Itt K a).stop i H ∧ Qd H) ∨ ((Itt K a).go i H ∧ ∃ Nx : Hp → Prop, (∀ H', Nx H' → ∃ m', m' < m ∧ W (i + 1) m' H') ∧ ∀ x H', (Itt K a).yld i H x H' → g x (wipe σ vs) H' fun σ2 H2 => wipe σ2 vs = wipe σ vs ∧ tYes σ2 H2 fun b H3 =>
        if b = true then te σ2 H3 fun y H4 => ∃ acc, H4 D = some (.lst acc) ∧ acc.length < sizeLine ∧ Nx (upd H4 D (.lst (acc ++ [y]))) else Nx H3) := by
  subst hg
  refine lc_tup (xs := xs) (fun i H' => Same H1 H' ∧ H' D = some (.lst (ys.take i))) ⟨same_new hD, upd_same⟩ (fun i H' hi hP => SqT.of (hP.1 _ _ hS)) (fun i x H' hx hP => ?_) (fun H' hP => ?_)
  · obtain ⟨sm, hl⟩ := hP
    have hi : i < ys.length := by
      rw [hlen]
      obtain ⟨h, _⟩ := List.getElem?_eq_some_iff.mp hx
      exact h
    refine ⟨hw _, yes_go ?_⟩
    refine he i x ys[i] H' _ hx (List.getElem?_eq_getElem hi) sm fun H3 s3 => ?_
    refine ⟨ys.take i, s3 _ _ hl, ?_, Same.upd_new (sm.trans s3) hD, ?_⟩
    · rw [List.length_take]
      exact szl (by omega)
    · rw [upd_same, List.take_add_one, List.getElem?_eq_getElem hi]
      rfl
  · obtain ⟨sm, hl⟩ := hP
    rw [← hlen, List.take_length] at hl
    exact hd H' sm hl
/-! ### what the writers promise -/
def spEndText : Sp := fun vs H Q _ => ∃ (v : V) (e : Str × Int), vs = [v] ∧ Rp H v (encE e) ∧ e.1.length ≤ 100 ∧ -99 ≤ e.2 ∧ e.2 ≤ 99 ∧ ∀ H', Same H H' → Q (.str (S (endL e))) H'
def spThingText (n : Nat) : Sp := fun vs H Q _ => ∃ (v : V) (t : Thing) (C : Str → Prop) (A : Prop) (sc : List Str), vs = [v] ∧ Rp H v (enc t) ∧ TOk C A sc n t ∧ ScOk sc ∧ cntT t ≤ 1000 ∧ ∀ H', Same H H' → Q (.str (S (thingL t))) H'
def spPlanText (n : Nat) : Sp := fun vs H Q _ => ∃ (v : V) (ts : List Thing) (C : Str → Prop) (A : Prop) (sc : List Str), vs = [v] ∧ Rp H v (.tup (encs ts)) ∧ TsOk C A sc n ts ∧ ScOk sc ∧ cntB ts ≤ 1000 ∧ ∀ H', Same H H' → Q (.str (S (planL ts))) H'
/-- the same for the things of one kind -/
def spOne (kind : Thing → Prop) (n : Nat) : Sp := fun vs H Q _ => ∃ (v : V) (t : Thing) (C : Str → Prop) (A : Prop) (sc : List Str), vs = [v] ∧ kind t ∧ Rp H v (enc t) ∧ TOk C A sc n t ∧ ScOk sc ∧ cntT t ≤ 1000 ∧ ∀ H', Same H H' → Q (.str (S (thingL t))) H'
theorem endL_len {e : Str × Int} (h : e.1.length ≤ 100) (h1 : -99 ≤ e.2) (h2 : e.2 ≤ 99) : (endL e).length ≤ 110 := by
  have n1 := (num_small h1 h2).1
  have n2 := (num_small (i := -e.2) (by omega) (by omega)).1
  have l1 := len_tl e.1
  have p1 : (tl " + ").length = 3 := by decide +kernel
  have p2 : (tl " - ").length = 3 := by decide +kernel
  unfold endL
  split
  · omega
  · split
    · omega
    · split
      · rw [List.length_append, List.length_append]
        omega
      · rw [List.length_append, List.length_append]
        omega
/-! ### how a heap goes on: what M tells may be written, tuples stay -/
structure Go (M : Addr → Prop) (H H' : Hp) : Prop where
  sx : Sx M H H'
  im : Imm H H'
theorem Go.refl (M : Addr → Prop) (H : Hp) : Go M H H := ⟨Sx.refl M H, Imm.refl H⟩
theorem Go.trans {M : Addr → Prop} {H H1 H2 : Hp} (a : Go M H H1) (b : Go M H1 H2) : Go M H H2 := ⟨a.sx.trans b.sx, a.im.trans b.im⟩
theorem Go.same {M : Addr → Prop} {H H' : Hp} (a : Same H H') : Go M H H' := ⟨Sx.of_same a, Imm.same a⟩
theorem Go.new {M : Addr → Prop} {H H' : Hp} {p : Addr} {o : HO} (a : Go M H H') (h : H' p = none) : Go M H (upd H' p o) := a.trans (Go.same (same_new h))
theorem Go.mono {M N : Addr → Prop} {H H' : Hp} (a : Go M H H') (h : ∀ b, M b → N b) : Go N H H' := ⟨a.sx.mono h, a.im⟩
theorem Go.but {M : Addr → Prop} {H H' : Hp} {d L : Addr} (h : Dr H d L) (a : But d H H') (m : M d) : Go M H H' := ⟨Sx.of_but a m, h.imm a⟩
theorem Go.set {M : Addr → Prop} {H H' : Hp} {p : Addr} {o : HO} {l : List V} (a : Go M H H') (m : M p) (h : H' p = some (.lst l)) : Go M H (upd H' p o) :=
  ⟨a.sx.upd_in m, a.im.trans ((Imm.refl H').upd fun xs e => by rw [h] at e; cases e)⟩
theorem Go.own {M : Addr → Prop} {H H' : Hp} {p : Addr} {o : HO} (a : Go M H H') (h : H p = none) : Go M H (upd H' p o) :=
  ⟨a.sx.upd_new h, a.im.upd fun xs e => by rw [h] at e; cases e⟩
theorem Go.at {M : Addr → Prop} {H H' : Hp} {p : Addr} {o : HO} (a : Go M H H') (h : H p = some o) (n : ¬ M p) : H' p = some o := a.sx p o n h
/-- what is not tracked behind was not tracked ahead, where M's own are tracked behind -/
theorem Go.free {M : Addr → Prop} {H H' : Hp} {p : Addr} (a : Go M H H') (h : H' p = none) (n : ¬ M p) : H p = none := by
  cases q : H p with
  | none => rfl
  | some o =>
    rw [a.sx p o n q] at h
    cases h
theorem mem_ints2 {v : V} {a b : Int} (h : v ∈ [V.int a, .int b]) : ∃ m, v = .int m ∧ (m = a ∨ m = b) := by
  rcases List.mem_cons.mp h with rfl | h
  · exact ⟨a, rfl, .inl rfl⟩
  rcases List.mem_cons.mp h with rfl | h
  · exact ⟨b, rfl, .inr rfl⟩
  · cases h
theorem mem_ints3 {v : V} {a b c : Int} (h : v ∈ [V.int a, .int b, .int c]) : ∃ m, v = .int m ∧ (m = a ∨ m = b ∨ m = c) := by
  rcases List.mem_cons.mp h with rfl | h
  · exact ⟨a, rfl, .inl rfl⟩
  obtain ⟨m, e, q⟩ := mem_ints2 h
  exact ⟨m, e, .inr q⟩
theorem mem_ints {v : V} {ns : List Int} (h : v ∈ ns.map V.int) : ∃ m, v = .int m ∧ m ∈ ns := by
  obtain ⟨m, hm, e⟩ := List.mem_map.mp h
  exact ⟨m, e.symm, hm⟩
theorem mem_strs {v : V} {ns : List Str} (h : v ∈ ns.map V.str) : ∃ m, v = .str m ∧ m ∈ ns := by
  obtain ⟨m, hm, e⟩ := List.mem_map.mp h
  exact ⟨m, e.symm, hm⟩
/-! ### what the drawing promises -/
/-- the kit: room, the names that may be called (none), figures, wide -/
def Kt (H : Hp) (k kd : Addr) (r : Int) (fig wide : Bool) : Prop := H k = some (.lst [.int r, .ref kd, .bl fig, .bl wide]) ∧ H kd = some (.dK [])
def M2 (d k : Addr) : Addr → Prop := fun b => b = d ∨ b = k
/-- _law_some_end(draw, scope, wide) -/
def spSomeEnd : Sp := fun vs H Q _ => ∃ (d L sc : Addr) (ns : List Str) (wide : Bool), vs = [.ref d, .ref sc, .bl wide] ∧ Dr H d L ∧ H sc = some (.lst (ns.map V.str)) ∧ sc ≠ d ∧ ns ≠ [] ∧ ns.length < 100 ∧
  ∀ (v : V) (e : Str × Int) (H' : Hp), Rp H' v (encE e) → EndOk ns e → Dr H' d L → Go (· = d) H H' → Q v H'
/-- _law_fresh(draw, taken) -/
def spFresh : Sp := fun vs H Q _ => ∃ (d L sc : Addr) (ns : List Str), vs = [.ref d, .ref sc] ∧ Dr H d L ∧ H sc = some (.lst (ns.map V.str)) ∧ sc ≠ d ∧ ns.length < 26 ∧
  ∀ (x : Str) (H' : Hp), nameB x = true → x ∉ ns → Dr H' d L → Go (· = d) H H' → Q (.str x) H'
/-- no name may be called -/
abbrev C0 : Str → Prop := fun _ => False
/-- _law_leaf(draw, kit, scope, deep) -/
def spLeaf : Sp := fun vs H Q _ => ∃ (d L k kd sc : Addr) (dp r : Int) (fig wide : Bool), vs = [.ref d, .ref k, .ref sc, .int dp] ∧ Dr H d L ∧ Kt H k kd r fig wide ∧ k ≠ d ∧
  ∀ (v : V) (t : Thing) (H' : Hp), Rp H' v (enc t) → (∀ ns n, TOk C0 False ns n t) → cntT t = 1 → Dr H' d L → Go (· = d) H H' → Q v H'
/-- what a drawing of things is handed -/
def spDraw (post : Nat → List Str → V → Hp → Nat → Prop) (n : Nat) : Sp := fun vs H Q _ => ∃ (d L k kd sc : Addr) (r : Nat) (fig wide : Bool) (ns : List Str), vs = [.ref d, .ref k, .ref sc, .int (4 - n)] ∧ Dr H d L ∧ Kt H k kd r fig wide ∧ k ≠ d ∧ k ≠ L ∧ 1 ≤ r ∧ r ≤ 100 ∧
  H sc = some (.lst (ns.map V.str)) ∧ sc ≠ d ∧ sc ≠ k ∧ ScOk ns ∧ ns ≠ [] ∧ ns.length + n ≤ 20 ∧
  ∀ (v : V) (c r' : Nat) (H' : Hp), post n ns v H' c → c + r' = r → Dr H' d L → Kt H' k kd r' fig wide → Go (M2 d k) H H' → Q v H'
def spDrawThing : Nat → Sp := spDraw fun n ns v H' c => ∃ t, Rp H' v (enc t) ∧ TOk C0 False ns n t ∧ cntT t = c
def spDrawBody : Nat → Sp := spDraw fun n ns v H' c => ∃ ts, ts ≠ [] ∧ Rp H' v (.tup (encs ts)) ∧ TsOk C0 False ns n ts ∧ cntB ts = c
/-- _law_drawn(draw, room, figures, wide) -/
def spDrawn : Sp := fun vs H Q _ => ∃ (d L : Addr) (r : Nat) (fig wide : Bool), vs = [.ref d, .int r, .bl fig, .bl wide] ∧ Dr H d L ∧ 1 ≤ r ∧ r ≤ 100 ∧
  ∀ (v : V) (ts : List Thing) (H' : Hp), ts ≠ [] → Rp H' v (.tup (encs ts)) → TsOk C0 False ["n"] 4 ts → cntB ts ≤ r → Dr H' d L → Go (· = d) H H' → Q v H'
/-- of fewer than 26 names one of the doubled letters is none -/
theorem nodup_sub : ∀ {xs ys : List Str}, xs.Nodup → (∀ x ∈ xs, x ∈ ys) → xs.length ≤ ys.length
  | [], _, _, _ => Nat.zero_le _
  | x :: r, ys, h, s => by
    obtain ⟨h1, h2⟩ := List.nodup_cons.mp h
    have hx := s x List.mem_cons_self
    have ih := nodup_sub (xs := r) (ys := ys.erase x) h2 (fun y hy => by
      have hne : y ≠ x := fun e => h1 (e ▸ hy)
      exact (List.mem_erase_of_ne hne).mpr (s y (List.mem_cons_of_mem _ hy)))
    rw [List.length_erase_of_mem hx] at ih
    have : 0 < ys.length := List.length_pos_of_mem hx
    rw [List.length_cons]
    omega
def spare : List Str := abc.map fun c => S [c, c]
theorem spare_nodup : spare.Nodup := by decide +kernel
theorem spare_free {ns : List Str} (h : ns.length < 26) : ∃ x ∈ spare, x ∉ ns := by
  by_cases c : ∃ x ∈ spare, x ∉ ns
  · exact c
  · have : spare.length ≤ ns.length := nodup_sub spare_nodup (fun x hx => by
      by_cases hn : x ∈ ns
      · exact hn
      · exact absurd ⟨x, hx, hn⟩ c)
    have e : spare.length = 26 := by decide +kernel
    omega
theorem spare_name {x : Str} (h : x ∈ spare) : nameB x = true := by
  obtain ⟨c, hc, rfl⟩ := List.mem_map.mp h
  exact name_two c hc
end OG

set_option Elab.async false
set_option linter.all false
set_option maxRecDepth 100000
set_option maxHeartbeats 4000000
namespace OG
open PySem PySem.Spec PyProof.Rows L2
/-! ### two values that stand for one datum -/
def Eq2 (H : Hp) : Nat → V → V → Prop
  | 0, v, w => v = w ∧ flatV v = true
  | n + 1, v, w => (v = w ∧ flatV v = true) ∨
    (∃ (a b : Addr) (vs ws : List V), v = .ref a ∧ w = .ref b ∧ ((H a = some (.tup vs) ∧ H b = some (.tup ws)) ∨ (H a = some (.lst vs) ∧ H b = some (.lst ws))) ∧ vs.length = ws.length ∧ vs.length < 100000 ∧
      ∀ (i : Nat) x y, vs[i]? = some x → ws[i]? = some y → Eq2 H n x y)
theorem Eq2.same {H H' : Hp} (s : Same H H') : ∀ {n : Nat} {v w : V}, Eq2 H n v w → Eq2 H' n v w
  | 0, _, _, h => h
  | n + 1, v, w, h => by
    rcases h with h | ⟨a, b, vs, ws, e1, e2, h, hl, hz, q⟩
    · exact .inl h
    · refine .inr ⟨a, b, vs, ws, e1, e2, ?_, hl, hz, fun i x y hx hy => Eq2.same s (q i x y hx hy)⟩
      rcases h with ⟨h1, h2⟩ | ⟨h1, h2⟩
      · exact .inl ⟨s _ _ h1, s _ _ h2⟩
      · exact .inr ⟨s _ _ h1, s _ _ h2⟩
theorem Eq2.flat {H : Hp} {v : V} (h : flatV v = true) : ∀ n, Eq2 H n v v
  | 0 => ⟨rfl, h⟩
  | n + 1 => .inl ⟨rfl, h⟩
mutual
/-- how deep tuples stand in one another -/
def depD : D → Nat
  | .tup xs => 1 + depL xs
  | _ => 0
def depL : List D → Nat
  | [] => 0
  | x :: xs => max (depD x) (depL xs)
end
mutual
/-- no tuple is too long -/
def fitD : D → Prop
  | .tup xs => xs.length < 100000 ∧ fitL xs
  | _ => True
def fitL : List D → Prop
  | [] => True
  | x :: xs => fitD x ∧ fitL xs
end
theorem fit_get : ∀ {xs : List D} {i : Nat} {x : D}, fitL xs → xs[i]? = some x → fitD x
  | [], _, _, _, h => by simp at h
  | y :: ys, 0, x, f, h => by
    have : y = x := Option.some.inj h
    exact this ▸ f.1
  | y :: ys, i + 1, x, f, h => fit_get (xs := ys) (i := i) f.2 h
theorem dep_get : ∀ {xs : List D} {i : Nat} {x : D}, xs[i]? = some x → depD x ≤ depL xs
  | [], _, _, h => by simp at h
  | y :: ys, 0, x, h => by
    have : y = x := Option.some.inj h
    rw [← this]
    exact Nat.le_max_left _ _
  | y :: ys, i + 1, x, h => Nat.le_trans (dep_get (xs := ys) (i := i) h) (Nat.le_max_right _ _)
theorem eq2_of {H : Hp} : ∀ (n : Nat) (x : D) (v w : V), Rp H v x → Rp H w x → depD x ≤ n → fitD x → Eq2 H n v w
  | n, .non, _, _, h, k, _, _ => by rw [show _ = V.non from h, show _ = V.non from k]; exact Eq2.flat rfl n
  | n, .bl b, _, _, h, k, _, _ => by rw [show _ = V.bl b from h, show _ = V.bl b from k]; exact Eq2.flat rfl n
  | n, .int i, _, _, h, k, _, _ => by rw [show _ = V.int i from h, show _ = V.int i from k]; exact Eq2.flat rfl n
  | n, .str z, _, _, h, k, _, _ => by rw [show _ = V.str z from h, show _ = V.str z from k]; exact Eq2.flat rfl n
  | 0, .tup xs, _, _, _, _, hd, _ => by
    have : 1 + depL xs ≤ 0 := hd
    omega
  | n + 1, .tup xs, v, w, h, k, hd, hf => by
    obtain ⟨a, vs, e1, h1, r1⟩ := h
    obtain ⟨b, ws, e2, h2, r2⟩ := k
    have l1 := r1.length
    have l2 := r2.length
    have hd2 : depL xs ≤ n := by
      have : 1 + depL xs ≤ n + 1 := hd
      omega
    refine .inr ⟨a, b, vs, ws, e1, e2, .inl ⟨h1, h2⟩, l1.trans l2.symm, by rw [l1]; exact hf.1, fun i x y hx hy => ?_⟩
    obtain ⟨d1, g1, p1⟩ := r1.get hx
    obtain ⟨d2, g2, p2⟩ := r2.get hy
    have e : d1 = d2 := Option.some.inj (g1.symm.trans g2)
    subst e
    exact eq2_of n d1 x y p1 p2 (Nat.le_trans (dep_get g1) hd2) (fit_get hf.2 g1)
def spSame (n : Nat) : Sp := fun vs H Q _ => ∃ v w : V, vs = [v, w] ∧ Eq2 H n v w ∧ ∀ H', Same H H' → Q (.bl true) H'
def prevS : Nat → Sp
  | 0 => fun _ _ _ _ => False
  | n + 1 => spSame n
/-- zip of two tuples -/
theorem walk_zipT {K : PySem.W.Frag} {a b : Addr} {xs ys : List V} {n : Nat} (hn : n = min xs.length ys.length) : Walk (RZ.ItzT K a b) n (fun H => SqT K H a xs ∧ SqT K H b ys) (YPair (fun i => xs[i]?) (fun i => ys[i]?)) := by
  subst hn
  refine ⟨fun i _ hi q => ?_, fun _ q => ⟨xs, ys, q.1, q.2, by omega⟩, fun i H v H' _ q y => ?_⟩
  · have h1 : i < xs.length := by omega
    have h2 : i < ys.length := by omega
    exact ⟨xs, ys, xs[i], ys[i], q.1, q.2, by simp [h1], by simp [h2]⟩
  · obtain ⟨T, x, z, h1, h2, h3, h4, h5⟩ := y
    exact ⟨T, x, z, h1, h2, h3, h4 xs q.1, h5 ys q.2⟩
theorem fn_none {P : Program} {w : World} {K : PySem.W.Frag} {mg : Str → Option Value} {base : Heap} {f : Addr} {fd : FuncData} {k : Nat} {ps : List Str} : FnOk P w K mg base CX0 k f fd ps (fun _ _ _ _ => False) :=
  ⟨fun _ _ _ _ h => h.elim, fun _ _ _ _ _ _ _ _ _ _ _ _ _ h => h.elim⟩
theorem all_trues : ∀ n : Nat, (List.replicate n true).all id = true
  | 0 => rfl
  | n + 1 => by rw [List.replicate_succ, List.all_cons, all_trues n]; rfl
theorem pg_tupK {X : Cx} {K : PySem.W.Frag} {es : List Expr} {k : Nat} {t : TGs} {n : Nat} {pos : Pos} (hK : X.K = K) (hc : X.calm = true) (h : PGs X es t) (hn : (assignEach es X.env).length = n := by rfl) (hst : (assignEach es X.env).findIdx? (·.1) = none := by rfl) : PG X (.Tuple es k pos) (gTup K n t) := by
  subst hK
  exact pg_tup hc h hn hst
end OG

set_option Elab.async false
set_option linter.all false
set_option maxRecDepth 100000
set_option maxHeartbeats 4000000
namespace OG
open PySem PySem.Spec PyProof.Rows L2
theorem str_to {Q : VK} {a b : Str} {H : Hp} (h : Q (.str b) H) (e : tl a = tl b) : Q (.str a) H := by rw [str_ext e]; exact h
theorem szs {a b : Str} (h : a.length + b.length ≤ 100000) : (a ++ b).length ≤ sizeLine := by rw [len_app]; exact sz h
theorem szc {a b : Str} (h : a.length + b.length ≤ 100000) : a.length + b.length ≤ sizeLine := sz h
theorem l_emp : Str.empty.length = 0 := rfl
theorem l_0 : ("" : Str).length = 0 := by decide +kernel
theorem l_plus : (" + " : Str).length = 3 := by decide +kernel
theorem l_minus : (" - " : Str).length = 3 := by decide +kernel
theorem l_step : ("step " : Str).length = 5 := by decide +kernel
theorem l_for : ("for " : Str).length = 4 := by decide +kernel
theorem l_from : (" from " : Str).length = 6 := by decide +kernel
theorem l_to : (" to " : Str).length = 4 := by decide +kernel
theorem l_open : (" (" : Str).length = 2 := by decide +kernel
theorem l_shut : (")" : Str).length = 1 := by decide +kernel
theorem l_if : ("if " : Str).length = 3 := by decide +kernel
theorem l_le : (" <= " : Str).length = 4 := by decide +kernel
theorem l_else : (" else (" : Str).length = 7 := by decide +kernel
theorem l_double : ("double (" : Str).length = 8 := by decide +kernel
theorem l_call : ("call " : Str).length = 5 := by decide +kernel
theorem l_with : (" with " : Str).length = 6 := by decide +kernel
theorem l_again : ("again " : Str).length = 6 := by decide +kernel
theorem l_on : (" on " : Str).length = 4 := by decide +kernel
theorem numL_len {i : Int} (h0 : -99 ≤ i) (h1 : i ≤ 99) : ((toString i : Str)).length ≤ 3 := by
  have := (num_small h0 h1).1
  unfold numL at this
  rw [← len_tl] at this
  exact this
theorem int_log {i : Int} (h0 : -99 ≤ i) (h1 : i ≤ 99) : i.natAbs.log2 < 1920 := (num_small h0 h1).2
theorem strs_len (ls : List (List Nat)) : ((ls.map S).map (·.length)).sum = (ls.map (·.length)).sum := by
  rw [List.map_map]
  congr 1
theorem sum_le_two : ∀ ls : List (List Nat), (ls.map (·.length)).sum + ls.length * 2 = (ls.map (fun l => l.length + 2)).sum
  | [] => rfl
  | l :: r => by
    have ih := sum_le_two r
    rw [List.map_cons, List.map_cons, List.sum_cons, List.sum_cons, List.length_cons]
    omega
/-- '; '.join of the things' texts -/
theorem join_things (ts : List Thing) : Txt.join "; " (ts.map fun t => S (thingL t)) = S (planL ts) := by
  have e := SX.join_S (tl "; ") (thingsL ts)
  have e1 : SX.S (tl "; ") = ("; " : Str) := S_tl _
  rw [e1] at e
  have e2 : (thingsL ts).map SX.S = ts.map fun t => S (thingL t) := by
    rw [thingsL_map, List.map_map]
    rfl
  rw [e2] at e
  exact e
theorem things_sum {C : Str → Prop} {A : Prop} {ts : List Thing} {sc : List Str} {n : Nat} (h : TsOk C A sc n ts) (hs : ScOk sc) (hc : cntB ts ≤ 1000) :
    (((ts.map fun t => S (thingL t))).map (·.length)).sum + (ts.map fun t => S (thingL t)).length * ("; " : Str).length ≤ 16777216 := by
  have c0 : ("; " : Str).length = 2 := by decide +kernel
  have e : (ts.map fun t => S (thingL t)) = (thingsL ts).map S := by
    rw [thingsL_map, List.map_map]
    rfl
  rw [e, strs_len, c0, List.length_map, sum_le_two]
  have := things_size ts sc n h hs
  omega
theorem body_len {C : Str → Prop} {A : Prop} {ts : List Thing} {sc : List Str} {n : Nat} (h : TsOk C A sc n ts) (hs : ScOk sc) (hc : cntB ts ≤ 1000) : (planL ts).length ≤ 80000 := by
  have := plan_size h hs
  omega
theorem rpl_things {H : Hp} {vs : List V} {ts : List Thing} (h : RpL H vs (encs ts)) {i : Nat} {x : V} (hx : vs[i]? = some x) : ∃ t, ts[i]? = some t ∧ Rp H x (enc t) := by
  obtain ⟨d, hd, hr⟩ := h.get hx
  rw [encs_map, List.getElem?_map] at hd
  cases ht : ts[i]? with
  | none => rw [ht] at hd; cases hd
  | some t =>
    rw [ht] at hd
    have : enc t = d := Option.some.inj hd
    exact ⟨t, rfl, this ▸ hr⟩
end OG

set_option Elab.async false
set_option linter.all false
set_option maxRecDepth 100000
set_option maxHeartbeats 4000000
namespace OG
open PySem PySem.Spec PyProof.Rows L2
mutual
def toPy : D → PyData
  | .non => .none
  | .bl b => .bool b
  | .int n => .int n
  | .str z => .str z
  | .tup xs => .tuple (toPys xs)
def toPys : List D → List PyData
  | [] => []
  | x :: xs => toPy x :: toPys xs
end
mutual
theorem rp_dp {K : PySem.W.Frag} {H : Hp} : ∀ (x : D) (v : V), Rp H v x → Dp K H v (toPy x)
  | .non, _, h => by rw [show _ = V.non from h]; exact .non
  | .bl b, _, h => by rw [show _ = V.bl b from h]; exact .bl b
  | .int n, _, h => by rw [show _ = V.int n from h]; exact .int n
  | .str z, _, h => by rw [show _ = V.str z from h]; exact .str z
  | .tup xs, _, h => by
    obtain ⟨a, vs, e, q, r⟩ := h
    rw [e]
    exact .tup (SqT.of q) (rp_dps xs vs r)
theorem rp_dps {K : PySem.W.Frag} {H : Hp} : ∀ (xs : List D) (vs : List V), RpL H vs xs → DpAll K H vs (toPys xs)
  | [], _, h => by rw [show _ = [] from h]; exact .nil
  | x :: xs, _, h => by
    obtain ⟨v, r, e, q, t⟩ := h
    rw [e]
    exact .cons (rp_dp x v q) (rp_dps xs r t)
end
theorem abc_range : ∀ c ∈ abc, 97 ≤ c ∧ c ≤ 122 := by
  have h : abc.all (fun c => decide (97 ≤ c) && decide (c ≤ 122)) = true := by decide +kernel
  intro c hc
  have := List.all_eq_true.mp h c hc
  simpa only [Bool.and_eq_true, decide_eq_true_eq] using this
theorem name_strOk {z : Str} (h : nameB z = true) : PyData.strOk z = true := by
  have ha := name_abc h
  unfold PyData.strOk
  rw [Array.all_eq_true']
  intro c hc
  have := abc_range c (ha c (by simpa [tl] using hc))
  simp
  omega
theorem end_py {sc : List Str} {e : Str × Int} (hs : ScOk sc) (h : EndOk sc e) : (toPy (encE e)).canLay0 = true ∧ (toPy (encE e)).depth = 1 := by
  have h1 : PyData.strOk e.1 = true := by
    rcases h with ⟨h1, _⟩ | ⟨h1, _⟩
    · rw [h1]
      decide +kernel
    · rcases hs _ h1 with h2 | h2
      · rw [h2]
        decide +kernel
      · exact name_strOk h2
  refine ⟨?_, rfl⟩
  show (PyData.strOk e.1 && (true && true)) = true
  rw [h1]
  rfl
mutual
theorem thing_py {C : Str → Prop} {A : Prop} : ∀ (t : Thing) (sc : List Str) (n : Nat), TOk C A sc n t → ScOk sc → (toPy (enc t)).canLay0 = true ∧ (toPy (enc t)).depth ≤ 2 * n + 2
  | .step k, sc, n, h, hs => ⟨by show (PyData.strOk "step" && (true && true)) = true; decide +kernel, by show 1 ≤ 2 * n + 2; omega⟩
  | .loop x a b body, sc, n, h, hs => by
    obtain ⟨h1, h2, h3, h4, h5, m, rfl, h6⟩ := h
    obtain ⟨a1, a2⟩ := end_py hs h3
    obtain ⟨b1, b2⟩ := end_py hs h4
    obtain ⟨c1, c2⟩ := things_py body _ _ h6 (scOk_snoc hs h1)
    have f1 : PyData.strOk "for" = true := by decide +kernel
    constructor
    · show (PyData.strOk "for" && (PyData.strOk x && ((toPy (encE a)).canLay0 && ((toPy (encE b)).canLay0 && (PyData.canLayAll0 (toPys (encs body)) && true))))) = true
      rw [f1, name_strOk h1, a1, b1, c1]
      rfl
    · show max 0 (max 0 (max (toPy (encE a)).depth (max (toPy (encE b)).depth (max (PyData.depthAll (toPys (encs body)) + 1) 0)))) + 1 ≤ 2 * (m + 1) + 2
      rw [a2, b2]
      omega
  | .test a b x y, sc, n, h, hs => by
    obtain ⟨h3, h4, h5, m, rfl, h6, h7⟩ := h
    obtain ⟨a1, a2⟩ := end_py hs h3
    obtain ⟨b1, b2⟩ := end_py hs h4
    obtain ⟨c1, c2⟩ := things_py x _ _ h6 hs
    obtain ⟨d1, d2⟩ := things_py y _ _ h7 hs
    have f1 : PyData.strOk "if" = true := by decide +kernel
    constructor
    · show (PyData.strOk "if" && ((toPy (encE a)).canLay0 && ((toPy (encE b)).canLay0 && (PyData.canLayAll0 (toPys (encs x)) && (PyData.canLayAll0 (toPys (encs y)) && true))))) = true
      rw [f1, a1, b1, c1, d1]
      rfl
    · show max 0 (max (toPy (encE a)).depth (max (toPy (encE b)).depth (max (PyData.depthAll (toPys (encs x)) + 1) (max (PyData.depthAll (toPys (encs y)) + 1) 0)))) + 1 ≤ 2 * (m + 1) + 2
      rw [a2, b2]
      omega
  | .twice b, sc, n, h, hs => by
    obtain ⟨h5, m, rfl, h6⟩ := h
    obtain ⟨c1, c2⟩ := things_py b _ _ h6 hs
    have f1 : PyData.strOk "double" = true := by decide +kernel
    constructor
    · show (PyData.strOk "double" && (PyData.canLayAll0 (toPys (encs b)) && true)) = true
      rw [f1, c1]
      rfl
    · show max 0 (max (PyData.depthAll (toPys (encs b)) + 1) 0) + 1 ≤ 2 * (m + 1) + 2
      omega
  | .call x e, sc, n, h, hs => by
    obtain ⟨a1, a2⟩ := end_py hs h.2.2
    have f1 : PyData.strOk "call" = true := by decide +kernel
    constructor
    · show (PyData.strOk "call" && (PyData.strOk x && ((toPy (encE e)).canLay0 && true))) = true
      rw [f1, name_strOk h.1, a1]
      rfl
    · show max 0 (max 0 (max (toPy (encE e)).depth 0)) + 1 ≤ 2 * n + 2
      rw [a2]
      omega
  | .again k w, sc, n, h, hs => by
    obtain ⟨_, _, _, h3⟩ := h
    have f1 : PyData.strOk "again" = true := by decide +kernel
    have f2 : PyData.strOk w = true := by
      rcases h3 with rfl | rfl | rfl
      · decide +kernel
      · decide +kernel
      · decide +kernel
    constructor
    · show (PyData.strOk "again" && (true && (PyData.strOk w && true))) = true
      rw [f1, f2]
      rfl
    · show 1 ≤ 2 * n + 2
      omega
theorem things_py {C : Str → Prop} {A : Prop} : ∀ (ts : List Thing) (sc : List Str) (n : Nat), TsOk C A sc n ts → ScOk sc → PyData.canLayAll0 (toPys (encs ts)) = true ∧ PyData.depthAll (toPys (encs ts)) ≤ 2 * n + 2
  | [], _, _, _, _ => ⟨rfl, Nat.zero_le _⟩
  | t :: r, sc, n, h, hs => by
    obtain ⟨a1, a2⟩ := thing_py t sc n h.1 hs
    obtain ⟨b1, b2⟩ := things_py r sc n h.2 hs
    constructor
    · show ((toPy (enc t)).canLay0 && PyData.canLayAll0 (toPys (encs r))) = true
      rw [a1, b1]
      rfl
    · show max (toPy (enc t)).depth (PyData.depthAll (toPys (encs r))) ≤ 2 * n + 2
      omega
end
/-- a body against the empty tuple -/
theorem body_eqv {C : Str → Prop} {A : Prop} {ts : List Thing} {sc : List Str} {n : Nat} (h : TsOk C A sc n ts) (hs : ScOk sc) (hn : n ≤ 20) :
    SeqAt.shaped (toPy (.tup (encs ts))) = true ∧ PyData.eqv (toPy (.tup (encs ts))) (.tuple []) = ts.isEmpty := by
  obtain ⟨a1, a2⟩ := things_py ts sc n h hs
  constructor
  · unfold SeqAt.shaped
    rw [show (toPy (.tup (encs ts))).canLay0 = true from a1]
    have : (toPy (.tup (encs ts))).depth ≤ 64 := by
      show PyData.depthAll (toPys (encs ts)) + 1 ≤ 64
      omega
    rw [decide_eq_true this]
    rfl
  · cases ts with
    | nil => rfl
    | cons t r => rfl
end OG

set_option Elab.async false
set_option linter.all false
set_option maxRecDepth 100000
set_option maxHeartbeats 4000000
namespace OG
open PySem PySem.Spec PyProof.Rows L2
def cutD (xs : List D) (lo hi : Option Int) : List D := (xs.drop (HT.sIx xs.length 0 lo)).take (HT.sIx xs.length xs.length hi - HT.sIx xs.length 0 lo)
theorem sl_rp {K : PySem.W.Frag} {H : Hp} {v : V} {xs : List D} {lo hi : Option Int} {Q : VK} (h : Rp H v (.tup xs)) (q : ∀ v' H', Same H H' → Rp H' v' (.tup (cutD xs lo hi)) → Q v' H') : rSlA K v lo hi H Q := by
  obtain ⟨a, vs, rfl, ha, r⟩ := id h
  have l := r.length
  refine ⟨a, vs, rfl, SqT.of ha, fun hw => ?_, fun hw p np => ?_⟩
  · have e : cutD xs lo hi = xs := by
      unfold cutD
      rw [← l, hw.1, hw.2, List.drop_zero, Nat.sub_zero, l, List.take_length]
    have := q (.ref a) H (Same.refl H)
    rw [e] at this
    exact this h
  · have s : Same H (upd H p (.tup (cutV vs lo hi))) := same_new np
    refine q (.ref p) _ s (rp_tup upd_same ?_)
    unfold cutV cutD
    rw [← l]
    exact ((r.drop _).take _).to (Imm.same s)
theorem cat_rp {K : PySem.W.Frag} {H : Hp} {x y : V} {xs ys : List D} {Q : VK} (hx : Rp H x (.tup xs)) (hy : Rp H y (.tup ys)) (hz : xs.length + ys.length ≤ 100000) (q : ∀ v' H', Same H H' → Rp H' v' (.tup (xs ++ ys)) → Q v' H') : rCatA K x y H Q := by
  obtain ⟨a, vs, rfl, ha, r⟩ := id hx
  obtain ⟨b, ws, rfl, hb, t⟩ := id hy
  have l := r.length
  have m := t.length
  refine ⟨a, b, vs, ws, rfl, rfl, SqT.of ha, SqT.of hb, sz (by omega), fun e => ?_, fun _ e => ?_, fun _ _ p np => ?_⟩
  · have : xs = [] := List.eq_nil_of_length_eq_zero (by rw [← l, e]; rfl)
    subst this
    exact q (.ref b) H (Same.refl H) hy
  · have : ys = [] := List.eq_nil_of_length_eq_zero (by rw [← m, e]; rfl)
    subst this
    have := q (.ref a) H (Same.refl H)
    rw [List.append_nil] at this
    exact this hx
  · have s : Same H (upd H p (.tup (vs ++ ws))) := same_new np
    exact q (.ref p) _ s (rp_tup upd_same ((r.append t).to (Imm.same s)))
theorem cutD_to (xs : List D) (k : Nat) : cutD xs none (some (k : Int)) = xs.take k := by
  unfold cutD
  rw [HT.sIx_none, HT.sIx_nat, List.drop_zero, Nat.sub_zero]
  by_cases h : k ≤ xs.length
  · rw [Nat.min_eq_left h]
  · rw [Nat.min_eq_right (by omega), List.take_length, List.take_of_length_le (by omega)]
theorem cutD_from (xs : List D) (k : Nat) : cutD xs (some (k : Int)) none = xs.drop k := by
  unfold cutD
  rw [HT.sIx_none, HT.sIx_nat]
  by_cases h : k ≤ xs.length
  · rw [Nat.min_eq_left h, List.take_of_length_le (by rw [List.length_drop]; omega)]
  · rw [Nat.min_eq_right (by omega), List.drop_length, Nat.sub_self, List.drop_eq_nil_of_le (by omega)]
    rfl
theorem encs_take (ts : List Thing) (k : Nat) : (encs ts).take k = encs (ts.take k) := by rw [encs_map, encs_map, List.map_take]
theorem encs_drop (ts : List Thing) (k : Nat) : (encs ts).drop k = encs (ts.drop k) := by rw [encs_map, encs_map, List.map_drop]
theorem cnt_take : ∀ (ts : List Thing) (k : Nat), cntB (ts.take k) ≤ cntB ts
  | _, 0 => Nat.zero_le _
  | [], k + 1 => Nat.le_refl _
  | t :: r, k + 1 => by
    have := cnt_take r k
    show cntT t + cntB (r.take k) ≤ cntT t + cntB r
    omega
theorem cnt_drop : ∀ (ts : List Thing) (k : Nat), cntB (ts.drop k) ≤ cntB ts
  | _, 0 => Nat.le_refl _
  | [], k + 1 => Nat.le_refl _
  | t :: r, k + 1 => by
    have := cnt_drop r k
    show cntB (r.drop k) ≤ cntT t + cntB r
    omega
mutual
theorem tok_mono {C C' : Str → Prop} {A A' : Prop} (hC : ∀ x, C x → C' x) (hA : A → A') : ∀ (t : Thing) (sc : List Str) (n : Nat), TOk C A sc n t → TOk C' A' sc n t
  | .step _, _, _, h => h
  | .loop x a b body, sc, n, h => by
    obtain ⟨h1, h2, h3, h4, h5, m, e, h6⟩ := h
    exact ⟨h1, h2, h3, h4, h5, m, e, tsok_mono hC hA body _ _ h6⟩
  | .test a b x y, sc, n, h => by
    obtain ⟨h3, h4, h5, m, e, h6, h7⟩ := h
    exact ⟨h3, h4, h5, m, e, tsok_mono hC hA x _ _ h6, tsok_mono hC hA y _ _ h7⟩
  | .twice b, sc, n, h => by
    obtain ⟨h5, m, e, h6⟩ := h
    exact ⟨h5, m, e, tsok_mono hC hA b _ _ h6⟩
  | .call x e, sc, n, h => ⟨h.1, hC _ h.2.1, h.2.2⟩
  | .again k w, sc, n, h => ⟨hA h.1, h.2⟩
theorem tsok_mono {C C' : Str → Prop} {A A' : Prop} (hC : ∀ x, C x → C' x) (hA : A → A') : ∀ (ts : List Thing) (sc : List Str) (n : Nat), TsOk C A sc n ts → TsOk C' A' sc n ts
  | [], _, _, _ => trivial
  | t :: r, sc, n, h => ⟨tok_mono hC hA t sc n h.1, tsok_mono hC hA r sc n h.2⟩
end
theorem tsok_append {C : Str → Prop} {A : Prop} {sc : List Str} {n : Nat} {a b : List Thing} (h : TsOk C A sc n a) (k : TsOk C A sc n b) : TsOk C A sc n (a ++ b) := by
  rw [tsok_iff] at h k ⊢
  intro t ht
  rcases List.mem_append.mp ht with h1 | h1
  · exact h t h1
  · exact k t h1
theorem tsok_take {C : Str → Prop} {A : Prop} {sc : List Str} {n : Nat} {a : List Thing} (h : TsOk C A sc n a) (k : Nat) : TsOk C A sc n (a.take k) := by
  rw [tsok_iff] at h ⊢
  exact fun t ht => h t (List.mem_of_mem_take ht)
theorem tsok_drop {C : Str → Prop} {A : Prop} {sc : List Str} {n : Nat} {a : List Thing} (h : TsOk C A sc n a) (k : Nat) : TsOk C A sc n (a.drop k) := by
  rw [tsok_iff] at h ⊢
  exact fun t ht => h t (List.mem_of_mem_drop ht)
theorem scOk_n : ScOk ["n"] := fun x hx => .inl (List.mem_singleton.mp hx)
abbrev CT : Str → Prop := fun _ => True
def spLaw (K : PySem.W.Frag) : Sp := fun vs H Q _ => ∃ (a : Addr) (ns : List Int), vs = [.ref a] ∧ SqL K H a (ns.map V.int) ∧ ns.length ≤ 63 ∧ ∀ H', Q (.bl true) H'
/-! depth and fit of a plan's datum -/
theorem depD_end (e : Str × Int) : depD (encE e) = 1 := rfl
mutual
theorem thing_dep {C : Str → Prop} {A : Prop} : ∀ (t : Thing) (sc : List Str) (n : Nat), TOk C A sc n t → depD (enc t) ≤ 2 * n + 2
  | .step k, _, n, _ => by show 1 ≤ 2 * n + 2; omega
  | .loop x a b body, sc, n, h => by
    obtain ⟨_, _, _, _, _, m, rfl, h6⟩ := h
    have := things_dep body _ _ h6
    show 1 + max 0 (max 0 (max 1 (max 1 (max (1 + depL (encs body)) 0)))) ≤ 2 * (m + 1) + 2
    omega
  | .test a b x y, sc, n, h => by
    obtain ⟨_, _, _, m, rfl, h6, h7⟩ := h
    have h8 := things_dep x _ _ h6
    have h9 := things_dep y _ _ h7
    show 1 + max 0 (max 1 (max 1 (max (1 + depL (encs x)) (max (1 + depL (encs y)) 0)))) ≤ 2 * (m + 1) + 2
    omega
  | .twice b, sc, n, h => by
    obtain ⟨_, m, rfl, h6⟩ := h
    have := things_dep b _ _ h6
    show 1 + max 0 (max (1 + depL (encs b)) 0) ≤ 2 * (m + 1) + 2
    omega
  | .call x e, _, n, _ => by show 1 + max 0 (max 0 (max 1 0)) ≤ 2 * n + 2; omega
  | .again k w, _, n, _ => by show 1 ≤ 2 * n + 2; omega
theorem things_dep {C : Str → Prop} {A : Prop} : ∀ (ts : List Thing) (sc : List Str) (n : Nat), TsOk C A sc n ts → depL (encs ts) ≤ 2 * n + 2
  | [], _, _, _ => Nat.zero_le _
  | t :: r, sc, n, h => by
    have h1 := thing_dep t sc n h.1
    have h2 := things_dep r sc n h.2
    show max (depD (enc t)) (depL (encs r)) ≤ 2 * n + 2
    omega
end
theorem plan_dep {C : Str → Prop} {A : Prop} {ts : List Thing} {sc : List Str} {n k : Nat} (h : TsOk C A sc n ts) (hk : 2 * n + 3 ≤ k) : depD (.tup (encs ts)) ≤ k := by
  have := things_dep ts sc n h
  show 1 + depL (encs ts) ≤ k
  omega
mutual
theorem thing_fit : ∀ (t : Thing), cntT t ≤ 1000 → fitD (enc t)
  | .step k, _ => ⟨by show 2 < 100000; decide, trivial, trivial, trivial⟩
  | .loop x a b body, h => by
    have h2 : 1 + cntB body ≤ 1000 := h
    have hl := cnt_len body
    exact ⟨by show 5 < 100000; decide, trivial, trivial, ⟨by show 2 < 100000; decide, trivial, trivial, trivial⟩, ⟨by show 2 < 100000; decide, trivial, trivial, trivial⟩, ⟨by rw [encs_length]; omega, things_fit body (by omega)⟩, trivial⟩
  | .test a b x y, h => by
    have h2 : 1 + cntB x + cntB y ≤ 1000 := h
    have hx := cnt_len x
    have hy := cnt_len y
    exact ⟨by show 5 < 100000; decide, trivial, ⟨by show 2 < 100000; decide, trivial, trivial, trivial⟩, ⟨by show 2 < 100000; decide, trivial, trivial, trivial⟩, ⟨by rw [encs_length]; omega, things_fit x (by omega)⟩, ⟨by rw [encs_length]; omega, things_fit y (by omega)⟩, trivial⟩
  | .twice b, h => by
    have h2 : 1 + cntB b ≤ 1000 := h
    have hl := cnt_len b
    exact ⟨by show 2 < 100000; decide, trivial, ⟨by rw [encs_length]; omega, things_fit b (by omega)⟩, trivial⟩
  | .call x e, _ => ⟨by show 3 < 100000; decide, trivial, trivial, ⟨by show 2 < 100000; decide, trivial, trivial, trivial⟩, trivial⟩
  | .again k w, _ => ⟨by show 3 < 100000; decide, trivial, trivial, trivial, trivial⟩
theorem things_fit : ∀ (ts : List Thing), cntB ts ≤ 1000 → fitL (encs ts)
  | [], _ => trivial
  | t :: r, h => by
    have h2 : cntT t + cntB r ≤ 1000 := h
    exact ⟨thing_fit t (by omega), things_fit r (by omega)⟩
end
theorem plan_fit {C : Str → Prop} {A : Prop} {ts : List Thing} {sc : List Str} {n : Nat} (_ : TsOk C A sc n ts) (h : cntB ts ≤ 1000) : fitD (.tup (encs ts)) := by
  have hl := cnt_len ts
  exact ⟨by rw [encs_length]; omega, things_fit ts h⟩
end OG

set_option Elab.async false
set_option linter.all false
set_option maxRecDepth 100000
set_option maxHeartbeats 4000000
namespace OG
open PySem PySem.Spec PyProof.Rows L2
theorem Go.setI {M : Addr → Prop} {H H' : Hp} {p : Addr} {o : HO} (a : Go M H H') (m : M p) (h : ∀ xs, H' p ≠ some (.tup xs)) : Go M H (upd H' p o) :=
  ⟨a.sx.upd_in m, a.im.trans ((Imm.refl H').upd h)⟩
/-! ### the signs of a plan -/
def num (k : Int) : Str := toString k
def tokE (e : Str × Int) : List Str := if e.1 = "" then [num e.2] else if e.2 = 0 then [e.1] else if 0 < e.2 then [e.1, "+", num e.2] else [e.1, "-", num (-e.2)]
mutual
def tokT : Thing → List Str
  | .step k => (["step", num k] : List Str)
  | .loop x a b body => (["for", x, "from"] : List Str) ++ tokE a ++ (["to"] : List Str) ++ tokE b ++ (["("] : List Str) ++ tokB body ++ ([")"] : List Str)
  | .test a b x y => (["if"] : List Str) ++ tokE a ++ (["<="] : List Str) ++ tokE b ++ (["("] : List Str) ++ tokB x ++ ([")"] : List Str) ++ (match y with
    | [] => []
    | t :: r => (["else", "("] : List Str) ++ tokB (t :: r) ++ ([")"] : List Str))
  | .twice b => (["double", "("] : List Str) ++ tokB b ++ ([")"] : List Str)
  | .call x e => (["call", x, "with"] : List Str) ++ tokE e
  | .again k w => (["again", num k, "on", w] : List Str)
def tokB : List Thing → List Str
  | [] => []
  | t :: r => tokT t ++ (match r with
    | [] => []
    | u :: s => ([";"] : List Str) ++ tokB (u :: s))
end
theorem tokB_one (t : Thing) : tokB [t] = tokT t := by
  show tokT t ++ [] = tokT t
  rw [List.append_nil]
theorem tokB_two (t u : Thing) (s : List Thing) : tokB (t :: u :: s) = tokT t ++ (([";"] : List Str) ++ tokB (u :: s)) := rfl
/-! numbers -/
theorem num_ok {k : Int} (h0 : 0 ≤ k) (h1 : k ≤ 99) : Txt.isdigit (num k) = true ∧ PySem.intText? (num k) = some k ∧ (num k).length ≤ 2 := by
  have h : (List.range 100).all (fun n => Txt.isdigit (num (n : Int)) && decide (PySem.intText? (num (n : Int)) = some (n : Int)) && decide ((num (n : Int)).length ≤ 2)) = true := by decide +kernel
  have := List.all_eq_true.mp h k.toNat (List.mem_range.mpr (by omega))
  rw [show ((k.toNat : Nat) : Int) = k by omega] at this
  simp only [Bool.and_eq_true, decide_eq_true_eq] at this
  exact ⟨this.1.1, this.1.2, this.2⟩
/-! ### the reader's object -/
def rfs (sg : Addr) (p th dp : Nat) : List (Str × V) := [("signs", .ref sg), ("place", .int p), ("things", .int th), ("depth", .int dp)]
theorem rfs_signs (sg : Addr) (p th dp : Nat) : (rfs sg p th dp).lookup ("signs" : Str) = some (.ref sg) := by rfl
theorem rfs_place (sg : Addr) (p th dp : Nat) : (rfs sg p th dp).lookup ("place" : Str) = some (.int p) := by rfl
theorem rfs_things (sg : Addr) (p th dp : Nat) : (rfs sg p th dp).lookup ("things" : Str) = some (.int th) := by rfl
theorem rfs_depth (sg : Addr) (p th dp : Nat) : (rfs sg p th dp).lookup ("depth" : Str) = some (.int dp) := by rfl
theorem put_place (sg : Addr) (p th dp : Nat) : putF "place" (.int ((p : Int) + 1)) (rfs sg p th dp) = rfs sg (p + 1) th dp := by rfl
theorem put_things (sg : Addr) (p th dp : Nat) : putF "things" (.int ((th : Int) + 1)) (rfs sg p th dp) = rfs sg p (th + 1) dp := by rfl
theorem put_depth (sg : Addr) (p th dp : Nat) : putF "depth" (.int ((dp : Int) + 1)) (rfs sg p th dp) = rfs sg p th (dp + 1) := by rfl
theorem put_depth' (sg : Addr) (p th dp : Nat) : putF "depth" (.int (((dp + 1 : Nat) : Int) - 1)) (rfs sg p th (dp + 1)) = rfs sg p th dp := by
  have e : ((dp + 1 : Nat) : Int) - 1 = (dp : Int) := by omega
  rw [e]
  rfl
theorem rfs_len (sg : Addr) (p th dp : Nat) : (rfs sg p th dp).length < 1000 := by show 4 < 1000; decide
/-- the list at sg holds pairs of the signs and their places -/
def SgOk (H : Hp) (sg : Addr) (toks : List Str) : Prop := ∃ svs : List V, H sg = some (.lst svs) ∧ svs.length = toks.length ∧ ∀ (i : Nat) s, toks[i]? = some s → ∃ (a : Addr) (at_ : Int), svs[i]? = some (.ref a) ∧ H a = some (.tup [.str s, .int at_])
structure RS (H : Hp) (C o dx sg : Addr) (toks : List Str) (p th dp : Nat) : Prop where
  ob : H o = some (.ins C dx (rfs sg p th dp))
  sg : SgOk H sg toks
theorem RS.ne {H : Hp} {C o dx sg : Addr} {toks : List Str} {p th dp : Nat} (h : RS H C o dx sg toks p th dp) : sg ≠ o := by
  obtain ⟨svs, h1, _⟩ := h.sg
  exact ne_of h1 h.ob (fun z => by cases z)
theorem RS.go {H H' : Hp} {C o dx sg : Addr} {toks : List Str} {p th dp p' th' dp' : Nat} (h : RS H C o dx sg toks p th dp) (g : Go (· = o) H H') (ho : H' o = some (.ins C dx (rfs sg p' th' dp'))) : RS H' C o dx sg toks p' th' dp' := by
  obtain ⟨svs, h1, h2, h3⟩ := h.sg
  refine ⟨ho, svs, g.at h1 h.ne, h2, fun i s hs => ?_⟩
  obtain ⟨a, at_, e1, e2⟩ := h3 i s hs
  exact ⟨a, at_, e1, g.im _ _ e2⟩
theorem RS.new {H : Hp} {C o dx sg q : Addr} {u : HO} {toks : List Str} {p th dp : Nat} (h : RS H C o dx sg toks p th dp) (n : H q = none) : RS (upd H q u) C o dx sg toks p th dp :=
  h.go ((Go.refl _ H).new n) (same_new n _ _ h.ob)
theorem RS.same {H H' : Hp} {C o dx sg : Addr} {toks : List Str} {p th dp : Nat} (h : RS H C o dx sg toks p th dp) (s : Same H H') : RS H' C o dx sg toks p th dp := h.go (Go.same s) (s _ _ h.ob)
theorem RS.noTup {H : Hp} {C o dx sg : Addr} {toks : List Str} {p th dp : Nat} (h : RS H C o dx sg toks p th dp) : ∀ xs, H o ≠ some (.tup xs) := fun xs e => by
  rw [h.ob] at e
  cases e
/-- one sign taken -/
theorem RS.step {H : Hp} {C o dx sg : Addr} {toks : List Str} {p th dp p' th' dp' : Nat} (h : RS H C o dx sg toks p th dp) : RS (upd H o (.ins C dx (rfs sg p' th' dp'))) C o dx sg toks p' th' dp' ∧ Go (· = o) H (upd H o (.ins C dx (rfs sg p' th' dp'))) := by
  have g : Go (· = o) H (upd H o (.ins C dx (rfs sg p' th' dp'))) := (Go.refl _ H).setI rfl h.noTup
  exact ⟨h.go g upd_same, g⟩
/-! ### what the reader's methods promise -/
def spSign (C : Addr) : Sp := fun vs H Q _ => ∃ (o dx sg : Addr) (toks : List Str) (p th dp : Nat) (s : Str), vs = [.ref o] ∧ RS H C o dx sg toks p th dp ∧ toks[p]? = some s ∧ Q (.str s) H
/-- the next sign s is taken, v told -/
def spTook (C : Addr) (args : Str → List V → Prop) (ok : Str → List V → V → Prop) : Sp := fun vs H Q _ => ∃ (o dx sg : Addr) (toks : List Str) (p th dp : Nat) (s : Str) (as : List V) (v : V), vs = .ref o :: as ∧ RS H C o dx sg toks p th dp ∧ toks[p]? = some s ∧ args s as ∧ ok s as v ∧
  (∀ H', RS H' C o dx sg toks (p + 1) th dp → Go (· = o) H H' → Q v H')
def spTakeIf (C : Addr) : Sp := spTook C (fun _ as => as = [.bl true]) (fun s _ v => v = .str s)
def spTakeS (C : Addr) : Sp := spTook C (fun s as => as = [.str s]) (fun s _ v => v = .str s)
def spTakeName (C : Addr) : Sp := spTook C (fun s as => as = [] ∧ nameB s = true) (fun s _ v => v = .str s)
def spTakeNumber (C : Addr) : Sp := spTook C (fun s as => ∃ k lo hi : Int, s = num k ∧ as = [.int lo, .int hi] ∧ 0 ≤ k ∧ k ≤ 99 ∧ lo ≤ k ∧ k ≤ hi) (fun s _ v => ∃ k : Int, s = num k ∧ 0 ≤ k ∧ k ≤ 99 ∧ v = .int k)
/-- a reader's def that reads the signs ts, with what may follow, and tells v -/
def spRd (C : Addr) (want : List Str → Str → (V → Hp → Prop) → Nat → Nat → Nat → Prop) : Sp := fun vs H Q _ => ∃ (o dx sg : Addr) (toks ts rest : List Str) (r0 : Str) (p th dp c : Nat) (val : V → Hp → Prop), vs = [.ref o] ∧ RS H C o dx sg toks p th dp ∧ toks.drop p = ts ++ r0 :: rest ∧ want ts r0 val th dp c ∧
  (∀ v H', val v H' → RS H' C o dx sg toks (p + ts.length) (th + c) dp → Go (· = o) H H' → Q v H')
def spReadEnd (C : Addr) : Sp := spRd C fun ts r0 val th dp c => ∃ (e : Str × Int) (sc : List Str), ts = tokE e ∧ EndOk sc e ∧ ScOk sc ∧ r0 ≠ "+" ∧ r0 ≠ "-" ∧ c = 0 ∧ val = fun v H' => Rp H' v (encE e)
def spReadThing (C : Addr) (n : Nat) : Sp := spRd C fun ts r0 val th dp c => ∃ (t : Thing) (Cc : Str → Prop) (A : Prop) (sc : List Str), ts = tokT t ∧ TOk Cc A sc n t ∧ ScOk sc ∧ (r0 = ";" ∨ r0 = ")" ∨ r0 = "") ∧ c = cntT t ∧ th + c ≤ 12 ∧ dp + n ≤ 4 ∧ val = fun v H' => Rp H' v (enc t)
/-- behind the thing's own word -/
def spReadRest (C : Addr) (kind : Thing → Prop) (n : Nat) : Sp := spRd C fun ts r0 val th dp c => ∃ (t : Thing) (w : Str) (Cc : Str → Prop) (A : Prop) (sc : List Str), kind t ∧ w :: ts = tokT t ∧ TOk Cc A sc n t ∧ ScOk sc ∧ (r0 = ";" ∨ r0 = ")" ∨ r0 = "") ∧ c + 1 = cntT t ∧ th + c ≤ 12 ∧ dp + n ≤ 4 ∧ val = fun v H' => Rp H' v (enc t)
def spReadBody (C : Addr) (n : Nat) : Sp := spRd C fun ts r0 val th dp c => ∃ (b : List Thing) (Cc : Str → Prop) (A : Prop) (sc : List Str), ts = tokB b ∧ b ≠ [] ∧ TsOk Cc A sc n b ∧ ScOk sc ∧ (r0 = ")" ∨ r0 = "") ∧ c = cntB b ∧ th + c ≤ 12 ∧ dp + n ≤ 4 ∧ val = fun v H' => Rp H' v (.tup (encs b))
def spReadBracket (C : Addr) (n : Nat) : Sp := spRd C fun ts r0 val th dp c => ∃ (b : List Thing) (Cc : Str → Prop) (A : Prop) (sc : List Str), ts = (["("] : List Str) ++ tokB b ++ ([")"] : List Str) ∧ b ≠ [] ∧ TsOk Cc A sc n b ∧ ScOk sc ∧ c = cntB b ∧ th + c ≤ 12 ∧ dp + n + 1 ≤ 4 ∧ val = fun v H' => Rp H' v (.tup (encs b))
/-! places -/
theorem at_drop {toks ts rest : List Str} {p : Nat} {s : Str} (h : toks.drop p = s :: ts ++ rest) : toks[p]? = some s ∧ toks.drop (p + 1) = ts ++ rest := by
  have h1 : toks[p]? = (toks.drop p)[0]? := by rw [List.getElem?_drop, Nat.add_zero]
  have h2 : toks.drop (p + 1) = (toks.drop p).drop 1 := by rw [List.drop_drop]
  rw [h] at h1 h2
  exact ⟨h1, h2⟩
theorem drop_past {toks ts rest : List Str} {p : Nat} (h : toks.drop p = ts ++ rest) : toks.drop (p + ts.length) = rest := by
  have h2 : toks.drop (p + ts.length) = (toks.drop p).drop ts.length := by rw [List.drop_drop]
  rw [h2, h, List.drop_append_of_le_length (Nat.le_refl _), List.drop_length, List.nil_append]
theorem tokE_ne (e : Str × Int) : ∃ s r, tokE e = s :: r := by
  unfold tokE
  split
  · exact ⟨_, _, rfl⟩
  · split
    · exact ⟨_, _, rfl⟩
    · split <;> exact ⟨_, _, rfl⟩
theorem tokT_ne (t : Thing) : ∃ s r, tokT t = s :: r := by
  cases t with
  | step k => exact ⟨_, _, rfl⟩
  | loop x a b body => exact ⟨_, _, rfl⟩
  | test a b x y =>
    cases y with
    | nil => exact ⟨"if", tokE a ++ (["<="] : List Str) ++ tokE b ++ (["("] : List Str) ++ tokB x ++ ([")"] : List Str) ++ [], rfl⟩
    | cons t r => exact ⟨"if", tokE a ++ (["<="] : List Str) ++ tokE b ++ (["("] : List Str) ++ tokB x ++ ([")"] : List Str) ++ ((["else", "("] : List Str) ++ tokB (t :: r) ++ ([")"] : List Str)), rfl⟩
  | twice b => exact ⟨_, _, rfl⟩
  | call x e => exact ⟨_, _, rfl⟩
  | again k w => exact ⟨_, _, rfl⟩
theorem tokB_ne {b : List Thing} (h : b ≠ []) : ∃ s r, tokB b = s :: r := by
  cases b with
  | nil => exact absurd rfl h
  | cons t r =>
    obtain ⟨s, q, e⟩ := tokT_ne t
    cases r with
    | nil => exact ⟨s, q, by rw [tokB_one, e]⟩
    | cons u v => exact ⟨s, q ++ (([";"] : List Str) ++ tokB (u :: v)), by rw [tokB_two, e]; rfl⟩
theorem name_nodigit {x : Str} (h : nameB x = true ∨ x = "n") : Txt.isdigit x = false := by
  have hx : (∀ c ∈ tl x, c ∈ abc) ∧ tl x ≠ [] := by
    rcases h with h | rfl
    · refine ⟨name_abc h, fun e => ?_⟩
      have := (name_len h).1
      rw [len_tl, e] at this
      exact absurd this (by decide)
    · exact ⟨by decide +kernel, by decide +kernel⟩
  obtain ⟨h1, h2⟩ := hx
  have hd : ∀ c ∈ abc, PySem.Unicode.isDigit c = false := by
    have h : abc.all (fun c => !PySem.Unicode.isDigit c) = true := by decide +kernel
    intro c hc
    have := List.all_eq_true.mp h c hc
    simpa using this
  cases hl : tl x with
  | nil => exact absurd hl h2
  | cons c r =>
    have hc : c ∈ tl x := by rw [hl]; exact List.mem_cons_self
    have : x.cps.all PySem.Unicode.isDigit = false := by
      rw [Bool.eq_false_iff]
      intro z
      rw [Array.all_eq_true'] at z
      have := z c (by simpa [tl] using hc)
      rw [hd c (h1 c hc)] at this
      cases this
    unfold Txt.isdigit
    rw [this, Bool.and_false]
theorem bl1 {b : Bool} (h : b = true) : ([V.bl b] ++ []) = [V.bl true] := by rw [h]; rfl
theorem RS.to {H : Hp} {C o dx sg : Addr} {toks : List Str} {p th dp p' th' dp' : Nat} (h : RS H C o dx sg toks p th dp) (e1 : p = p') (e2 : th = th') (e3 : dp = dp') : RS H C o dx sg toks p' th' dp' := by
  subst e1 e2 e3
  exact h
theorem follow_ne {r0 : Str} (h : r0 = ";" ∨ r0 = ")" ∨ r0 = "") : r0 ≠ "+" ∧ r0 ≠ "-" ∧ r0 ≠ "else" := by
  rcases h with rfl | rfl | rfl
  · exact ⟨by decide +kernel, by decide +kernel, by decide +kernel⟩
  · exact ⟨by decide +kernel, by decide +kernel, by decide +kernel⟩
  · exact ⟨by decide +kernel, by decide +kernel, by decide +kernel⟩
theorem at_d1 {toks l : List Str} {p : Nat} {s : Str} (h : toks.drop p = s :: l) : toks[p]? = some s ∧ toks.drop (p + 1) = l := at_drop (ts := l) (rest := []) (by rw [h, List.append_nil]) |>.imp id (fun z => by rw [List.append_nil] at z; exact z)
/-- what stands behind a thing in a body -/
def more1 : List Thing → List Str
  | [] => []
  | u :: s => ([";"] : List Str) ++ tokB (u :: s)
theorem tokB_more (t : Thing) (r : List Thing) : tokB (t :: r) = tokT t ++ more1 r := by
  cases r <;> rfl
theorem RS.own {H : Hp} {C o dx sg F : Addr} {toks : List Str} {p th dp : Nat} {us : List V} (u : HO) (h : RS H C o dx sg toks p th dp) (n1 : F ≠ o) (n2 : sg ≠ F) (hF : H F = some (.lst us)) : RS (upd H F u) C o dx sg toks p th dp := by
  obtain ⟨svs, k1, k2, k3⟩ := h.sg
  have i4 : Imm H (upd H F u) := (Imm.refl H).upd fun xs e => by rw [hF] at e; cases e
  refine ⟨by rw [upd_ne n1.symm]; exact h.ob, svs, by rw [upd_ne n2]; exact k1, k2, fun i sx hsx => ?_⟩
  obtain ⟨a, at_, j1, j2⟩ := k3 i sx hsx
  exact ⟨a, at_, j1, i4 _ _ j2⟩
end OG

set_option Elab.async false
set_option linter.all false
set_option maxRecDepth 100000
set_option maxHeartbeats 4000000
namespace OG
open PySem PySem.Spec PyProof.Rows L2
/-! ### the signs of a text -/
def dig : List Nat := tl "0123456789"
def one5 : List Nat := tl "();+-"
/-- w is a sign where l follows -/
inductive Sg : List Nat → List Nat → Prop where
  | word {w l : List Nat} (h0 : w ≠ []) (h1 : ∀ c ∈ w, c ∈ abc) (h2 : w.length ≤ 8) (h3 : ∀ c r, l = c :: r → c ∉ abc) : Sg w l
  | num {w l : List Nat} (h0 : w ≠ []) (h1 : ∀ c ∈ w, c ∈ dig) (h2 : w.length ≤ 2) (h4 : w.length = 2 → w.head? ≠ some 48) (h3 : ∀ c r, l = c :: r → c ∉ dig) : Sg w l
  | one {c : Nat} {l : List Nat} (h : c ∈ one5) : Sg [c] l
  | le {l : List Nat} : Sg [60, 61] l
inductive Lx : List Nat → List Str → Prop where
  | nil : Lx [] []
  | blank {l : List Nat} {ts : List Str} (h : Lx l ts) : Lx (32 :: l) ts
  | sign {w l : List Nat} {ts : List Str} (s : Sg w l) (h : Lx l ts) : Lx (w ++ l) (S w :: ts)
theorem Sg.ne {w l : List Nat} (h : Sg w l) : w ≠ [] := by
  cases h with
  | word h0 _ _ _ => exact h0
  | num h0 _ _ _ _ => exact h0
  | one _ => simp
  | le => simp
theorem abc_dig : ∀ c ∈ abc, c ∉ dig := by
  have h : abc.all (fun c => !decide (c ∈ dig)) = true := by decide +kernel
  exact fun c hc => by simpa using List.all_eq_true.mp h c hc
theorem dig_abc : ∀ c ∈ dig, c ∉ abc := by
  have h : dig.all (fun c => !decide (c ∈ abc)) = true := by decide +kernel
  exact fun c hc => by simpa using List.all_eq_true.mp h c hc
theorem one_facts : ∀ c ∈ one5, c ∉ abc ∧ c ∉ dig ∧ c ≠ 32 ∧ c ≠ 60 := by
  have h : one5.all (fun c => !decide (c ∈ abc) && !decide (c ∈ dig) && decide (c ≠ 32) && decide (c ≠ 60)) = true := by decide +kernel
  intro c hc
  have := List.all_eq_true.mp h c hc
  simp only [Bool.and_eq_true, Bool.not_eq_true', decide_eq_false_iff_not, decide_eq_true_eq] at this
  exact ⟨this.1.1.1, this.1.1.2, this.1.2, this.2⟩
theorem abc_32 : (32 : Nat) ∉ abc ∧ (60 : Nat) ∉ abc ∧ (32 : Nat) ∉ dig ∧ (60 : Nat) ∉ dig ∧ (60 : Nat) ∉ one5 := by decide +kernel
theorem Sg.head {w l : List Nat} (h : Sg w l) : ∃ c r, w = c :: r ∧ c ≠ 32 := by
  cases h with
  | word h0 h1 _ _ =>
    cases w with
    | nil => exact absurd rfl h0
    | cons c r => exact ⟨c, r, rfl, fun e => abc_32.1 (e ▸ h1 c List.mem_cons_self)⟩
  | num h0 h1 _ _ _ =>
    cases w with
    | nil => exact absurd rfl h0
    | cons c r => exact ⟨c, r, rfl, fun e => abc_32.2.2.1 (e ▸ h1 c List.mem_cons_self)⟩
  | one h => exact ⟨_, _, rfl, (one_facts _ h).2.2.1⟩
  | le => exact ⟨60, [61], rfl, by decide⟩
/-! runs -/
def run (k l : List Nat) : Nat := (l.takeWhile fun c => decide (c ∈ k)).length
theorem run_nil (k : List Nat) : run k [] = 0 := rfl
theorem run_in {k l : List Nat} {c : Nat} (h : c ∈ k) : run k (c :: l) = 1 + run k l := by
  unfold run
  rw [List.takeWhile_cons, if_pos (decide_eq_true h), List.length_cons]
  omega
theorem run_out {k l : List Nat} {c : Nat} (h : c ∉ k) : run k (c :: l) = 0 := by
  unfold run
  rw [List.takeWhile_cons, if_neg (by rw [decide_eq_false h]; exact Bool.false_ne_true)]
  rfl
theorem run_eq {k : List Nat} : ∀ {w l : List Nat}, (∀ c ∈ w, c ∈ k) → (∀ c r, l = c :: r → c ∉ k) → run k (w ++ l) = w.length
  | [], l, _, h => by
    cases l with
    | nil => rfl
    | cons c r => exact run_out (h c r rfl)
  | c :: w, l, h1, h2 => by
    show run k (c :: (w ++ l)) = w.length + 1
    rw [run_in (h1 c List.mem_cons_self), run_eq (fun d hd => h1 d (List.mem_cons_of_mem _ hd)) h2]
    omega
def spRunEnd : Sp := fun vs H Q _ => ∃ (z kind : Str) (at_ : Nat), vs = [.str z, .int at_, .str kind] ∧ z.length < 100000 ∧ at_ ≤ z.length ∧ Q (.int ((at_ + run (tl kind) ((tl z).drop at_) : Nat) : Int)) H
/-- word_end, number_end, sign_end: the sign w stands at the place -/
def spSignEnd (ok : List Nat → List Nat → Prop) : Sp := fun vs H Q _ => ∃ (z : Str) (at_ : Nat) (w l : List Nat), vs = [.str z, .int at_] ∧ z.length < 100000 ∧ (tl z).drop at_ = w ++ l ∧ w ≠ [] ∧ at_ < z.length ∧ ok w l ∧ Q (.int ((at_ + w.length : Nat) : Int)) H
def okWord (w l : List Nat) : Prop := (∀ c ∈ w, c ∈ abc) ∧ w.length ≤ 8 ∧ ∀ c r, l = c :: r → c ∉ abc
def okNum (w l : List Nat) : Prop := (∀ c ∈ w, c ∈ dig) ∧ w.length ≤ 2 ∧ (w.length = 2 → w.head? ≠ some 48) ∧ ∀ c r, l = c :: r → c ∉ dig
def spSignsOf : Sp := fun vs H Q _ => ∃ (z : Str) (toks : List Str), vs = [.str z] ∧ z.length < 100000 ∧ Lx (tl z) toks ∧ toks.length < 100000 ∧ ∀ (sg : Addr) (H' : Hp), Same H H' → H sg = none → SgOk H' sg toks → Q (.ref sg) H'
def spInit (C : Addr) : Sp := fun vs H Q _ => ∃ (o dx : Addr) (z : Str) (toks : List Str), vs = [.ref o, .str z] ∧ H o = some (.ins C dx []) ∧ z.length < 100000 ∧ Lx (tl z) toks ∧
  ∀ (sg : Addr) (H' : Hp), RS H' C o dx sg (toks ++ ([""] : List Str)) 0 0 0 → Go (· = o) H H' → Q .non H'
def spReadPlan (n : Nat) : Sp := fun vs H Q _ => ∃ (z : Str) (ts : List Thing) (C : Str → Prop) (A : Prop) (sc : List Str), vs = [.str z] ∧ z.length < 100000 ∧ Lx (tl z) (tokB ts) ∧ ts ≠ [] ∧ TsOk C A sc n ts ∧ ScOk sc ∧ cntB ts ≤ 12 ∧ n ≤ 4 ∧ ∀ v H', Rp H' v (.tup (encs ts)) → Same H H' → Q v H'
theorem at_head {z : Str} {at_ : Nat} {c : Nat} {r : List Nat} (h : (tl z).drop at_ = c :: r) : atI (tl z) (at_ : Int) = some c := by
  refine atI_nat ?_
  have h1 : (tl z)[at_]? = ((tl z).drop at_)[0]? := by rw [List.getElem?_drop, Nat.add_zero]
  rw [h1, h]
  rfl
theorem cut_word {z : Str} {at_ : Nat} {w l : List Nat} (h : (tl z).drop at_ = w ++ l) (hl : at_ ≤ z.length) : cutS z (some (at_ : Int)) (some ((at_ + w.length : Nat) : Int)) = S w := by
  have hz := len_tl z
  have hlen : (tl z).length - at_ = w.length + l.length := by
    have := congrArg List.length h
    rw [List.length_drop, List.length_append] at this
    exact this
  unfold cutS
  rw [HT.sIx_nat, HT.sIx_nat, Nat.min_eq_left hl, Nat.min_eq_left (by omega)]
  have : (z.cps.toList.drop at_) = w ++ l := h
  rw [this, Nat.add_sub_cancel_left, List.take_append_of_le_length (Nat.le_refl _), List.take_length]
/-! ### the signs of a plan's text -/
/-- l begins with no letter and no figure -/
def Brk (l : List Nat) : Prop := ∀ c r, l = c :: r → c ∉ abc ∧ c ∉ dig
/-- a piece of a text with its signs, whatever follows that begins with no letter and no figure -/
def Pc (a : List Nat) (ts : List Str) : Prop := ∀ l us, Brk l → Lx l us → Lx (a ++ l) (ts ++ us)
theorem brk_nil : Brk [] := fun _ _ h => by cases h
theorem pc_nil : Pc [] [] := fun _ _ _ h => h
theorem Pc.cat {a b : List Nat} {ts us : List Str} (h1 : Pc a ts) (h2 : Pc b us) (hb : ∀ l, Brk l → Brk (b ++ l)) : Pc (a ++ b) (ts ++ us) := fun l vs bl h => by
  rw [List.append_assoc, List.append_assoc]
  exact h1 _ _ (hb l bl) (h2 l vs bl h)
theorem pc_blank : Pc [32] [] := fun _ _ _ h => .blank h
theorem brk_of {b : List Nat} {c : Nat} {r : List Nat} (e : b = c :: r) (h1 : c ∉ abc) (h2 : c ∉ dig) : ∀ l, Brk l → Brk (b ++ l) := fun l _ d s e2 => by
  rw [e] at e2
  have := (List.cons.inj e2).1
  rw [← this]
  exact ⟨h1, h2⟩
theorem pc_word {w : List Nat} (h0 : w ≠ []) (h1 : ∀ c ∈ w, c ∈ abc) (h2 : w.length ≤ 8) : Pc w [S w] := fun l us bl h => .sign (.word h0 h1 h2 fun c r e => (bl c r e).1) h
theorem pc_num {k : Int} (h0 : 0 ≤ k) (h1 : k ≤ 99) : Pc (numL k) [num k] := by
  have h : (List.range 100).all (fun n => decide (numL (n : Int) ≠ []) && (numL (n : Int)).all (fun c => decide (c ∈ dig)) && decide ((numL (n : Int)).length ≤ 2) && (decide ((numL (n : Int)).length ≠ 2) || decide ((numL (n : Int)).head? ≠ some 48))) = true := by decide +kernel
  have q := List.all_eq_true.mp h k.toNat (List.mem_range.mpr (by omega))
  rw [show ((k.toNat : Nat) : Int) = k by omega] at q
  simp only [Bool.and_eq_true, decide_eq_true_eq, Bool.or_eq_true] at q
  obtain ⟨⟨⟨q1, q2⟩, q3⟩, q4⟩ := q
  intro l us bl hl
  have e : num k = S (numL k) := (S_tl (num k)).symm
  rw [e]
  refine .sign (.num q1 (fun c hc => of_decide_eq_true (List.all_eq_true.mp q2 c hc)) q3 (fun z => ?_) fun c r e => (bl c r e).2) hl
  rcases q4 with q4 | q4
  · exact absurd z q4
  · exact q4
theorem pc_one {c : Nat} (h : c ∈ one5) : Pc [c] [S [c]] := fun _ _ _ h2 => .sign (.one h) h2
theorem pc_le : Pc [60, 61] [S [60, 61]] := fun _ _ _ h2 => .sign .le h2
theorem pc_name {x : Str} (h : nameB x = true ∨ x = "n") : Pc (tl x) [x] := by
  have hx : (∀ c ∈ tl x, c ∈ abc) ∧ tl x ≠ [] ∧ (tl x).length ≤ 8 := by
    rcases h with h | rfl
    · refine ⟨name_abc h, fun e => ?_, by rw [← len_tl]; exact (name_len h).2⟩
      have := (name_len h).1
      rw [len_tl, e] at this
      exact absurd this (by decide)
    · exact ⟨by decide +kernel, by decide +kernel, by decide +kernel⟩
  have := pc_word hx.2.1 hx.1 hx.2.2
  rw [S_tl] at this
  exact this
theorem lx_len : ∀ {l : List Nat} {ts : List Str}, Lx l ts → ts.length ≤ l.length := by
  intro l ts h
  induction h with
  | nil => exact Nat.le_refl _
  | blank _ ih => exact Nat.le_succ_of_le ih
  | @sign w l ts s _ ih =>
    have := List.length_pos_iff.mpr s.ne
    rw [List.length_append, List.length_cons]
    omega
/-- a piece that ends in a blank or a sign of its own -/
def Pf (a : List Nat) (ts : List Str) : Prop := ∀ l us, Lx l us → Lx (a ++ l) (ts ++ us)
theorem Pf.pc {a : List Nat} {ts : List Str} (h : Pf a ts) : Pc a ts := fun l us _ h2 => h l us h2
theorem Pf.catC {a b : List Nat} {ts us : List Str} (h1 : Pf a ts) (h2 : Pc b us) : Pc (a ++ b) (ts ++ us) := fun l vs bl h => by
  rw [List.append_assoc, List.append_assoc]
  exact h1 _ _ (h2 l vs bl h)
theorem Pf.catF {a b : List Nat} {ts us : List Str} (h1 : Pf a ts) (h2 : Pf b us) : Pf (a ++ b) (ts ++ us) := fun l vs h => by
  rw [List.append_assoc, List.append_assoc]
  exact h1 _ _ (h2 l vs h)
/-- b begins with a blank or a sign of its own -/
def Bk (b : List Nat) : Prop := ∃ c r, b = c :: r ∧ c ∉ abc ∧ c ∉ dig
theorem Bk.brk {b : List Nat} (h : Bk b) (l : List Nat) : Brk (b ++ l) := fun d s e => by
  obtain ⟨c, r, rfl, h1, h2⟩ := h
  have := (List.cons.inj e).1
  rw [← this]
  exact ⟨h1, h2⟩
theorem Pc.catF {a b : List Nat} {ts us : List Str} (h1 : Pc a ts) (h2 : Pf b us) (hb : Bk b) : Pf (a ++ b) (ts ++ us) := fun l vs h => by
  rw [List.append_assoc, List.append_assoc]
  exact h1 _ _ (hb.brk l) (h2 l vs h)
theorem pf_blank : Pf [32] [] := fun _ _ h => .blank h
theorem pf_one {c : Nat} (h : c ∈ one5) : Pf [c] [S [c]] := fun _ _ h2 => .sign (.one h) h2
theorem pf_le : Pf [60, 61] [S [60, 61]] := fun _ _ h2 => .sign .le h2
theorem bk_blank (r : List Nat) : Bk (32 :: r) := ⟨32, r, rfl, abc_32.1, abc_32.2.2.1⟩
theorem bk_one {c : Nat} (h : c ∈ one5) (r : List Nat) : Bk (c :: r) := ⟨c, r, rfl, (one_facts c h).1, (one_facts c h).2.1⟩
theorem pf_w {w : List Nat} (h : (!w.isEmpty && w.all (fun c => decide (c ∈ abc)) && decide (w.length ≤ 8)) = true) : Pf (w ++ [32]) ([S w] ++ []) := by
  simp only [Bool.and_eq_true, decide_eq_true_eq, Bool.not_eq_true', List.isEmpty_eq_false_iff] at h
  exact (pc_word h.1.1 (fun c hc => of_decide_eq_true (List.all_eq_true.mp h.1.2 c hc)) h.2).catF pf_blank (bk_blank [])
theorem pf_step : Pf (tl "step ") ["step"] := pf_w (w := tl "step") (by decide +kernel)
theorem pf_for : Pf (tl "for ") ["for"] := pf_w (w := tl "for") (by decide +kernel)
theorem pf_if : Pf (tl "if ") ["if"] := pf_w (w := tl "if") (by decide +kernel)
theorem pf_call : Pf (tl "call ") ["call"] := pf_w (w := tl "call") (by decide +kernel)
theorem pf_again : Pf (tl "again ") ["again"] := pf_w (w := tl "again") (by decide +kernel)
theorem pf_from : Pf (tl " from ") ["from"] := pf_blank.catF (pf_w (w := tl "from") (by decide +kernel))
theorem pf_to : Pf (tl " to ") ["to"] := pf_blank.catF (pf_w (w := tl "to") (by decide +kernel))
theorem pf_with : Pf (tl " with ") ["with"] := pf_blank.catF (pf_w (w := tl "with") (by decide +kernel))
theorem pf_on : Pf (tl " on ") ["on"] := pf_blank.catF (pf_w (w := tl "on") (by decide +kernel))
theorem pf_open : Pf (tl " (") ["("] := pf_blank.catF (pf_one (c := 40) (by decide +kernel))
theorem pf_shut : Pf (tl ")") [")"] := pf_one (c := 41) (by decide +kernel)
theorem pf_semi : Pf (tl "; ") [";"] := (pf_one (c := 59) (by decide +kernel)).catF pf_blank
theorem pf_les : Pf (tl " <= ") ["<="] := pf_blank.catF (pf_le.catF pf_blank)
theorem pf_plus : Pf (tl " + ") ["+"] := pf_blank.catF ((pf_one (c := 43) (by decide +kernel)).catF pf_blank)
theorem pf_minus : Pf (tl " - ") ["-"] := pf_blank.catF ((pf_one (c := 45) (by decide +kernel)).catF pf_blank)
theorem pf_double : Pf (tl "double (") ["double", "("] := (pf_w (w := tl "double") (by decide +kernel)).catF (pf_one (c := 40) (by decide +kernel))
theorem pf_else : Pf (tl " else (") ["else", "("] := pf_blank.catF ((pf_w (w := tl "else") (by decide +kernel)).catF (pf_one (c := 40) (by decide +kernel)))
theorem bk_s {z : Str} (h : (match tl z with | [] => false | c :: _ => !decide (c ∈ abc) && !decide (c ∈ dig)) = true) : Bk (tl z) := by
  cases e : tl z with
  | nil => rw [e] at h; cases h
  | cons c r =>
    rw [e] at h
    simp only [Bool.and_eq_true, Bool.not_eq_true', decide_eq_false_iff_not] at h
    exact ⟨c, r, rfl, h.1, h.2⟩
theorem pc_word2 {w : Str} (h : (!(tl w).isEmpty && (tl w).all (fun c => decide (c ∈ abc)) && decide ((tl w).length ≤ 8)) = true) : Pc (tl w) [w] := by
  simp only [Bool.and_eq_true, decide_eq_true_eq, Bool.not_eq_true', List.isEmpty_eq_false_iff] at h
  have := pc_word h.1.1 (fun c hc => of_decide_eq_true (List.all_eq_true.mp h.1.2 c hc)) h.2
  rw [S_tl] at this
  exact this
theorem pc_end {sc : List Str} {e : Str × Int} (hs : ScOk sc) (h : EndOk sc e) : Pc (endL e) (tokE e) := by
  unfold endL tokE
  by_cases e1 : e.1 = ""
  · rw [if_pos e1, if_pos e1]
    rcases h with ⟨_, h2, h3⟩ | ⟨h1, _⟩
    · exact pc_num h2 h3
    · rw [e1] at h1
      rcases hs _ h1 with h2 | h2
      · exact absurd h2 (by decide +kernel)
      · exact absurd h2 (by decide +kernel)
  · rw [if_neg e1, if_neg e1]
    have hn : (nameB e.1 = true ∨ e.1 = "n") ∧ -99 ≤ e.2 ∧ e.2 ≤ 99 := by
      rcases h with ⟨h1, _⟩ | ⟨h1, h2, h3⟩
      · exact absurd h1 e1
      · rcases hs _ h1 with h4 | h4
        · exact ⟨.inr h4, h2, h3⟩
        · exact ⟨.inl h4, h2, h3⟩
    have p1 := pc_name hn.1
    by_cases e2 : e.2 = 0
    · rw [if_pos e2, if_pos e2]
      exact p1
    · rw [if_neg e2, if_neg e2]
      by_cases e3 : 0 < e.2
      · rw [if_pos e3, if_pos e3]
        exact (p1.catF pf_plus (bk_s (by decide +kernel))).catC (pc_num (by omega) (by omega))
      · rw [if_neg e3, if_neg e3]
        exact (p1.catF pf_minus (bk_s (by decide +kernel))).catC (pc_num (by omega) (by omega))
mutual
theorem pc_thing {C : Str → Prop} {A : Prop} : ∀ (t : Thing) (sc : List Str) (n : Nat), TOk C A sc n t → ScOk sc → Pc (thingL t) (tokT t)
  | .step k, sc, n, h, hs => pf_step.catC (pc_num h.1 h.2)
  | .loop x a b body, sc, n, h, hs => by
    obtain ⟨h1, h2, h3, h4, h5, m, rfl, h6⟩ := h
    have P := pc_body body _ _ h6 (scOk_snoc hs h1)
    have := ((((((((pf_for.catC (pc_name (.inl h1))).catF pf_from (bk_s (by decide +kernel))).catC (pc_end hs h3)).catF pf_to (bk_s (by decide +kernel))).catC (pc_end hs h4)).catF pf_open (bk_s (by decide +kernel))).catC P).catF pf_shut (bk_s (by decide +kernel))).pc
    exact this
  | .test a b x y, sc, n, h, hs => by
    obtain ⟨h3, h4, h5, m, rfl, h6, h7⟩ := h
    have P := pc_body x _ _ h6 hs
    have P2 := pc_body y _ _ h7 hs
    have A1 := (((((pf_if.catC (pc_end hs h3)).catF pf_les (bk_s (by decide +kernel))).catC (pc_end hs h4)).catF pf_open (bk_s (by decide +kernel))).catC P).catF pf_shut (bk_s (by decide +kernel))
    cases y with
    | nil =>
      have := (A1.catC pc_nil)
      exact this
    | cons t r =>
      have := (A1.catF ((pf_else.catC P2).catF pf_shut (bk_s (by decide +kernel)))).pc
      exact this
  | .twice b, sc, n, h, hs => by
    obtain ⟨h5, m, rfl, h6⟩ := h
    exact ((pf_double.catC (pc_body b _ _ h6 hs)).catF pf_shut (bk_s (by decide +kernel))).pc
  | .call x e, sc, n, h, hs => ((pf_call.catC (pc_name (.inl h.1))).catF pf_with (bk_s (by decide +kernel))).catC (pc_end hs h.2.2)
  | .again k w, sc, n, h, hs => by
    obtain ⟨_, h1, h2, h3⟩ := h
    have pw : Pc (tl w) [w] := by
      rcases h3 with rfl | rfl | rfl
      · exact pc_word2 (by decide +kernel)
      · exact pc_word2 (by decide +kernel)
      · exact pc_word2 (by decide +kernel)
    exact ((pf_again.catC (pc_num (by omega) (by omega))).catF pf_on (bk_s (by decide +kernel))).catC pw
theorem pc_body {C : Str → Prop} {A : Prop} : ∀ (ts : List Thing) (sc : List Str) (n : Nat), TsOk C A sc n ts → ScOk sc → Pc (planL ts) (tokB ts)
  | [], _, _, _, _ => pc_nil
  | t :: r, sc, n, h, hs => by
    have P1 := pc_thing t sc n h.1 hs
    have P2 := pc_body r sc n h.2 hs
    cases r with
    | nil =>
      rw [tokB_one]
      exact P1
    | cons u s =>
      have e : planL (t :: u :: s) = (thingL t ++ tl "; ") ++ planL (u :: s) := by
        show thingL t ++ (tl "; " ++ TL.joinL (tl "; ") (thingsL (u :: s))) = _
        rw [List.append_assoc]
        rfl
      have e2 : tokB (t :: u :: s) = (tokT t ++ ([";"] : List Str)) ++ tokB (u :: s) := by
        rw [tokB_two, List.append_assoc]
      rw [e, e2]
      exact (P1.catF pf_semi (bk_s (by decide +kernel))).catC P2
end
/-- the text of a plan has its signs -/
theorem lx_plan {C : Str → Prop} {A : Prop} {ts : List Thing} {sc : List Str} {n : Nat} (h : TsOk C A sc n ts) (hs : ScOk sc) : Lx (planL ts) (tokB ts) := by
  have := pc_body ts sc n h hs [] [] brk_nil .nil
  rw [List.append_nil, List.append_nil] at this
  exact this
end OG

set_option Elab.async false
set_option linter.all false
set_option maxRecDepth 100000
set_option maxHeartbeats 4000000
namespace OG
open PySem PySem.Spec PyProof.Rows L2
/-! ### no sharing is booked -/
theorem nb_of {K : PySem.W.Frag} {base h : Heap} (hb : K.In base) (hh : K.In h) (hl : base.NoLimit) (hk : PySem.W.nsIn K cStatics sharingNotToldKey = some none) : NoneBooked h := by
  obtain ⟨mc, hns, _⟩ := hl
  have e := PySem.W.ns_none_of hb hns hk
  have hlk : ∃ o, K.lookup cStatics = some o := by
    unfold PySem.W.nsIn at hk
    cases q : K.lookup cStatics with
    | none => rw [q] at hk; cases hk
    | some o => exact ⟨o, rfl⟩
  obtain ⟨o, ho⟩ := hlk
  obtain ⟨o2, es, ep, h1, h2, h3, h4⟩ := hns
  rw [hb _ _ ho] at h1
  cases h1
  exact ⟨mc, ⟨o, es, ep, hh _ _ ho, h2, h3, h4⟩, e⟩
/-- e.replace(y, [a, b, c][i]) -/
def tReplIx (to : TE) (y a b c : Str) (ti : TE) : TE := fun σ H Q => to σ H fun v H1 => ∃ x, v = .str x ∧ x.length ≤ 100000 ∧ a.length ≤ 4 ∧ b.length ≤ 4 ∧ c.length ≤ 4 ∧
  ∀ (p : Addr) (o : Obj), H1 p = none → ti σ (upd H1 p (.frz o (.lst [.str a, .str b, .str c]))) fun u H2 => ∃ g : Int, u = .int g ∧ 0 ≤ g ∧ g < 3 ∧ H2 p = some (.frz o (.lst [.str a, .str b, .str c])) ∧ ∀ z, z ∈ [a, b, c] → Q (.str (Txt.replace x y z)) H2
theorem len_repl {x z : Str} (hx : x.length ≤ 100000) (hz : z.length ≤ 4) : x.length + (x.length + 1) * z.length ≤ 16777216 := by
  have : (x.length + 1) * z.length ≤ 100001 * 4 := Nat.mul_le_mul (by omega) hz
  omega
theorem pet_replIx {X : Cx} {o idx : Expr} {to ti : TE} {y a b c : Str} {j j0 j1 j2 : Nat} {c0 k0 k1 k2 lpos spos apos pos : Pos}
    (ho : PE X o to) (hi : PE X idx ti) (hix : PlainIx idx) (hnk : PySem.W.nsIn X.K cStatics sharingNotToldKey = some none)
    (hst : starEach [Expr.Constant (Const.str y) j c0, (Expr.List [Expr.Constant (Const.str a) j0 k0, Expr.Constant (Const.str b) j1 k1, Expr.Constant (Const.str c) j2 k2] lpos).Subscript idx spos] X.env =
      [(false, eval (Expr.Constant (Const.str y) j c0) X.env), (false, eval ((Expr.List [Expr.Constant (Const.str a) j0 k0, Expr.Constant (Const.str b) j1 k1, Expr.Constant (Const.str c) j2 k2] lpos).Subscript idx spos) X.env)] := by rfl)
    (hbase : attributeBase o (Str.ofString "replace") X.env (eval o X.env) = eval o X.env := by rfl)
    (hline : (apos.endLine == pos.line) = true := by rfl) :
    PET X ((o.Attribute (Str.ofString "replace") apos).Call [Expr.Constant (Const.str y) j c0, (Expr.List [Expr.Constant (Const.str a) j0 k0, Expr.Constant (Const.str b) j1 k1, Expr.Constant (Const.str c) j2 k2] lpos).Subscript idx spos] [] pos) (tReplIx to y a b c ti) := by
  intro pins s σ H Q h0 I h
  refine Call_method2 hbase hst hline (wpAny_mono (wpAny_toks (ho.run pins s σ H _ I h)) (fun v s1 q => ?_) fun _ _ z => z.2)
  obtain ⟨hk, v', H1, I1, r1, x, rfl, hx, la, lb, lc, q⟩ := q
  obtain ⟨tx, rfl⟩ := r1
  refine ⟨"str", "str.replace", F.plainAttrs_str, F.slot_str_replace, F.type_str_replace, typeIs_str s1 x tx, (fun _ e => nomatch e), ?_⟩
  refine Calls.callWith_builtin rfl (Calls.evalArgs_plain (Calls.spliced_cons (Calls.Constant_str (Calls.spliced_cons (Subscript_ (wpAny_List_spliced ?_))))))
  refine Calls.spliced_cons (Calls.Constant_str (k := j0) (pos := k0) (Calls.spliced_cons (Calls.Constant_str (k := j1) (pos := k1) (Calls.spliced_cons (Calls.Constant_str (k := j2) (pos := k2) (Calls.spliced_nil ?_))))))
  refine ⟨by show 3 ≤ sizeLine; decide, ?_⟩
  dsimp only
  generalize hO : ({ cls := Value.type "list", data := Data.seq [Value.str a (s1.toks + 1), Value.str b (s1.toks + 1 + 1), Value.str c (s1.toks + 1 + 1 + 1)].toArray } : Obj) = ob
  have hp : (H1 s1.heap.objs.size) = none := HOk.fresh I1.hok (Nat.le_refl _)
  have hin := q s1.heap.objs.size ob hp
  have I2 : L2.Inv X pins σ (upd H1 s1.heap.objs.size (.frz ob (.lst [.str a, .str b, .str c]))) { heap := s1.heap.push ob, gens := s1.gens, drawn := s1.drawn, toks := s1.toks + 1 + 1 + 1 + 1, os := s1.os } := by
    refine Inv.laid I1 (fun b u e => Heap.get?_push_of_some _ e) (Nat.le_refl _) ?_
    subst hO
    refine ⟨Heap.get?_push_size _ rfl, by show 3 ≤ sizeLine; decide, [Value.str a (s1.toks + 1), Value.str b (s1.toks + 1 + 1), Value.str c (s1.toks + 1 + 1 + 1)], 0, ?_, Heap.get?_push_size _ rfl⟩
    exact Paired.cons ⟨_, rfl⟩ (Paired.cons ⟨_, rfl⟩ (Paired.cons ⟨_, rfl⟩ Paired.nil))
  refine wpAny_mono (wpAny_toks (hi.run pins _ σ _ _ I2 hin)) (fun u s3 q3 => ?_) fun _ _ z => z.2
  obtain ⟨hk3, u', H3, I3, r3, g, rfl, g0, g3, hp3, q4⟩ := q3
  obtain ⟨tg, rfl⟩ := r3
  have hget : s3.heap.get? s1.heap.objs.size = some ob := (I3.hok _ _ hp3).1
  have hil : s3.heap.IsList s1.heap.objs.size #[Value.str a (s1.toks + 1), Value.str b (s1.toks + 1 + 1), Value.str c (s1.toks + 1 + 1 + 1)] := by
    subst hO
    exact ⟨_, hget, rfl, 0, rfl⟩
  have hz : ∃ (z : Str) (tz : Nat), (#[Value.str a (s1.toks + 1), Value.str b (s1.toks + 1 + 1), Value.str c (s1.toks + 1 + 1 + 1)] : Array Value)[g.toNat]? = some (Value.str z tz) ∧ s1.toks < tz ∧ z ∈ [a, b, c] ∧ z.length ≤ 4 := by
    have : g = 0 ∨ g = 1 ∨ g = 2 := by omega
    rcases this with rfl | rfl | rfl
    · exact ⟨a, _, rfl, Nat.lt_succ_self _, by simp, la⟩
    · exact ⟨b, _, rfl, by omega, by simp, lb⟩
    · exact ⟨c, _, rfl, by omega, by simp, lc⟩
  obtain ⟨z, tz, hz1, hz2, hz3, hz4⟩ := hz
  refine item_listR hil g0 (by omega) hz1 ?_ (hix _ _)
  refine Calls.spliced_nil ?_
  have hk' : s.toks ≤ s1.toks := hk
  refine SC.replaceA (u := s1.toks) (v := tz) (by show s1.toks ≠ 0; omega) (by show tz ≠ 0; omega) (by show s1.toks ≠ tz; omega) (len_repl hx hz4) (fun t' k => ?_) ?_
  · exact ⟨.str (Txt.replace x y z), H3, Inv.tok I3 k, ⟨t', rfl⟩, q4 z hz3⟩
  · exact nb_of I3.ok.mod.kin (Inv.kIn I3) I3.ok.mod.nolimit hnk
/-! ### a def of one parameter at least, its body where a token is told -/
theorem psst_nox {X : Cx} {st : List Stmt} {t : TS} (h : PSsT X.nox st t) : PSsT X st t := fun pins s σ H D h0 I hw =>
  wpAny_mono (h pins s σ H D h0 (Inv.wish I fun _ _ => False) hw) (fun _ _ q => SP.unwish q) fun _ _ z => False.elim z
theorem okT {P : Program} {w : World} {K : PySem.W.Frag} {mg : Str → Option Value} {base : Heap} {x qual : Str} {st : Stmt} {f : Addr} {fd : FuncData} {N ps : List Str} {k : Nat} {sp : Sp}
    (F : Fun K x qual st f fd) (S : FnScope N ps (defScope st)) (hnc : ∀ y ∈ (defScope st).names, y.2 ≠ NameKind.cell) (hps : 1 ≤ ps.length)
    (len : ∀ (vs : List V) (H : Hp) (Q : VK) (E : XK), sp vs H Q E → vs.length = ps.length)
    (hbody : ∀ (cdv : Value) (A : Around) (outer : List Env) (s : Shared) (H : Hp) (vs : List V) (Q : VK) (E : XK), Room k (A.deeper (envOfC qual (defScope st) s.heap.objs.size f cdv)) → sp vs H Q E →
      ∃ t, PSsT (cxOf CX0 P w K mg base N qual (defScope st) f cdv A outer s H E).nox (defBody st) t ∧ t { nx := fun x H' => Q V.non H', rt := Q } (L2.start N vs) H) :
    FnOk P w K mg base CX0 (k + 1) f fd ps sp := by
  obtain ⟨oc, od, kV, doc, pm, an, cdv, ct, osl, rfl, lk, hcd⟩ := F.ex
  refine fn_ofT lk hcd S hnc hps len fun A outer s H vs Q E hr hsp => ?_
  obtain ⟨t, h, q⟩ := hbody cdv A outer s H vs Q E hr hsp
  exact ⟨t, psst_nox h, q⟩
end OG

set_option Elab.async false
set_option linter.all false
set_option maxRecDepth 100000
set_option maxHeartbeats 4000000
namespace OG
open PySem PySem.Spec PyProof.Rows L2
/-! ### blanks put in -/
def bl (n : Nat) : List Nat := List.replicate n 32
/-- what a sign may become -/
def Pd (c : Nat) (p : List Nat) : Prop := (c ∈ one5 ∧ ∃ a b, p = bl a ++ c :: bl b ∧ a ≤ 1 ∧ b ≤ 2) ∨ (c = 32 ∧ ∃ k, p = bl (k + 1) ∧ k ≤ 1) ∨ (c ∉ one5 ∧ c ≠ 32 ∧ p = [c])
inductive Wd : List Nat → List Nat → Prop where
  | nil : Wd [] []
  | cons {c : Nat} {l p m : List Nat} (h : Pd c p) (r : Wd l m) : Wd (c :: l) (p ++ m)
theorem Wd.app {a b c d : List Nat} (h : Wd a b) (k : Wd c d) : Wd (a ++ c) (b ++ d) := by
  induction h with
  | nil => exact k
  | @cons e l p m h1 r ih =>
    rw [List.append_assoc]
    exact .cons h1 ih
theorem Wd.snoc {a b p : List Nat} {c : Nat} (h : Wd a b) (k : Pd c p) : Wd (a ++ [c]) (b ++ p) := by
  have := h.app (Wd.cons k .nil)
  rw [List.append_nil] at this
  exact this
theorem pd_len {c : Nat} {p : List Nat} (h : Pd c p) : p.length ≤ 4 := by
  rcases h with ⟨_, a, b, rfl, h1, h2⟩ | ⟨_, k, rfl, h1⟩ | ⟨_, _, rfl⟩
  · simp only [bl, List.length_append, List.length_cons, List.length_replicate]
    omega
  · simp only [bl, List.length_replicate]
    omega
  · show 1 ≤ 4
    decide
theorem Wd.len {a b : List Nat} (h : Wd a b) : b.length ≤ 4 * a.length := by
  induction h with
  | nil => exact Nat.le_refl _
  | @cons e l p m h1 r ih =>
    have := pd_len h1
    rw [List.length_append, List.length_cons]
    omega
theorem lx_bl : ∀ (n : Nat) {l : List Nat} {ts : List Str}, Lx l ts → Lx (bl n ++ l) ts
  | 0, _, _, h => h
  | n + 1, _, _, h => .blank (lx_bl n h)
theorem lx_bl_end : ∀ (n : Nat), Lx (bl n) []
  | 0 => .nil
  | n + 1 => .blank (lx_bl_end n)
theorem Lx.tail {l : List Nat} {ts : List Str} (h : Lx l ts) (n : Nat) : Lx (l ++ bl n) ts := by
  induction h with
  | nil => exact lx_bl_end n
  | blank _ ih => exact .blank ih
  | @sign w l ts s _ ih =>
    rw [List.append_assoc]
    refine .sign ?_ ih
    have hd : ∀ c r, l ++ bl n = c :: r → c = 32 ∨ ∃ r', l = c :: r' := fun c r e => by
      cases l with
      | nil =>
        cases n with
        | zero => cases e
        | succ n => exact .inl (List.cons.inj e).1.symm
      | cons d r' => exact .inr ⟨r', by rw [(List.cons.inj e).1]⟩
    cases s with
    | word h0 h1 h2 h3 =>
      refine .word h0 h1 h2 fun c r e => ?_
      rcases hd c r e with rfl | ⟨r', e2⟩
      · exact abc_32.1
      · exact h3 c r' e2
    | num h0 h1 h2 h4 h3 =>
      refine .num h0 h1 h2 h4 fun c r e => ?_
      rcases hd c r e with rfl | ⟨r', e2⟩
      · exact abc_32.2.2.1
      · exact h3 c r' e2
    | one h => exact .one h
    | le => exact .le
theorem wd_plain {w : List Nat} : ∀ {l m : List Nat}, (∀ c ∈ w, c ∉ one5 ∧ c ≠ 32) → Wd (w ++ l) m → ∃ m', m = w ++ m' ∧ Wd l m' := by
  induction w with
  | nil => exact fun _ h => ⟨_, rfl, h⟩
  | cons c w ih =>
    intro l m hc h
    cases h with
    | @cons _ _ p m h1 r =>
      obtain ⟨m', rfl, h2⟩ := ih (fun d hd => hc d (List.mem_cons_of_mem _ hd)) r
      have hcc := hc c List.mem_cons_self
      rcases h1 with ⟨z, _⟩ | ⟨z, _⟩ | ⟨_, _, rfl⟩
      · exact absurd z hcc.1
      · exact absurd z hcc.2
      · exact ⟨m', rfl, h2⟩
/-- what the widened text begins with -/
theorem wd_head {l m : List Nat} (h : Wd l m) : ∀ c r, m = c :: r → c = 32 ∨ ∃ r', l = c :: r' := fun c r e => by
  cases h with
  | nil => cases e
  | @cons d l p m h1 _ =>
    rcases h1 with ⟨_, a, b, rfl, _, _⟩ | ⟨_, k, rfl, _⟩ | ⟨_, _, rfl⟩
    · cases a with
      | zero => exact .inr ⟨l, by rw [(List.cons.inj e).1]⟩
      | succ a => exact .inl (List.cons.inj e).1.symm
    · exact .inl (List.cons.inj e).1.symm
    · exact .inr ⟨l, by rw [(List.cons.inj e).1]⟩
theorem abc_one : ∀ c ∈ abc, c ∉ one5 ∧ c ≠ 32 := by
  have h : abc.all (fun c => !decide (c ∈ one5) && decide (c ≠ 32)) = true := by decide +kernel
  intro c hc
  have := List.all_eq_true.mp h c hc
  simp only [Bool.and_eq_true, Bool.not_eq_true', decide_eq_false_iff_not, decide_eq_true_eq] at this
  exact this
theorem dig_one : ∀ c ∈ dig, c ∉ one5 ∧ c ≠ 32 := by
  have h : dig.all (fun c => !decide (c ∈ one5) && decide (c ≠ 32)) = true := by decide +kernel
  intro c hc
  have := List.all_eq_true.mp h c hc
  simp only [Bool.and_eq_true, Bool.not_eq_true', decide_eq_false_iff_not, decide_eq_true_eq] at this
  exact this
theorem wd_lx {l : List Nat} {ts : List Str} (h : Lx l ts) : ∀ {m : List Nat}, Wd l m → Lx m ts := by
  induction h with
  | nil => intro m h; cases h; exact .nil
  | @blank l ts _ ih =>
    intro m h
    cases h with
    | @cons _ _ p m h1 r =>
      rcases h1 with ⟨z, _⟩ | ⟨_, k, rfl, _⟩ | ⟨_, z, _⟩
      · exact absurd rfl (one_facts 32 z).2.2.1
      · exact lx_bl _ (ih r)
      · exact absurd rfl z
  | @sign w l ts s _ ih =>
    intro m h
    cases s with
    | word h0 h1 h2 h3 =>
      obtain ⟨m', rfl, h4⟩ := wd_plain (fun c hc => abc_one c (h1 c hc)) h
      refine .sign (.word h0 h1 h2 fun c r e => ?_) (ih h4)
      rcases wd_head h4 c r e with rfl | ⟨r', e2⟩
      · exact abc_32.1
      · exact h3 c r' e2
    | num h0 h1 h2 h5 h3 =>
      obtain ⟨m', rfl, h4⟩ := wd_plain (fun c hc => dig_one c (h1 c hc)) h
      refine .sign (.num h0 h1 h2 h5 fun c r e => ?_) (ih h4)
      rcases wd_head h4 c r e with rfl | ⟨r', e2⟩
      · exact abc_32.2.2.1
      · exact h3 c r' e2
    | @one c _ hc =>
      cases h with
      | @cons _ _ p m h1 r =>
        rcases h1 with ⟨_, a, b, rfl, _, _⟩ | ⟨z, _⟩ | ⟨z, _, _⟩
        · rw [List.append_assoc]
          refine lx_bl a ?_
          exact Lx.sign (w := [c]) (.one hc) (lx_bl b (ih r))
        · exact absurd z (one_facts c hc).2.2.1
        · exact absurd hc z
    | le =>
      obtain ⟨m', rfl, h4⟩ := wd_plain (w := [60, 61]) (by decide +kernel) h
      exact .sign .le (ih h4)
/-! ### ' <= ' replaced -/
def les : List Nat := tl " <= "
inductive Rr (R : List Nat) : List Nat → List Nat → Prop where
  | nil : Rr R [] []
  | keep {c : Nat} {l m : List Nat} (h : Rr R l m) : Rr R (c :: l) (c :: m)
  | hit {l m : List Nat} (h : Rr R l m) : Rr R (32 :: 60 :: 61 :: 32 :: l) (R ++ m)
theorem rr_repl (R : List Nat) : ∀ (n : Nat) (l : List Nat), l.length ≤ n → Rr R l (StrLaws.replL les R l)
  | _, [], _ => by
    rw [StrLaws.replL_nil]
    exact .nil
  | 0, c :: r, h => by
    have : r.length + 1 ≤ 0 := h
    omega
  | n + 1, c :: r, h => by
    have hl : r.length + 1 ≤ n + 1 := h
    by_cases e : List.take les.length (c :: r) = les
    · rw [StrLaws.replL_hit (by decide +kernel) e]
      have e2 : c :: r = les ++ List.drop les.length (c :: r) := by
        have := List.take_append_drop les.length (c :: r)
        rw [e] at this
        exact this.symm
      have hl2 : (List.drop les.length (c :: r)).length ≤ n := by
        rw [List.length_drop]
        have : les.length = 4 := by decide +kernel
        show (r.length + 1) - _ ≤ n
        omega
      have ih := rr_repl R n _ hl2
      generalize List.drop les.length (c :: r) = d at *
      rw [e2]
      exact .hit ih
    · rw [StrLaws.replL_miss e]
      exact .keep (rr_repl R n r (by omega))
theorem rr_plain {R : List Nat} {w : List Nat} : ∀ {l m : List Nat}, (∀ c ∈ w, c ≠ 32) → Rr R (w ++ l) m → ∃ m', m = w ++ m' ∧ Rr R l m' := by
  induction w with
  | nil => exact fun _ h => ⟨_, rfl, h⟩
  | cons c w ih =>
    intro l m hc h
    have hcc := hc c List.mem_cons_self
    generalize e : c :: w ++ l = k at h
    cases h with
    | nil => cases e
    | @keep d l2 m h =>
      have e1 := (List.cons.inj e).1
      have e2 := (List.cons.inj e).2
      subst e1
      subst e2
      obtain ⟨m', rfl, h2⟩ := ih (fun d hd => hc d (List.mem_cons_of_mem _ hd)) h
      exact ⟨m', rfl, h2⟩
    | hit h => exact absurd (List.cons.inj e).1 hcc
theorem rr_head {R l m : List Nat} (hR : ∃ c r, R = c :: r ∧ (c = 32 ∨ c = 60)) (h : Rr R l m) : ∀ c r, m = c :: r → (c = 32 ∨ c = 60) ∨ ∃ r', l = c :: r' := fun c r e => by
  cases h with
  | nil => cases e
  | @keep d l m h => exact .inr ⟨l, by rw [(List.cons.inj e).1]⟩
  | @hit l m h =>
    obtain ⟨d, s, rfl, hd⟩ := hR
    have := (List.cons.inj e).1
    subst this
    exact .inl hd
theorem lx_blank_inv {l : List Nat} {ts : List Str} (h : Lx (32 :: l) ts) : Lx l ts := by
  generalize e : 32 :: l = k at h
  cases h with
  | nil => cases e
  | blank h =>
    rw [(List.cons.inj e).2]
    exact h
  | @sign w l2 ts s h =>
    obtain ⟨c, r, rfl, hc⟩ := s.head
    exact absurd (List.cons.inj e).1.symm hc
theorem lx_le_inv {l : List Nat} {ts : List Str} (h : Lx (60 :: 61 :: l) ts) : ∃ us, ts = S [60, 61] :: us ∧ Lx l us := by
  generalize e : 60 :: 61 :: l = k at h
  cases h with
  | nil => cases e
  | blank h => exact absurd (List.cons.inj e).1 (by decide)
  | @sign w l2 ts s h =>
    cases s with
    | word h0 h1 _ _ =>
      cases w with
      | nil => exact absurd rfl h0
      | cons c r =>
        have := (List.cons.inj e).1
        subst this
        exact absurd (h1 _ List.mem_cons_self) abc_32.2.1
    | num h0 h1 _ _ _ =>
      cases w with
      | nil => exact absurd rfl h0
      | cons c r =>
        have := (List.cons.inj e).1
        subst this
        exact absurd (h1 _ List.mem_cons_self) abc_32.2.2.2.1
    | @one c _ hc =>
      have := (List.cons.inj e).1
      subst this
      exact absurd hc abc_32.2.2.2.2
    | le =>
      have := (List.cons.inj (List.cons.inj e).2).2
      subst this
      exact ⟨ts, rfl, h⟩
/-- R is a sign <= with blanks about -/
def LeR (R : List Nat) : Prop := (∃ c r, R = c :: r ∧ (c = 32 ∨ c = 60)) ∧ ∀ l ts, Lx l ts → Lx (R ++ l) (S [60, 61] :: ts)
theorem rr_lx {R : List Nat} (hR : LeR R) : ∀ (n : Nat) {l m : List Nat} {ts : List Str}, l.length ≤ n → Lx l ts → Rr R l m → Lx m ts := by
  intro n
  induction n with
  | zero =>
    intro l m ts hn h r
    have : l = [] := List.eq_nil_of_length_eq_zero (by omega)
    subst this
    cases r
    exact h
  | succ n ih =>
    intro l m ts hn h r
    cases h with
    | nil => cases r; exact .nil
    | @blank l _ h =>
      have hl : l.length ≤ n := by
        have : l.length + 1 ≤ n + 1 := hn
        omega
      generalize e : 32 :: l = k at r
      cases r with
      | nil => cases e
      | @keep d l2 m r =>
        obtain ⟨e1, e2⟩ := List.cons.inj e
        subst e1
        subst e2
        exact .blank (ih hl h r)
      | @hit l2 m r =>
        obtain ⟨_, e2⟩ := List.cons.inj e
        subst e2
        obtain ⟨us, rfl, h2⟩ := lx_le_inv h
        have h3 := lx_blank_inv h2
        refine hR.2 _ _ (ih ?_ h3 r)
        have : l2.length + 1 + 1 + 1 ≤ n := hl
        omega
    | @sign w l ts s h =>
      have hw : 0 < w.length := List.length_pos_iff.mpr s.ne
      have hl : l.length ≤ n := by
        rw [List.length_append] at hn
        omega
      have key : ∀ m', Rr R l m' → Lx m' ts := fun m' r' => ih hl h r'
      cases s with
      | word h0 h1 h2 h3 =>
        obtain ⟨m', rfl, h4⟩ := rr_plain (fun c hc => (abc_one c (h1 c hc)).2) r
        refine .sign (.word h0 h1 h2 fun c r e => ?_) (key m' h4)
        rcases rr_head hR.1 h4 c r e with (rfl | rfl) | ⟨r', e2⟩
        · exact abc_32.1
        · exact abc_32.2.1
        · exact h3 c r' e2
      | num h0 h1 h2 h5 h3 =>
        obtain ⟨m', rfl, h4⟩ := rr_plain (fun c hc => (dig_one c (h1 c hc)).2) r
        refine .sign (.num h0 h1 h2 h5 fun c r e => ?_) (key m' h4)
        rcases rr_head hR.1 h4 c r e with (rfl | rfl) | ⟨r', e2⟩
        · exact abc_32.2.2.1
        · exact abc_32.2.2.2.1
        · exact h3 c r' e2
      | @one c _ hc =>
        obtain ⟨m', rfl, h4⟩ := rr_plain (w := [c]) (fun d hd => by rw [List.mem_singleton.mp hd]; exact (one_facts c hc).2.2.1) r
        exact .sign (.one hc) (key m' h4)
      | le =>
        obtain ⟨m', rfl, h4⟩ := rr_plain (w := [60, 61]) (by decide) r
        exact .sign .le (key m' h4)
theorem ler_of {z : Str} (h : z = "<=" ∨ z = " <= " ∨ z = "<= ") : LeR (tl z) := by
  rcases h with rfl | rfl | rfl
  · exact ⟨⟨60, [61], by decide +kernel, .inr rfl⟩, fun l ts h => .sign .le h⟩
  · exact ⟨⟨32, [60, 61, 32], by decide +kernel, .inl rfl⟩, fun l ts h => .blank (.sign .le (.blank h))⟩
  · exact ⟨⟨60, [61, 32], by decide +kernel, .inr rfl⟩, fun l ts h => .sign .le (.blank h)⟩
/-- a text that is read as the same signs, <= written otherwise -/
theorem lx_repl {x z : Str} {ts : List Str} (h : Lx (tl x) ts) (hz : z = "<=" ∨ z = " <= " ∨ z = "<= ") : Lx (tl (Txt.replace x " <= " z)) ts := by
  have e : tl (Txt.replace x " <= " z) = StrLaws.replL les (tl z) (tl x) := StrLaws.replace_list (by decide +kernel)
  rw [e]
  exact rr_lx (ler_of hz) _ (Nat.le_refl _) h (rr_repl _ _ _ (Nat.le_refl _))
theorem rep_bl (k : Int) : (List.replicate k.toNat (tl " ")).flatten = bl k.toNat := by
  have : tl (" " : Str) = [32] := by decide +kernel
  rw [this]
  unfold bl
  induction k.toNat with
  | zero => rfl
  | succ n ih =>
    rw [List.replicate_succ, List.flatten_cons, ih]
    rfl
def spSpaced : Sp := fun vs H Q _ => ∃ (d L : Addr) (z : Str) (ts : List Str), vs = [.ref d, .str z] ∧ Dr H d L ∧ z.length ≤ 2000 ∧ Lx (tl z) ts ∧ ∀ (x : Str) (H' : Hp), x.length ≤ 10000 → Lx (tl x) ts → Dr H' d L → Go (· = d) H H' → Q (.str x) H'
def spLoose : Sp := fun vs H Q _ => ∃ (d L : Addr) (v : V) (ts : List Thing) (C : Str → Prop) (A : Prop) (sc : List Str), vs = [.ref d, v] ∧ Dr H d L ∧ Rp H v (.tup (encs ts)) ∧ TsOk C A sc 4 ts ∧ ScOk sc ∧ cntB ts ≤ 12 ∧
  ∀ (x : Str) (H' : Hp), x.length < 100000 → Lx (tl x) (tokB ts) → Dr H' d L → Go (· = d) H H' → Q (.str x) H'
end OG

set_option Elab.async false
set_option linter.all false
set_option maxRecDepth 100000
set_option maxHeartbeats 4000000
namespace K03
open PySem PySem.Spec PyProof.Rows L2 OG
open C8 (pss_cut pe_gc)
def topS (i : Nat) : Stmt := PySem.Challenge.pw_outgrow_k03_plans_read.main.body.getD i (.Pass ⟨0, 0, 0, 0⟩)
abbrev sis_name : Stmt := topS 10
abbrev Nis_name : List Str := ["text", "letter"]
theorem scis_name : FnScope Nis_name ["text"] (defScope sis_name) := ⟨rfl, rfl, rfl, by decide +kernel, rfl, by decide +kernel, by decide +kernel⟩

abbrev srun_end : Stmt := topS 17
abbrev Nrun_end : List Str := ["text", "at", "kind", "end"]
theorem scrun_end : FnScope Nrun_end ["text", "at", "kind"] (defScope srun_end) := ⟨rfl, rfl, rfl, by decide +kernel, rfl, by decide +kernel, by decide +kernel⟩

abbrev sword_end : Stmt := topS 18
abbrev Nword_end : List Str := ["text", "at", "end"]
theorem scword_end : FnScope Nword_end ["text", "at"] (defScope sword_end) := ⟨rfl, rfl, rfl, by decide +kernel, rfl, by decide +kernel, by decide +kernel⟩

abbrev snumber_end : Stmt := topS 19
abbrev Nnumber_end : List Str := ["text", "at", "end", "needless_nought"]
theorem scnumber_end : FnScope Nnumber_end ["text", "at"] (defScope snumber_end) := ⟨rfl, rfl, rfl, by decide +kernel, rfl, by decide +kernel, by decide +kernel⟩

abbrev ssign_end : Stmt := topS 20
abbrev Nsign_end : List Str := ["text", "at"]
theorem scsign_end : FnScope Nsign_end ["text", "at"] (defScope ssign_end) := ⟨rfl, rfl, rfl, by decide +kernel, rfl, by decide +kernel, by decide +kernel⟩

abbrev ssigns_of : Stmt := topS 21
abbrev Nsigns_of : List Str := ["text", "signs", "at", "end"]
theorem scsigns_of : FnScope Nsigns_of ["text"] (defScope ssigns_of) := ⟨rfl, rfl, rfl, by decide +kernel, rfl, by decide +kernel, by decide +kernel⟩

abbrev sReader___init__ : Stmt := inClass (topS 22) 0
abbrev NReader___init__ : List Str := ["self", "text"]
theorem scReader___init__ : FnScope NReader___init__ ["self", "text"] (defScope sReader___init__) := ⟨rfl, rfl, rfl, by decide +kernel, rfl, by decide +kernel, by decide +kernel⟩

abbrev sReader_sign : Stmt := inClass (topS 22) 1
abbrev NReader_sign : List Str := ["self"]
theorem scReader_sign : FnScope NReader_sign ["self"] (defScope sReader_sign) := ⟨rfl, rfl, rfl, by decide +kernel, rfl, by decide +kernel, by decide +kernel⟩

abbrev sReader_spot : Stmt := inClass (topS 22) 2
abbrev NReader_spot : List Str := ["self"]
theorem scReader_spot : FnScope NReader_spot ["self"] (defScope sReader_spot) := ⟨rfl, rfl, rfl, by decide +kernel, rfl, by decide +kernel, by decide +kernel⟩

abbrev sReader_take_if : Stmt := inClass (topS 22) 3
abbrev NReader_take_if : List Str := ["self", "fits", "sign"]
theorem scReader_take_if : FnScope NReader_take_if ["self", "fits"] (defScope sReader_take_if) := ⟨rfl, rfl, rfl, by decide +kernel, rfl, by decide +kernel, by decide +kernel⟩

abbrev sReader_take : Stmt := inClass (topS 22) 4
abbrev NReader_take : List Str := ["self", "wanted"]
theorem scReader_take : FnScope NReader_take ["self", "wanted"] (defScope sReader_take) := ⟨rfl, rfl, rfl, by decide +kernel, rfl, by decide +kernel, by decide +kernel⟩

abbrev sReader_take_name : Stmt := inClass (topS 22) 5
abbrev NReader_take_name : List Str := ["self"]
theorem scReader_take_name : FnScope NReader_take_name ["self"] (defScope sReader_take_name) := ⟨rfl, rfl, rfl, by decide +kernel, rfl, by decide +kernel, by decide +kernel⟩

abbrev sReader_take_number : Stmt := inClass (topS 22) 6
abbrev NReader_take_number : List Str := ["self", "least", "most", "sign"]
theorem scReader_take_number : FnScope NReader_take_number ["self", "least", "most"] (defScope sReader_take_number) := ⟨rfl, rfl, rfl, by decide +kernel, rfl, by decide +kernel, by decide +kernel⟩

abbrev sread_plan : Stmt := topS 24
abbrev Nread_plan : List Str := ["text", "reader", "plan"]
theorem scread_plan : FnScope Nread_plan ["text"] (defScope sread_plan) := ⟨rfl, rfl, rfl, by decide +kernel, rfl, by decide +kernel, by decide +kernel⟩

abbrev sread_body : Stmt := topS 25
abbrev Nread_body : List Str := ["reader", "things"]
theorem scread_body : FnScope Nread_body ["reader"] (defScope sread_body) := ⟨rfl, rfl, rfl, by decide +kernel, rfl, by decide +kernel, by decide +kernel⟩

abbrev sread_thing : Stmt := topS 26
abbrev Nread_thing : List Str := ["reader", "word", "read_rest"]
theorem scread_thing : FnScope Nread_thing ["reader"] (defScope sread_thing) := ⟨rfl, rfl, rfl, by decide +kernel, rfl, by decide +kernel, by decide +kernel⟩

abbrev sread_bracket : Stmt := topS 27
abbrev Nread_bracket : List Str := ["reader", "body"]
theorem scread_bracket : FnScope Nread_bracket ["reader"] (defScope sread_bracket) := ⟨rfl, rfl, rfl, by decide +kernel, rfl, by decide +kernel, by decide +kernel⟩

abbrev sread_end : Stmt := topS 28
abbrev Nread_end : List Str := ["reader", "name", "sign", "number"]
theorem scread_end : FnScope Nread_end ["reader"] (defScope sread_end) := ⟨rfl, rfl, rfl, by decide +kernel, rfl, by decide +kernel, by decide +kernel⟩

abbrev sread_step : Stmt := topS 29
abbrev Nread_step : List Str := ["reader"]
theorem scread_step : FnScope Nread_step ["reader"] (defScope sread_step) := ⟨rfl, rfl, rfl, by decide +kernel, rfl, by decide +kernel, by decide +kernel⟩

abbrev sread_for : Stmt := topS 30
abbrev Nread_for : List Str := ["reader", "name", "first", "last"]
theorem scread_for : FnScope Nread_for ["reader"] (defScope sread_for) := ⟨rfl, rfl, rfl, by decide +kernel, rfl, by decide +kernel, by decide +kernel⟩

abbrev sread_if : Stmt := topS 31
abbrev Nread_if : List Str := ["reader", "lesser", "greater", "body", "other"]
theorem scread_if : FnScope Nread_if ["reader"] (defScope sread_if) := ⟨rfl, rfl, rfl, by decide +kernel, rfl, by decide +kernel, by decide +kernel⟩

abbrev sread_double : Stmt := topS 32
abbrev Nread_double : List Str := ["reader"]
theorem scread_double : FnScope Nread_double ["reader"] (defScope sread_double) := ⟨rfl, rfl, rfl, by decide +kernel, rfl, by decide +kernel, by decide +kernel⟩

abbrev sread_call : Stmt := topS 33
abbrev Nread_call : List Str := ["reader", "name"]
theorem scread_call : FnScope Nread_call ["reader"] (defScope sread_call) := ⟨rfl, rfl, rfl, by decide +kernel, rfl, by decide +kernel, by decide +kernel⟩

abbrev sread_again : Stmt := topS 34
abbrev Nread_again : List Str := ["reader", "number", "word"]
theorem scread_again : FnScope Nread_again ["reader"] (defScope sread_again) := ⟨rfl, rfl, rfl, by decide +kernel, rfl, by decide +kernel, by decide +kernel⟩

abbrev sl_begin : Stmt := topS 37
abbrev Nl_begin : List Str := ["_law_script"]
theorem scl_begin : FnScope Nl_begin ["_law_script"] (defScope sl_begin) := ⟨rfl, rfl, rfl, by decide +kernel, rfl, by decide +kernel, by decide +kernel⟩

abbrev sl_take : Stmt := topS 38
abbrev Nl_take : List Str := ["_law_draw", "_law_sides", "_law_cell", "_law_got"]
theorem scl_take : FnScope Nl_take ["_law_draw", "_law_sides"] (defScope sl_take) := ⟨rfl, rfl, rfl, by decide +kernel, rfl, by decide +kernel, by decide +kernel⟩

abbrev sl_pick : Stmt := topS 39
abbrev Nl_pick : List Str := ["_law_draw", "_law_row"]
theorem scl_pick : FnScope Nl_pick ["_law_draw", "_law_row"] (defScope sl_pick) := ⟨rfl, rfl, rfl, by decide +kernel, rfl, by decide +kernel, by decide +kernel⟩

abbrev sl_some_end : Stmt := topS 40
abbrev Nl_some_end : List Str := ["_law_draw", "_law_scope", "_law_wide", "_law_more"]
theorem scl_some_end : FnScope Nl_some_end ["_law_draw", "_law_scope", "_law_wide"] (defScope sl_some_end) := ⟨rfl, rfl, rfl, by decide +kernel, rfl, by decide +kernel, by decide +kernel⟩

abbrev sl_leaf : Stmt := topS 41
abbrev Nl_leaf : List Str := ["_law_draw", "_law_kit", "_law_scope", "_law_deep", "_law_fit", "_law_name", "_law_end"]
theorem scl_leaf : FnScope Nl_leaf ["_law_draw", "_law_kit", "_law_scope", "_law_deep"] (defScope sl_leaf) := ⟨rfl, rfl, rfl, by decide +kernel, rfl, by decide +kernel, by decide +kernel⟩

abbrev sl_kept_words : Stmt := topS 42
abbrev Nl_kept_words : List Str := []
theorem scl_kept_words : FnScope Nl_kept_words [] (defScope sl_kept_words) := ⟨rfl, rfl, rfl, by decide +kernel, rfl, by decide +kernel, by decide +kernel⟩

abbrev sl_fresh : Stmt := topS 43
abbrev Nl_fresh : List Str := ["_law_draw", "_law_taken", "_law_size", "_law_name", "_law_spare", "_law_sign", "_law_k", "_law_one"]
theorem scl_fresh : FnScope Nl_fresh ["_law_draw", "_law_taken"] (defScope sl_fresh) := ⟨rfl, rfl, rfl, by decide +kernel, rfl, by decide +kernel, by decide +kernel⟩

abbrev sl_drawn_thing : Stmt := topS 44
abbrev Nl_drawn_thing : List Str := ["_law_draw", "_law_kit", "_law_scope", "_law_deep", "_law_fork", "_law_body", "_law_rest", "_law_one", "_law_other", "_law_name"]
theorem scl_drawn_thing : FnScope Nl_drawn_thing ["_law_draw", "_law_kit", "_law_scope", "_law_deep"] (defScope sl_drawn_thing) := ⟨rfl, rfl, rfl, by decide +kernel, rfl, by decide +kernel, by decide +kernel⟩

abbrev sl_drawn_body : Stmt := topS 45
abbrev Nl_drawn_body : List Str := ["_law_draw", "_law_kit", "_law_scope", "_law_deep", "_law_found", "_law_k"]
theorem scl_drawn_body : FnScope Nl_drawn_body ["_law_draw", "_law_kit", "_law_scope", "_law_deep"] (defScope sl_drawn_body) := ⟨rfl, rfl, rfl, by decide +kernel, rfl, by decide +kernel, by decide +kernel⟩

abbrev sl_drawn : Stmt := topS 46
abbrev Nl_drawn : List Str := ["_law_draw", "_law_room", "_law_figures", "_law_wide"]
theorem scl_drawn : FnScope Nl_drawn ["_law_draw", "_law_room", "_law_figures", "_law_wide"] (defScope sl_drawn) := ⟨rfl, rfl, rfl, by decide +kernel, rfl, by decide +kernel, by decide +kernel⟩

abbrev sl_spaced : Stmt := topS 47
abbrev Nl_spaced : List Str := ["_law_draw", "_law_text", "_law_found", "_law_sign"]
theorem scl_spaced : FnScope Nl_spaced ["_law_draw", "_law_text"] (defScope sl_spaced) := ⟨rfl, rfl, rfl, by decide +kernel, rfl, by decide +kernel, by decide +kernel⟩

abbrev sl_end_text : Stmt := topS 48
abbrev Nl_end_text : List Str := ["_law_end"]
theorem scl_end_text : FnScope Nl_end_text ["_law_end"] (defScope sl_end_text) := ⟨rfl, rfl, rfl, by decide +kernel, rfl, by decide +kernel, by decide +kernel⟩

abbrev sl_thing_text : Stmt := topS 49
abbrev Nl_thing_text : List Str := ["_law_thing", "_law_word", "_law_told", "_law_head"]
theorem scl_thing_text : FnScope Nl_thing_text ["_law_thing"] (defScope sl_thing_text) := ⟨rfl, rfl, rfl, by decide +kernel, rfl, by decide +kernel, by decide +kernel⟩

abbrev sl_written : Stmt := topS 50
abbrev Nl_written : List Str := ["_law_plan", "_law_thing"]
theorem scl_written : FnScope Nl_written ["_law_plan"] (defScope sl_written) := ⟨rfl, rfl, rfl, by decide +kernel, rfl, by decide +kernel, by decide +kernel⟩

abbrev sl_loose : Stmt := topS 51
abbrev Nl_loose : List Str := ["_law_draw", "_law_plan", "_law_text"]
theorem scl_loose : FnScope Nl_loose ["_law_draw", "_law_plan"] (defScope sl_loose) := ⟨rfl, rfl, rfl, by decide +kernel, rfl, by decide +kernel, by decide +kernel⟩

abbrev sl_same : Stmt := topS 52
abbrev Nl_same : List Str := ["_law_found", "_law_due", "_law_one", "_law_other"]
theorem scl_same : FnScope Nl_same ["_law_found", "_law_due"] (defScope sl_same) := ⟨rfl, rfl, rfl, by decide +kernel, rfl, by decide +kernel, by decide +kernel⟩

abbrev slaw : Stmt := topS 53
abbrev Nlaw : List Str := ["_law_script", "_law_draw", "_law_turn", "_law_plan", "_law_found"]
theorem sclaw : FnScope Nlaw ["_law_script"] (defScope slaw) := ⟨rfl, rfl, rfl, by decide +kernel, rfl, by decide +kernel, by decide +kernel⟩

structure Tops (w : World) (K : PySem.W.Frag) (mg : Str → Option Value) where
  fis_name : Addr
  dis_name : FuncData
  Fis_name : Fun K "is_name" "is_name" sis_name fis_name dis_name
  gis_name : mg "is_name" = some (.ref fis_name)
  frun_end : Addr
  drun_end : FuncData
  Frun_end : Fun K "run_end" "run_end" srun_end frun_end drun_end
  grun_end : mg "run_end" = some (.ref frun_end)
  fword_end : Addr
  dword_end : FuncData
  Fword_end : Fun K "word_end" "word_end" sword_end fword_end dword_end
  gword_end : mg "word_end" = some (.ref fword_end)
  fnumber_end : Addr
  dnumber_end : FuncData
  Fnumber_end : Fun K "number_end" "number_end" snumber_end fnumber_end dnumber_end
  gnumber_end : mg "number_end" = some (.ref fnumber_end)
  fsign_end : Addr
  dsign_end : FuncData
  Fsign_end : Fun K "sign_end" "sign_end" ssign_end fsign_end dsign_end
  gsign_end : mg "sign_end" = some (.ref fsign_end)
  fsigns_of : Addr
  dsigns_of : FuncData
  Fsigns_of : Fun K "signs_of" "signs_of" ssigns_of fsigns_of dsigns_of
  gsigns_of : mg "signs_of" = some (.ref fsigns_of)
  CReader : Addr
  clReader : Cls K CReader
  gReader : mg "Reader" = some (.ref CReader)
  naReader_signs : NoAttr K CReader "signs"
  naReader_place : NoAttr K CReader "place"
  naReader_things : NoAttr K CReader "things"
  naReader_depth : NoAttr K CReader "depth"
  fReader___init__ : Addr
  dReader___init__ : FuncData
  FReader___init__ : Fun K "__init__" "Reader.__init__" sReader___init__ fReader___init__ dReader___init__
  mkReader : Mk K CReader fReader___init__
  fReader_sign : Addr
  dReader_sign : FuncData
  FReader_sign : Fun K "sign" "Reader.sign" sReader_sign fReader_sign dReader_sign
  mtReader_sign : Meth K CReader "sign" fReader_sign
  fReader_spot : Addr
  dReader_spot : FuncData
  FReader_spot : Fun K "spot" "Reader.spot" sReader_spot fReader_spot dReader_spot
  mtReader_spot : Meth K CReader "spot" fReader_spot
  fReader_take_if : Addr
  dReader_take_if : FuncData
  FReader_take_if : Fun K "take_if" "Reader.take_if" sReader_take_if fReader_take_if dReader_take_if
  mtReader_take_if : Meth K CReader "take_if" fReader_take_if
  fReader_take : Addr
  dReader_take : FuncData
  FReader_take : Fun K "take" "Reader.take" sReader_take fReader_take dReader_take
  mtReader_take : Meth K CReader "take" fReader_take
  fReader_take_name : Addr
  dReader_take_name : FuncData
  FReader_take_name : Fun K "take_name" "Reader.take_name" sReader_take_name fReader_take_name dReader_take_name
  mtReader_take_name : Meth K CReader "take_name" fReader_take_name
  fReader_take_number : Addr
  dReader_take_number : FuncData
  FReader_take_number : Fun K "take_number" "Reader.take_number" sReader_take_number fReader_take_number dReader_take_number
  mtReader_take_number : Meth K CReader "take_number" fReader_take_number
  fread_plan : Addr
  dread_plan : FuncData
  Fread_plan : Fun K "read_plan" "read_plan" sread_plan fread_plan dread_plan
  gread_plan : mg "read_plan" = some (.ref fread_plan)
  fread_body : Addr
  dread_body : FuncData
  Fread_body : Fun K "read_body" "read_body" sread_body fread_body dread_body
  gread_body : mg "read_body" = some (.ref fread_body)
  fread_thing : Addr
  dread_thing : FuncData
  Fread_thing : Fun K "read_thing" "read_thing" sread_thing fread_thing dread_thing
  gread_thing : mg "read_thing" = some (.ref fread_thing)
  fread_bracket : Addr
  dread_bracket : FuncData
  Fread_bracket : Fun K "read_bracket" "read_bracket" sread_bracket fread_bracket dread_bracket
  gread_bracket : mg "read_bracket" = some (.ref fread_bracket)
  fread_end : Addr
  dread_end : FuncData
  Fread_end : Fun K "read_end" "read_end" sread_end fread_end dread_end
  gread_end : mg "read_end" = some (.ref fread_end)
  fread_step : Addr
  dread_step : FuncData
  Fread_step : Fun K "read_step" "read_step" sread_step fread_step dread_step
  gread_step : mg "read_step" = some (.ref fread_step)
  fread_for : Addr
  dread_for : FuncData
  Fread_for : Fun K "read_for" "read_for" sread_for fread_for dread_for
  gread_for : mg "read_for" = some (.ref fread_for)
  fread_if : Addr
  dread_if : FuncData
  Fread_if : Fun K "read_if" "read_if" sread_if fread_if dread_if
  gread_if : mg "read_if" = some (.ref fread_if)
  fread_double : Addr
  dread_double : FuncData
  Fread_double : Fun K "read_double" "read_double" sread_double fread_double dread_double
  gread_double : mg "read_double" = some (.ref fread_double)
  fread_call : Addr
  dread_call : FuncData
  Fread_call : Fun K "read_call" "read_call" sread_call fread_call dread_call
  gread_call : mg "read_call" = some (.ref fread_call)
  fread_again : Addr
  dread_again : FuncData
  Fread_again : Fun K "read_again" "read_again" sread_again fread_again dread_again
  gread_again : mg "read_again" = some (.ref fread_again)
  fl_begin : Addr
  dl_begin : FuncData
  Fl_begin : Fun K "_law_begin" "_law_begin" sl_begin fl_begin dl_begin
  gl_begin : mg "_law_begin" = some (.ref fl_begin)
  fl_take : Addr
  dl_take : FuncData
  Fl_take : Fun K "_law_take" "_law_take" sl_take fl_take dl_take
  gl_take : mg "_law_take" = some (.ref fl_take)
  fl_pick : Addr
  dl_pick : FuncData
  Fl_pick : Fun K "_law_pick" "_law_pick" sl_pick fl_pick dl_pick
  gl_pick : mg "_law_pick" = some (.ref fl_pick)
  fl_some_end : Addr
  dl_some_end : FuncData
  Fl_some_end : Fun K "_law_some_end" "_law_some_end" sl_some_end fl_some_end dl_some_end
  gl_some_end : mg "_law_some_end" = some (.ref fl_some_end)
  fl_leaf : Addr
  dl_leaf : FuncData
  Fl_leaf : Fun K "_law_leaf" "_law_leaf" sl_leaf fl_leaf dl_leaf
  gl_leaf : mg "_law_leaf" = some (.ref fl_leaf)
  fl_kept_words : Addr
  dl_kept_words : FuncData
  Fl_kept_words : Fun K "_law_kept_words" "_law_kept_words" sl_kept_words fl_kept_words dl_kept_words
  gl_kept_words : mg "_law_kept_words" = some (.ref fl_kept_words)
  fl_fresh : Addr
  dl_fresh : FuncData
  Fl_fresh : Fun K "_law_fresh" "_law_fresh" sl_fresh fl_fresh dl_fresh
  gl_fresh : mg "_law_fresh" = some (.ref fl_fresh)
  fl_drawn_thing : Addr
  dl_drawn_thing : FuncData
  Fl_drawn_thing : Fun K "_law_drawn_thing" "_law_drawn_thing" sl_drawn_thing fl_drawn_thing dl_drawn_thing
  gl_drawn_thing : mg "_law_drawn_thing" = some (.ref fl_drawn_thing)
  fl_drawn_body : Addr
  dl_drawn_body : FuncData
  Fl_drawn_body : Fun K "_law_drawn_body" "_law_drawn_body" sl_drawn_body fl_drawn_body dl_drawn_body
  gl_drawn_body : mg "_law_drawn_body" = some (.ref fl_drawn_body)
  fl_drawn : Addr
  dl_drawn : FuncData
  Fl_drawn : Fun K "_law_drawn" "_law_drawn" sl_drawn fl_drawn dl_drawn
  gl_drawn : mg "_law_drawn" = some (.ref fl_drawn)
  fl_spaced : Addr
  dl_spaced : FuncData
  Fl_spaced : Fun K "_law_spaced" "_law_spaced" sl_spaced fl_spaced dl_spaced
  gl_spaced : mg "_law_spaced" = some (.ref fl_spaced)
  fl_end_text : Addr
  dl_end_text : FuncData
  Fl_end_text : Fun K "_law_end_text" "_law_end_text" sl_end_text fl_end_text dl_end_text
  gl_end_text : mg "_law_end_text" = some (.ref fl_end_text)
  fl_thing_text : Addr
  dl_thing_text : FuncData
  Fl_thing_text : Fun K "_law_thing_text" "_law_thing_text" sl_thing_text fl_thing_text dl_thing_text
  gl_thing_text : mg "_law_thing_text" = some (.ref fl_thing_text)
  fl_written : Addr
  dl_written : FuncData
  Fl_written : Fun K "_law_written" "_law_written" sl_written fl_written dl_written
  gl_written : mg "_law_written" = some (.ref fl_written)
  fl_loose : Addr
  dl_loose : FuncData
  Fl_loose : Fun K "_law_loose" "_law_loose" sl_loose fl_loose dl_loose
  gl_loose : mg "_law_loose" = some (.ref fl_loose)
  fl_same : Addr
  dl_same : FuncData
  Fl_same : Fun K "_law_same" "_law_same" sl_same fl_same dl_same
  gl_same : mg "_law_same" = some (.ref fl_same)
  flaw : Addr
  dlaw : FuncData
  Flaw : Fun K "law" "law" slaw flaw dlaw
  glaw : mg "law" = some (.ref flaw)
  mabs : mg "abs" = none
  mall : mg "all" = none
  mbool : mg "bool" = none
  mint : mg "int" = none
  misinstance : mg "isinstance" = none
  mlen : mg "len" = none
  mlist : mg "list" = none
  mrange : mg "range" = none
  mread_rest : mg "read_rest" = none
  msorted : mg "sorted" = none
  mstr : mg "str" = none
  mtuple : mg "tuple" = none
  mzip : mg "zip" = none
  cMOST_LETTERS : ∃ u, mg "MOST_LETTERS" = some u ∧ RelV (.int 8) u
  cMOST_NUMBER_FIGURES : ∃ u, mg "MOST_NUMBER_FIGURES" = some u ∧ RelV (.int 2) u
  cMOST_NUMBER : ∃ u, mg "MOST_NUMBER" = some u ∧ RelV (.int 99) u
  cMOST_AGAIN : ∃ u, mg "MOST_AGAIN" = some u ∧ RelV (.int 9) u
  cMOST_THINGS : ∃ u, mg "MOST_THINGS" = some u ∧ RelV (.int 12) u
  cMOST_BRACKETS : ∃ u, mg "MOST_BRACKETS" = some u ∧ RelV (.int 4) u
  cLETTERS : ∃ u, mg "LETTERS" = some u ∧ RelV (.str "abcdefghijklmnopqrstuvwxyz") u
  cFIGURES : ∃ u, mg "FIGURES" = some u ∧ RelV (.str "0123456789") u
  aNO_NAMES : Addr
  cNO_NAMES : ∃ u, mg "NO_NAMES" = some u ∧ RelV (.ref aNO_NAMES) u
  tNO_NAMES : ∀ H : Hp, SqT K H aNO_NAMES [.str "step", .str "for", .str "from", .str "to", .str "if", .str "else", .str "double", .str "call", .str "with", .str "again", .str "on", .str "halves", .str "thirds", .str "less", .str "n"]
  cSINGLE_SIGNS : ∃ u, mg "SINGLE_SIGNS" = some u ∧ RelV (.str "();+-") u
  aREADERS : Addr
  cREADERS : ∃ u, mg "READERS" = some u ∧ RelV (.ref aREADERS) u
  eREADERS : Array DictEntry
  nREADERS : Nat
  DREADERS : KDict K w aREADERS eREADERS nREADERS
  kREADERS_step : KDct K w aREADERS "step" (.ref fread_step)
  sREADERS_step : PySem.W.nsIn K aREADERS "step" = some (some (.ref fread_step))
  kREADERS_for : KDct K w aREADERS "for" (.ref fread_for)
  sREADERS_for : PySem.W.nsIn K aREADERS "for" = some (some (.ref fread_for))
  kREADERS_if : KDct K w aREADERS "if" (.ref fread_if)
  sREADERS_if : PySem.W.nsIn K aREADERS "if" = some (some (.ref fread_if))
  kREADERS_double : KDct K w aREADERS "double" (.ref fread_double)
  sREADERS_double : PySem.W.nsIn K aREADERS "double" = some (some (.ref fread_double))
  kREADERS_call : KDct K w aREADERS "call" (.ref fread_call)
  sREADERS_call : PySem.W.nsIn K aREADERS "call" = some (some (.ref fread_call))
  kREADERS_again : KDct K w aREADERS "again" (.ref fread_again)
  sREADERS_again : PySem.W.nsIn K aREADERS "again" = some (some (.ref fread_again))
theorem Tops.bis_name {w : World} {K : PySem.W.Frag} {mg : Str → Option Value} (T : Tops w K mg) : Binds K T.dis_name ["text"] [] := T.Fis_name.binds (ps := ["text"]) fun _ _ _ _ _ _ us hl => match us, hl with | [_], _ => rfl
theorem Tops.brun_end {w : World} {K : PySem.W.Frag} {mg : Str → Option Value} (T : Tops w K mg) : Binds K T.drun_end ["text", "at", "kind"] [] := T.Frun_end.binds (ps := ["text", "at", "kind"]) fun _ _ _ _ _ _ us hl => match us, hl with | [_, _, _], _ => rfl
theorem Tops.bword_end {w : World} {K : PySem.W.Frag} {mg : Str → Option Value} (T : Tops w K mg) : Binds K T.dword_end ["text", "at"] [] := T.Fword_end.binds (ps := ["text", "at"]) fun _ _ _ _ _ _ us hl => match us, hl with | [_, _], _ => rfl
theorem Tops.bnumber_end {w : World} {K : PySem.W.Frag} {mg : Str → Option Value} (T : Tops w K mg) : Binds K T.dnumber_end ["text", "at"] [] := T.Fnumber_end.binds (ps := ["text", "at"]) fun _ _ _ _ _ _ us hl => match us, hl with | [_, _], _ => rfl
theorem Tops.bsign_end {w : World} {K : PySem.W.Frag} {mg : Str → Option Value} (T : Tops w K mg) : Binds K T.dsign_end ["text", "at"] [] := T.Fsign_end.binds (ps := ["text", "at"]) fun _ _ _ _ _ _ us hl => match us, hl with | [_, _], _ => rfl
theorem Tops.bsigns_of {w : World} {K : PySem.W.Frag} {mg : Str → Option Value} (T : Tops w K mg) : Binds K T.dsigns_of ["text"] [] := T.Fsigns_of.binds (ps := ["text"]) fun _ _ _ _ _ _ us hl => match us, hl with | [_], _ => rfl
theorem Tops.bReader___init__ {w : World} {K : PySem.W.Frag} {mg : Str → Option Value} (T : Tops w K mg) : Binds K T.dReader___init__ ["self", "text"] [] := T.FReader___init__.binds (ps := ["self", "text"]) fun _ _ _ _ _ _ us hl => match us, hl with | [_, _], _ => rfl
theorem Tops.bReader_sign {w : World} {K : PySem.W.Frag} {mg : Str → Option Value} (T : Tops w K mg) : Binds K T.dReader_sign ["self"] [] := T.FReader_sign.binds (ps := ["self"]) fun _ _ _ _ _ _ us hl => match us, hl with | [_], _ => rfl
theorem Tops.bReader_spot {w : World} {K : PySem.W.Frag} {mg : Str → Option Value} (T : Tops w K mg) : Binds K T.dReader_spot ["self"] [] := T.FReader_spot.binds (ps := ["self"]) fun _ _ _ _ _ _ us hl => match us, hl with | [_], _ => rfl
theorem Tops.bReader_take_if {w : World} {K : PySem.W.Frag} {mg : Str → Option Value} (T : Tops w K mg) : Binds K T.dReader_take_if ["self", "fits"] [] := T.FReader_take_if.binds (ps := ["self", "fits"]) fun _ _ _ _ _ _ us hl => match us, hl with | [_, _], _ => rfl
theorem Tops.bReader_take {w : World} {K : PySem.W.Frag} {mg : Str → Option Value} (T : Tops w K mg) : Binds K T.dReader_take ["self", "wanted"] [] := T.FReader_take.binds (ps := ["self", "wanted"]) fun _ _ _ _ _ _ us hl => match us, hl with | [_, _], _ => rfl
theorem Tops.bReader_take_name {w : World} {K : PySem.W.Frag} {mg : Str → Option Value} (T : Tops w K mg) : Binds K T.dReader_take_name ["self"] [] := T.FReader_take_name.binds (ps := ["self"]) fun _ _ _ _ _ _ us hl => match us, hl with | [_], _ => rfl
theorem Tops.bReader_take_number {w : World} {K : PySem.W.Frag} {mg : Str → Option Value} (T : Tops w K mg) : Binds K T.dReader_take_number ["self", "least", "most"] [] := T.FReader_take_number.binds (ps := ["self", "least", "most"]) fun _ _ _ _ _ _ us hl => match us, hl with | [_, _, _], _ => rfl
theorem Tops.bread_plan {w : World} {K : PySem.W.Frag} {mg : Str → Option Value} (T : Tops w K mg) : Binds K T.dread_plan ["text"] [] := T.Fread_plan.binds (ps := ["text"]) fun _ _ _ _ _ _ us hl => match us, hl with | [_], _ => rfl
theorem Tops.bread_body {w : World} {K : PySem.W.Frag} {mg : Str → Option Value} (T : Tops w K mg) : Binds K T.dread_body ["reader"] [] := T.Fread_body.binds (ps := ["reader"]) fun _ _ _ _ _ _ us hl => match us, hl with | [_], _ => rfl
theorem Tops.bread_thing {w : World} {K : PySem.W.Frag} {mg : Str → Option Value} (T : Tops w K mg) : Binds K T.dread_thing ["reader"] [] := T.Fread_thing.binds (ps := ["reader"]) fun _ _ _ _ _ _ us hl => match us, hl with | [_], _ => rfl
theorem Tops.bread_bracket {w : World} {K : PySem.W.Frag} {mg : Str → Option Value} (T : Tops w K mg) : Binds K T.dread_bracket ["reader"] [] := T.Fread_bracket.binds (ps := ["reader"]) fun _ _ _ _ _ _ us hl => match us, hl with | [_], _ => rfl
theorem Tops.bread_end {w : World} {K : PySem.W.Frag} {mg : Str → Option Value} (T : Tops w K mg) : Binds K T.dread_end ["reader"] [] := T.Fread_end.binds (ps := ["reader"]) fun _ _ _ _ _ _ us hl => match us, hl with | [_], _ => rfl
theorem Tops.bread_step {w : World} {K : PySem.W.Frag} {mg : Str → Option Value} (T : Tops w K mg) : Binds K T.dread_step ["reader"] [] := T.Fread_step.binds (ps := ["reader"]) fun _ _ _ _ _ _ us hl => match us, hl with | [_], _ => rfl
theorem Tops.bread_for {w : World} {K : PySem.W.Frag} {mg : Str → Option Value} (T : Tops w K mg) : Binds K T.dread_for ["reader"] [] := T.Fread_for.binds (ps := ["reader"]) fun _ _ _ _ _ _ us hl => match us, hl with | [_], _ => rfl
theorem Tops.bread_if {w : World} {K : PySem.W.Frag} {mg : Str → Option Value} (T : Tops w K mg) : Binds K T.dread_if ["reader"] [] := T.Fread_if.binds (ps := ["reader"]) fun _ _ _ _ _ _ us hl => match us, hl with | [_], _ => rfl
theorem Tops.bread_double {w : World} {K : PySem.W.Frag} {mg : Str → Option Value} (T : Tops w K mg) : Binds K T.dread_double ["reader"] [] := T.Fread_double.binds (ps := ["reader"]) fun _ _ _ _ _ _ us hl => match us, hl with | [_], _ => rfl
theorem Tops.bread_call {w : World} {K : PySem.W.Frag} {mg : Str → Option Value} (T : Tops w K mg) : Binds K T.dread_call ["reader"] [] := T.Fread_call.binds (ps := ["reader"]) fun _ _ _ _ _ _ us hl => match us, hl with | [_], _ => rfl
theorem Tops.bread_again {w : World} {K : PySem.W.Frag} {mg : Str → Option Value} (T : Tops w K mg) : Binds K T.dread_again ["reader"] [] := T.Fread_again.binds (ps := ["reader"]) fun _ _ _ _ _ _ us hl => match us, hl with | [_], _ => rfl
theorem Tops.bl_begin {w : World} {K : PySem.W.Frag} {mg : Str → Option Value} (T : Tops w K mg) : Binds K T.dl_begin ["_law_script"] [] := T.Fl_begin.binds (ps := ["_law_script"]) fun _ _ _ _ _ _ us hl => match us, hl with | [_], _ => rfl
theorem Tops.bl_take {w : World} {K : PySem.W.Frag} {mg : Str → Option Value} (T : Tops w K mg) : Binds K T.dl_take ["_law_draw", "_law_sides"] [] := T.Fl_take.binds (ps := ["_law_draw", "_law_sides"]) fun _ _ _ _ _ _ us hl => match us, hl with | [_, _], _ => rfl
theorem Tops.bl_pick {w : World} {K : PySem.W.Frag} {mg : Str → Option Value} (T : Tops w K mg) : Binds K T.dl_pick ["_law_draw", "_law_row"] [] := T.Fl_pick.binds (ps := ["_law_draw", "_law_row"]) fun _ _ _ _ _ _ us hl => match us, hl with | [_, _], _ => rfl
theorem Tops.bl_some_end {w : World} {K : PySem.W.Frag} {mg : Str → Option Value} (T : Tops w K mg) : Binds K T.dl_some_end ["_law_draw", "_law_scope", "_law_wide"] [] := T.Fl_some_end.binds (ps := ["_law_draw", "_law_scope", "_law_wide"]) fun _ _ _ _ _ _ us hl => match us, hl with | [_, _, _], _ => rfl
theorem Tops.bl_leaf {w : World} {K : PySem.W.Frag} {mg : Str → Option Value} (T : Tops w K mg) : Binds K T.dl_leaf ["_law_draw", "_law_kit", "_law_scope", "_law_deep"] [] := T.Fl_leaf.binds (ps := ["_law_draw", "_law_kit", "_law_scope", "_law_deep"]) fun _ _ _ _ _ _ us hl => match us, hl with | [_, _, _, _], _ => rfl
theorem Tops.bl_kept_words {w : World} {K : PySem.W.Frag} {mg : Str → Option Value} (T : Tops w K mg) : Binds K T.dl_kept_words [] [] := T.Fl_kept_words.binds (ps := []) fun _ _ _ _ _ _ us hl => match us, hl with | [], _ => rfl
theorem Tops.bl_fresh {w : World} {K : PySem.W.Frag} {mg : Str → Option Value} (T : Tops w K mg) : Binds K T.dl_fresh ["_law_draw", "_law_taken"] [] := T.Fl_fresh.binds (ps := ["_law_draw", "_law_taken"]) fun _ _ _ _ _ _ us hl => match us, hl with | [_, _], _ => rfl
theorem Tops.bl_drawn_thing {w : World} {K : PySem.W.Frag} {mg : Str → Option Value} (T : Tops w K mg) : Binds K T.dl_drawn_thing ["_law_draw", "_law_kit", "_law_scope", "_law_deep"] [] := T.Fl_drawn_thing.binds (ps := ["_law_draw", "_law_kit", "_law_scope", "_law_deep"]) fun _ _ _ _ _ _ us hl => match us, hl with | [_, _, _, _], _ => rfl
theorem Tops.bl_drawn_body {w : World} {K : PySem.W.Frag} {mg : Str → Option Value} (T : Tops w K mg) : Binds K T.dl_drawn_body ["_law_draw", "_law_kit", "_law_scope", "_law_deep"] [] := T.Fl_drawn_body.binds (ps := ["_law_draw", "_law_kit", "_law_scope", "_law_deep"]) fun _ _ _ _ _ _ us hl => match us, hl with | [_, _, _, _], _ => rfl
theorem Tops.bl_drawn {w : World} {K : PySem.W.Frag} {mg : Str → Option Value} (T : Tops w K mg) : Binds K T.dl_drawn ["_law_draw", "_law_room", "_law_figures", "_law_wide"] [] := T.Fl_drawn.binds (ps := ["_law_draw", "_law_room", "_law_figures", "_law_wide"]) fun _ _ _ _ _ _ us hl => match us, hl with | [_, _, _, _], _ => rfl
theorem Tops.bl_spaced {w : World} {K : PySem.W.Frag} {mg : Str → Option Value} (T : Tops w K mg) : Binds K T.dl_spaced ["_law_draw", "_law_text"] [] := T.Fl_spaced.binds (ps := ["_law_draw", "_law_text"]) fun _ _ _ _ _ _ us hl => match us, hl with | [_, _], _ => rfl
theorem Tops.bl_end_text {w : World} {K : PySem.W.Frag} {mg : Str → Option Value} (T : Tops w K mg) : Binds K T.dl_end_text ["_law_end"] [] := T.Fl_end_text.binds (ps := ["_law_end"]) fun _ _ _ _ _ _ us hl => match us, hl with | [_], _ => rfl
theorem Tops.bl_thing_text {w : World} {K : PySem.W.Frag} {mg : Str → Option Value} (T : Tops w K mg) : Binds K T.dl_thing_text ["_law_thing"] [] := T.Fl_thing_text.binds (ps := ["_law_thing"]) fun _ _ _ _ _ _ us hl => match us, hl with | [_], _ => rfl
theorem Tops.bl_written {w : World} {K : PySem.W.Frag} {mg : Str → Option Value} (T : Tops w K mg) : Binds K T.dl_written ["_law_plan"] [] := T.Fl_written.binds (ps := ["_law_plan"]) fun _ _ _ _ _ _ us hl => match us, hl with | [_], _ => rfl
theorem Tops.bl_loose {w : World} {K : PySem.W.Frag} {mg : Str → Option Value} (T : Tops w K mg) : Binds K T.dl_loose ["_law_draw", "_law_plan"] [] := T.Fl_loose.binds (ps := ["_law_draw", "_law_plan"]) fun _ _ _ _ _ _ us hl => match us, hl with | [_, _], _ => rfl
theorem Tops.bl_same {w : World} {K : PySem.W.Frag} {mg : Str → Option Value} (T : Tops w K mg) : Binds K T.dl_same ["_law_found", "_law_due"] [] := T.Fl_same.binds (ps := ["_law_found", "_law_due"]) fun _ _ _ _ _ _ us hl => match us, hl with | [_, _], _ => rfl
theorem Tops.blaw {w : World} {K : PySem.W.Frag} {mg : Str → Option Value} (T : Tops w K mg) : ∀ (s : Shared) (v : Value), BindsTo s T.dlaw ⟨[v], []⟩ [("_law_script", v)] := by
  obtain ⟨oc, od, kV, doc, pm, an, cdv, ct, osl, e, lk, hcd⟩ := T.Flaw.ex
  intro s v
  rw [e]
  exact .of_eq rfl
section
variable {P : Program} {w : World} {K : PySem.W.Frag} {mg : Str → Option Value} {base : Heap}
theorem ok_begin (T : Tops w K mg) : FnOk P w K mg base CX0 1 T.fl_begin T.dl_begin ["_law_script"] (spBegin K) := by
  refine T.Fl_begin.ok scl_begin (fun vs H Q E h => ?_) (fun cdv A outer s H vs Q E hr h => ?_)
  · obtain ⟨a, ns, rfl, _⟩ := h
    rfl
  obtain ⟨a, ns, rfl, hS, q⟩ := h
  refine ⟨_, (pss_one (ps_ret (pe_lst (pa_cons (pe_callTy call_list_of (by rfl) T.mlist (by decide +kernel) (pa_cons (pe_slice sl_list (pv 0) po_none (po_some pe_int)) pa_nil)) (pa_cons pe_int (pa_cons pe_int (pa_cons pe_int pa_nil))))))), ?_⟩
  refine ⟨_, rfl, 63, rfl, a, _, rfl, hS, fun p np => ?_⟩
  obtain ⟨ms, hms⟩ := cut_map ns none (some 63)
  refine ⟨p, _, rfl, .inl (SqL.of upd_same), fun L nL => ?_⟩
  refine ⟨(by show 4 ≤ sizeLine; decide), fun d nd => ?_⟩
  have nL0 : H L = none := (same_new np).free nL
  have s3 : Same H (upd (upd (upd H p (.lst (cutV (ns.map V.int) none (some 63)))) L (.lst (cutV (ns.map V.int) none (some 63)))) d (.lst [.ref L, .int 0, .int 0, .int 37])) :=
    ((same_new np).trans (same_new nL)).trans (same_new nd)
  have nd0 : H d = none := ((same_new np).trans (same_new nL)).free nd
  refine q d L _ s3 nd0 nL0 ⟨ms, 0, 0, 37, upd_same, ?_, by decide, by decide, by decide, by decide⟩
  rw [upd_ne (ne_of_none (upd_same) nd), upd_same, hms]
theorem ok_take (T : Tops w K mg) : FnOk P w K mg base CX0 1 T.fl_take T.dl_take ["_law_draw", "_law_sides"] spTake := by
  refine T.Fl_take.ok scl_take (fun vs H Q E h => ?_) (fun cdv A outer s H vs Q E hr h => ?_)
  · obtain ⟨d, L, k, rfl, _⟩ := h
    rfl
  obtain ⟨d, L, k, rfl, hD, k1, k2, q⟩ := h
  refine ⟨_, (pss_cut (ps_if (PW.pt (pw_and (pt_cmpR op_lt (pe_ix ix_list (pv 0) pe_int (fun _ _ => rfl)) (pv 1) (nomark _)) (pw_and1 (pt_cmpR op_lt (pe_ix ix_list (pv 0) pe_int (fun _ _ => rfl)) (pe_callB call_len_seq (by rfl) T.mlen PySem.boot_len (pa_cons (pe_ix ix_list (pv 0) pe_int (fun _ _ => rfl)) pa_nil)) (nomark _)))))
  (pss_cons (ps_set (i := 2) scl_take.nd rfl (Or.inl rfl) (pe_ix ix_list (pe_ix ix_list (pv 0) pe_int (fun _ _ => rfl)) (pe_ix ix_list (pv 0) pe_int (fun _ _ => rfl)) (fun _ _ => rfl)))
 (pss_cons (ps_asg (pe_op op_add (pe_ix ix_list (pv 0) pe_int (fun _ _ => rfl)) pe_int) (pg_sub (pv 0) pe_int set_list))
 (pss_cons (ps_asg pe_int (pg_sub (pv 0) pe_int set_list))
 (pss_one (ps_if (pt_cmpR op_ge (pe_callB call_abs (by rfl) T.mabs (by decide +kernel) (pa_cons (pv 2) pa_nil)) (pe_op op_pow pe_int pe_int) (nomark _))
  (pss_one (ps_asg (pe_callB call_abs (by rfl) T.mabs (by decide +kernel) (pa_cons (pv 2) pa_nil)) (pg_sub (pv 0) pe_int set_list)))
  (pss_one (ps_asg (pe_op op_mod (pe_op op_add (pe_op op_add (pe_op op_mul (pe_ix ix_list (pv 0) pe_int (fun _ _ => rfl)) pe_int) (pe_op op_mul (pe_op op_mod (pv 2) pe_int) pe_int)) pe_int) pe_int) (pg_sub (pv 0) pe_int set_list))))))))
  pss_nil)
 (pss_cons (ps_if (pt_cmpR op_ge (pe_ix ix_list (pv 0) pe_int (fun _ _ => rfl)) (pv 1) (nomark _))
  (pss_cons (ps_set (i := 3) scl_take.nd rfl (Or.inl rfl) (pe_op op_mod (pe_ix ix_list (pv 0) pe_int (fun _ _ => rfl)) (pv 1)))
 (pss_cons (ps_asg (pe_op op_fdiv (pe_ix ix_list (pv 0) pe_int (fun _ _ => rfl)) (pv 1)) (pg_sub (pv 0) pe_int set_list))
 (pss_one (ps_ret (pv 3)))))
  pss_nil)
 (pss_cons (ps_asg (pe_op op_mod (pe_op op_add (pe_op op_add (pe_op op_mul (pe_op op_mod (pe_op op_mul (pe_ix ix_list (pv 0) pe_int (fun _ _ => rfl)) (pe_ix ix_list (pv 0) pe_int (fun _ _ => rfl))) pe_int) pe_int) (pe_op op_mul (pe_ix ix_list (pv 0) pe_int (fun _ _ => rfl)) pe_int)) pe_int) pe_int) (pg_sub (pv 0) pe_int set_list))
 (pss_one (ps_ret (pe_op op_mod (pe_op op_add (pe_op op_fdiv (pe_ix ix_list (pv 0) pe_int (fun _ _ => rfl)) pe_int) (pe_op op_mul (pe_op op_mod (pe_ix ix_list (pv 0) pe_int (fun _ _ => rfl)) pe_int) pe_int)) (pv 1))))))), ?_⟩
  have hne := hD.ne
  refine ⟨fun σ' H' => (∃ x y, σ' = [some (.ref d), some (.int k), x, y]) ∧ Dr H' d L ∧ But d H H', ?_, ?_⟩
  · obtain ⟨ns, i, r, s, hd, hL, i0, r0, s0, s1⟩ := id hD
    refine ⟨_, rfl, d, _, 2, _, rfl, rfl, SqL.of hd, rfl, _, rfl, r, k, rfl, rfl, _, rfl, ite2 (fun c1 => ?_) (fun c1 => ?_)⟩
    · refine ⟨_, rfl, d, _, 1, _, rfl, rfl, SqL.of hd, rfl, _, rfl, d, _, 0, _, rfl, rfl, SqL.of hd, rfl, L, _, rfl, .inl (SqL.of hL), i, _, rfl, rfl, _, rfl, ite2 (fun c2 => ?_) (fun c2 => ?_)⟩
      · have c3 : i < ((ns.map V.int).length : Int) := of_decide_eq_true c2
        obtain ⟨v, hv, hm⟩ := atI_lt (xs := ns.map V.int) i0 c3
        obtain ⟨n, _, rfl⟩ := List.mem_map.mp hm
        refine ⟨_, rfl, d, _, 0, _, rfl, rfl, SqL.of hd, rfl, _, rfl, d, _, 1, _, rfl, rfl, SqL.of hd, rfl, L, _, i, _, rfl, rfl, SqL.of hL, hv, ?_⟩
        refine ⟨_, rfl, d, _, 1, _, rfl, rfl, SqL.of hd, rfl, i, 1, rfl, rfl, _, rfl, d, _, 1, 1, rfl, rfl, hd, rfl, ?_⟩
        refine ⟨_, rfl, d, _, 2, 2, rfl, rfl, upd_same, rfl, ?_⟩
        rw [upd_upd]
        refine ⟨_, rfl, n, rfl, 10, 18, rfl, rfl, ⟨by decide, by decide, by decide⟩, _, _, rfl, rfl, _, rfl, ite2 (fun c4 => ?_) (fun c4 => ?_)⟩
        · refine ⟨_, rfl, n, rfl, _, rfl, d, _, 2, 2, rfl, rfl, upd_same, rfl, ?_⟩
          rw [upd_upd]
          exact ⟨⟨_, _, rfl⟩, dr_set hL hne (by omega) (by split <;> omega) s0 s1, but_upd⟩
        · refine ⟨_, rfl, d, _, 3, _, rfl, rfl, SqL.of upd_same, rfl, s, 48271, rfl, rfl, .inr ⟨by decide, by decide⟩, _, rfl, n, 2147483629, rfl, rfl, (show (0 : Int) < 2147483629 by decide), _, 69621, rfl, rfl, .inr ⟨by decide, by decide⟩, _, _, rfl, rfl, _, 12345, rfl, rfl, _, 2147483647, rfl, rfl, (show (0 : Int) < 2147483647 by decide), _, rfl, d, _, 3, 3, rfl, rfl, upd_same, rfl, ?_⟩
          rw [upd_upd]
          have z := mod_lt (a := s * 48271 + n % 2147483629 * 69621 + 12345) (k := 2147483647) (by decide)
          exact ⟨⟨_, _, rfl⟩, dr_set hL hne (by omega) (Int.le_refl 0) z.1 z.2, but_upd⟩
      · exact ⟨⟨_, _, rfl⟩, hD, But.refl d H⟩
    · exact ⟨⟨_, _, rfl⟩, hD, But.refl d H⟩
  · rintro σ' H' ⟨⟨x, y, rfl⟩, hD', hB⟩
    obtain ⟨ns, i, r, s, hd, hL, i0, r0, s0, s1⟩ := id hD'
    refine ⟨_, rfl, d, _, 2, _, rfl, rfl, SqL.of hd, rfl, _, rfl, r, k, rfl, rfl, _, rfl, ite2 (fun c1 => ?_) (fun c1 => ?_)⟩
    · refine ⟨_, rfl, d, _, 2, _, rfl, rfl, SqL.of hd, rfl, _, rfl, r, k, rfl, rfl, (show (0 : Int) < k by omega), ?_⟩
      refine ⟨_, rfl, d, _, 2, _, rfl, rfl, SqL.of hd, rfl, _, rfl, r, k, rfl, rfl, ⟨by omega, k2⟩, _, rfl, d, _, 2, 2, rfl, rfl, hd, rfl, ?_⟩
      have z := mod_lt (a := r) k1
      refine ⟨_, rfl, q _ _ z.1 z.2 (dr_set hL hne i0 (Int.ediv_nonneg r0 (by omega)) s0 s1) (hB.trans but_upd)⟩
    · refine ⟨_, rfl, d, _, 3, _, rfl, rfl, SqL.of hd, rfl, _, rfl, d, _, 3, _, rfl, rfl, SqL.of hd, rfl, s, s, rfl, rfl, .inl ⟨by omega, by omega⟩, _, 2147483629, rfl, rfl, (show (0 : Int) < 2147483629 by decide), _, 5, rfl, rfl, .inr ⟨by decide, by decide⟩,
        _, rfl, d, _, 3, _, rfl, rfl, SqL.of hd, rfl, s, 16811, rfl, rfl, .inr ⟨by decide, by decide⟩, _, _, rfl, rfl, _, 2531011, rfl, rfl, _, 2147483647, rfl, rfl, (show (0 : Int) < 2147483647 by decide), _, rfl, d, _, 3, 3, rfl, rfl, hd, rfl, ?_⟩
      have z := mod_lt (a := s * s % 2147483629 * 5 + s * 16811 + 2531011) (k := 2147483647) (by decide)
      refine ⟨_, rfl, d, _, 3, _, rfl, rfl, SqL.of upd_same, rfl, _, 61, rfl, rfl, ⟨by decide, by decide⟩, _, rfl, d, _, 3, _, rfl, rfl, SqL.of upd_same, rfl, _, 8191, rfl, rfl, (show (0 : Int) < 8191 by decide), _, 31, rfl, rfl, .inr ⟨by decide, by decide⟩, _, _, rfl, rfl, _, rfl, _, k, rfl, rfl, (show (0 : Int) < k by omega), ?_⟩
      exact q _ _ (mod_lt k1).1 (mod_lt k1).2 (dr_set hL hne i0 r0 z.1 z.2) (hB.trans but_upd)
theorem ok_pick (T : Tops w K mg) : FnOk P w K mg base CX0 2 T.fl_pick T.dl_pick ["_law_draw", "_law_row"] (spPick K) := by
  have Gl_take : FnOk P w K mg base CX0 1 T.fl_take T.dl_take ["_law_draw", "_law_sides"] spTake := ok_take T
  refine T.Fl_pick.ok scl_pick (fun vs H Q E h => ?_) (fun cdv A outer s H vs Q E hr h => ?_)
  · obtain ⟨d, L, x, n, rfl, _⟩ := h
    rfl
  obtain ⟨d, L, x, n, rfl, hD, n0, n1, q⟩ := h
  refine ⟨_, (pss_one (ps_ret (pe_ix ix_seq (pv 1) (pe_call Gl_take (hr.mono (by omega)) (by rfl) T.gl_take T.Fl_take.kp T.bl_take .nil pass0 (pa_cons (pv 0) (pa_cons (pe_callB call_len (by rfl) T.mlen PySem.boot_len (pa_cons (pv 1) pa_nil)) pa_nil))) (fun _ _ => rfl)))), ?_⟩
  rcases q with ⟨z, rfl, rfl, q⟩ | ⟨a, xs, rfl, na, hS, rfl, q⟩
  · refine ⟨_, rfl, _, rfl, _, rfl, .str z, z.length, rfl, ⟨sz (by omega), rfl⟩, d, L, (z.length : Int), rfl, hD, by omega, by omega, fun g H' g0 g1 hD' hB => ?_⟩
    have e := len_tl z
    obtain ⟨c, hc, hm⟩ := atI_lt (xs := tl z) g0 (by omega)
    exact .inr (.inr ⟨z, g, c, rfl, rfl, sz (by omega), hc, q c H' hm hD' hB⟩)
  · refine ⟨_, rfl, _, rfl, _, rfl, .ref a, xs.length, rfl, .inl ⟨xs, hS, rfl⟩, d, L, (xs.length : Int), rfl, hD, by omega, by omega, fun g H' g0 g1 hD' hB => ?_⟩
    obtain ⟨v, hv, hm⟩ := atI_lt (xs := xs) g0 (by omega)
    exact .inl ⟨a, xs, g, v, rfl, rfl, SqL.but hS hB na, hv, q v H' hm hD' hB⟩
theorem ok_kept (T : Tops w K mg) : FnOk P w K mg base CX0 1 T.fl_kept_words T.dl_kept_words [] spKept := by
  refine T.Fl_kept_words.ok scl_kept_words (fun vs H Q E h => ?_) (fun cdv A outer s H vs Q E hr h => ?_)
  · obtain ⟨rfl, _⟩ := h
    rfl
  obtain ⟨rfl, q⟩ := h
  refine ⟨_, (pss_one (ps_ret (pe_split pe_str pe_str))), ?_⟩
  refine ⟨⟨_, rfl⟩, _, _, rfl, rfl, by decide +kernel, by decide +kernel, fun p np => ?_⟩
  refine q p _ np ?_
  rw [kept_split]
end
end K03

set_option Elab.async false
set_option linter.all false
set_option maxRecDepth 100000
set_option maxHeartbeats 4000000
namespace K03
open PySem PySem.Spec PyProof.Rows L2 OG
open C8 (pss_cut pe_gc)
section
variable {P : Program} {w : World} {K : PySem.W.Frag} {mg : Str → Option Value} {base : Heap}
theorem ok_is_name (T : Tops w K mg) : FnOk P w K mg base CX0 1 T.fis_name T.dis_name ["text"] spName := by
  refine T.Fis_name.ok scis_name (fun vs H Q E h => ?_) (fun cdv A outer s H vs Q E hr h => ?_)
  · obtain ⟨z, rfl, _⟩ := h
    rfl
  obtain ⟨z, rfl, hz, q⟩ := h
  refine ⟨_, (pss_cons (ps_if (PW.pt (pw_or (pt_cmpR op_in_seq (pv 0) (pe_gc (by rfl) T.cNO_NAMES) (by rfl)) (pw_or1 (pt_not (pt_chain op_le op_le pe_int (pe_callB call_len_str (by rfl) T.mlen PySem.boot_len (pa_cons (pv 0) pa_nil)) (pe_gc (by rfl) T.cMOST_LETTERS))))))
  (pss_one (ps_ret pe_bl))
  pss_nil)
 (pss_one (ps_ret (pe_callB (cr_all rfl) (by rfl) T.mall (by decide +kernel) (pa_cons (pe_lc (own := [("letter", 1)]) rfl scis_name.nd (pi_str (pv 0)) (blkOk_by (N := Nis_name) (sc := defScope sis_name) (by decide +kernel)) (fun _ _ _ _ _ => (pg_name (i := 1) scis_name.nd rfl (Or.inl rfl))) (fun _ _ _ _ _ => pts_nil) (fun _ _ _ _ _ => (pe_cmpR op_in_sign (pv 1) (pe_gc (by rfl) T.cLETTERS) (by rfl)))) pa_nil))))), ?_⟩
  refine ⟨_, rfl, T.aNO_NAMES, _, rfl, .inr (T.tNO_NAMES H), rfl, rfl, _, rfl, ite2 (fun c1 => ?_) (fun c1 => ?_)⟩
  · have e : nameB z = false := by
      unfold nameB
      have c2 : inV (.str z) (kept.map V.str) = true := c1
      rw [c2]
      rfl
    have q2 := q H (Same.refl H)
    rw [e] at q2
    exact iteT q2
  · have c2 : inV (.str z) (kept.map V.str) = false := by
      cases h : inV (.str z) (kept.map V.str) with
      | false => rfl
      | true => exact absurd h c1
    refine ⟨_, rfl, z, rfl, sz (by omega), 1, _, rfl, rfl, _, rfl, ite2 (fun c3 => ?_) (fun c3 => ?_)⟩
    · refine ⟨_, 8, rfl, rfl, _, rfl, ite2 (fun c4 => ?_) (fun c4 => ?_)⟩
      · have e : nameB z = false := by
          unfold nameB
          have c5 : ¬ ((z.length : Int) ≤ 8) := fun h => by
            rw [decide_eq_true h] at c4
            cases c4
          rw [decide_eq_false c5, Bool.and_false, Bool.and_false, Bool.false_and]
        have q2 := q H (Same.refl H)
        rw [e] at q2
        exact q2
      · have c5 : (z.length : Int) ≤ 8 := by
          by_cases h : (z.length : Int) ≤ 8
          · exact h
          · rw [decide_eq_false h] at c4
            exact absurd rfl c4
        refine ⟨_, rfl, z, rfl, fun D nD => ?_⟩
        refine lc_str_val (fun c => .bl (decide (c ∈ tl "abcdefghijklmnopqrstuvwxyz"))) 1 rfl (fun v => rfl) hz nD (fun c _ H2 Q2 _ h => ⟨_, rfl, c, _, rfl, rfl, h⟩) (fun H' sm hl => ?_)
        refine ⟨D, (tl z).map (fun c => decide (c ∈ tl "abcdefghijklmnopqrstuvwxyz")), rfl, SqL.of (by rw [List.map_map]; exact hl), ?_⟩
        have e : nameB z = ((tl z).map (fun c => decide (c ∈ tl "abcdefghijklmnopqrstuvwxyz"))).all id := by
          unfold nameB
          rw [c2, decide_eq_true (of_decide_eq_true c3), decide_eq_true c5]
          rfl
        rw [← e]
        exact q H' sm
    · have e : nameB z = false := by
        unfold nameB
        have c5 : ¬ ((1 : Int) ≤ (z.length : Int)) := fun h => c3 (decide_eq_true h)
        rw [decide_eq_false c5, Bool.false_and, Bool.and_false, Bool.false_and]
      have q2 := q H (Same.refl H)
      rw [e] at q2
      exact ⟨_, rfl, iteT q2⟩
theorem ok_sign (T : Tops w K mg) : FnOk P w K mg base CX0 1 T.fReader_sign T.dReader_sign ["self"] (spSign T.CReader) := by
  refine T.FReader_sign.ok (k := 0) scReader_sign (fun vs H Q E h => ?_) (fun cdv A outer s H vs Q E hr h => ?_)
  · obtain ⟨o, dx, sg, toks, p, th, dp, s, rfl, _⟩ := h
    rfl
  obtain ⟨o, dx, sg, toks, p, th, dp, s, rfl, hR, hs, q⟩ := h
  refine ⟨_, (pss_one (ps_ret (pe_ix ix_tup (pe_ix ix_list (pe_fld (pv 0) rfl) (pe_fld (pv 0) rfl) (fun _ _ => rfl)) pe_int (fun _ _ => rfl)))), ?_⟩
  obtain ⟨svs, h1, h2, h3⟩ := hR.sg
  obtain ⟨a, at_, e1, e2⟩ := h3 p s hs
  exact ⟨_, rfl, o, _, dx, _, _, rfl, hR.ob, T.clReader, T.naReader_signs, rfs_signs _ _ _ _, _, rfl, o, _, dx, _, _, rfl, hR.ob, T.clReader, T.naReader_place, rfs_place _ _ _ _, sg, svs, (p : Int), _, rfl, rfl, SqL.of h1, atI_nat e1, a, _, 0, _, rfl, rfl, SqT.of e2, rfl, q⟩
theorem ok_take_if (T : Tops w K mg) : FnOk P w K mg base CX0 2 T.fReader_take_if T.dReader_take_if ["self", "fits"] (spTakeIf T.CReader) := by
  have GReader_sign : FnOk P w K mg base CX0 1 T.fReader_sign T.dReader_sign ["self"] (spSign T.CReader) := ok_sign T
  refine T.FReader_take_if.ok (k := 1) scReader_take_if (fun vs H Q E h => ?_) (fun cdv A outer s H vs Q E hr h => ?_)
  · obtain ⟨o, dx, sg, toks, p, th, dp, s, as, v, rfl, _, _, rfl, _⟩ := h
    rfl
  obtain ⟨o, dx, sg, toks, p, th, dp, s, as, v, rfl, hR, hs, rfl, rfl, q⟩ := h
  refine ⟨_, (pss_cons (ps_if (pt_not (pt_val (pv 1)))
  (pss_one ps_never)
  pss_nil)
 (pss_cons (ps_set (i := 2) scReader_take_if.nd rfl (Or.inl rfl) (pe_meth0 (pv 0) T.clReader T.mtReader_sign GReader_sign (hr.mono (by omega)) T.bReader_sign .nil pass0))
 (pss_cons (ps_fldaug (pv 0) pe_int in_add)
 (pss_one (ps_ret (pv 2)))))), ?_⟩
  refine ⟨_, rfl, true, rfl, iteF ?_⟩
  refine ⟨_, rfl, o, dx, _, rfl, hR.ob, rfl, o, dx, sg, toks, p, th, dp, s, rfl, hR, hs, ?_⟩
  refine ⟨_, rfl, o, _, dx, _, _, rfl, hR.ob, T.clReader, T.naReader_place, rfs_place _ _ _ _, _, _, rfl, rfl, dx, _, hR.ob, rfs_len _ _ _ _, ?_⟩
  have st := hR.step (p' := p + 1) (th' := th) (dp' := dp)
  exact ⟨_, rfl, q _ st.1 st.2⟩
theorem ok_takeS (T : Tops w K mg) : FnOk P w K mg base CX0 3 T.fReader_take T.dReader_take ["self", "wanted"] (spTakeS T.CReader) := by
  have GReader_sign : FnOk P w K mg base CX0 1 T.fReader_sign T.dReader_sign ["self"] (spSign T.CReader) := ok_sign T
  have GReader_take_if : FnOk P w K mg base CX0 2 T.fReader_take_if T.dReader_take_if ["self", "fits"] (spTakeIf T.CReader) := ok_take_if T
  refine T.FReader_take.ok (k := 2) scReader_take (fun vs H Q E h => ?_) (fun cdv A outer s H vs Q E hr h => ?_)
  · obtain ⟨o, dx, sg, toks, p, th, dp, s, as, v, rfl, _, _, rfl, _⟩ := h
    rfl
  obtain ⟨o, dx, sg, toks, p, th, dp, s, as, v, rfl, hR, hs, rfl, rfl, q⟩ := h
  refine ⟨_, (pss_one (ps_ret (pe_meth (pv 0) T.clReader T.mtReader_take_if GReader_take_if (hr.mono (by omega)) T.bReader_take_if .nil pass0 (pa_cons (pe_cmpR op_eq (pe_meth0 (pv 0) T.clReader T.mtReader_sign GReader_sign (hr.mono (by omega)) T.bReader_sign .nil pass0) (pv 1) (nomark _)) pa_nil)))), ?_⟩
  refine ⟨_, rfl, o, dx, _, rfl, hR.ob, rfl, _, rfl, o, dx, _, rfl, hR.ob, rfl, o, dx, sg, toks, p, th, dp, s, rfl, hR, hs, _, rfl, rfl, ?_⟩
  exact ⟨o, dx, sg, toks, p, th, dp, s, _, _, rfl, hR, hs, bl1 (decide_eq_true rfl), rfl, q⟩
theorem ok_take_name (T : Tops w K mg) : FnOk P w K mg base CX0 3 T.fReader_take_name T.dReader_take_name ["self"] (spTakeName T.CReader) := by
  have GReader_sign : FnOk P w K mg base CX0 1 T.fReader_sign T.dReader_sign ["self"] (spSign T.CReader) := ok_sign T
  have GReader_take_if : FnOk P w K mg base CX0 2 T.fReader_take_if T.dReader_take_if ["self", "fits"] (spTakeIf T.CReader) := ok_take_if T
  have Gis_name : FnOk P w K mg base CX0 1 T.fis_name T.dis_name ["text"] spName := ok_is_name T
  refine T.FReader_take_name.ok (k := 2) scReader_take_name (fun vs H Q E h => ?_) (fun cdv A outer s H vs Q E hr h => ?_)
  · obtain ⟨o, dx, sg, toks, p, th, dp, s, as, v, rfl, _, _, ⟨rfl, _⟩, _⟩ := h
    rfl
  obtain ⟨o, dx, sg, toks, p, th, dp, s, as, v, rfl, hR, hs, ⟨rfl, hn⟩, rfl, q⟩ := h
  refine ⟨_, (pss_one (ps_ret (pe_meth (pv 0) T.clReader T.mtReader_take_if GReader_take_if (hr.mono (by omega)) T.bReader_take_if .nil pass0 (pa_cons (pe_call Gis_name (hr.mono (by omega)) (by rfl) T.gis_name T.Fis_name.kp T.bis_name .nil pass0 (pa_cons (pe_meth0 (pv 0) T.clReader T.mtReader_sign GReader_sign (hr.mono (by omega)) T.bReader_sign .nil pass0) pa_nil)) pa_nil)))), ?_⟩
  have hl := name_len hn
  refine ⟨_, rfl, o, dx, _, rfl, hR.ob, rfl, _, rfl, o, dx, _, rfl, hR.ob, rfl, o, dx, sg, toks, p, th, dp, s, rfl, hR, hs, s, rfl, by omega, fun H1 s1 => ?_⟩
  exact ⟨o, dx, sg, toks, p, th, dp, s, _, _, rfl, hR.same s1, hs, bl1 hn, rfl, fun H' hR' G' => q H' hR' ((Go.same s1).trans G')⟩
theorem ok_take_number (T : Tops w K mg) : FnOk P w K mg base CX0 3 T.fReader_take_number T.dReader_take_number ["self", "least", "most"] (spTakeNumber T.CReader) := by
  have GReader_sign : FnOk P w K mg base CX0 1 T.fReader_sign T.dReader_sign ["self"] (spSign T.CReader) := ok_sign T
  have GReader_take_if : FnOk P w K mg base CX0 2 T.fReader_take_if T.dReader_take_if ["self", "fits"] (spTakeIf T.CReader) := ok_take_if T
  refine T.FReader_take_number.ok (k := 2) scReader_take_number (fun vs H Q E h => ?_) (fun cdv A outer s H vs Q E hr h => ?_)
  · obtain ⟨o, dx, sg, toks, p, th, dp, s, as, v, rfl, _, _, ⟨k, lo, hi, _, rfl, _⟩, _⟩ := h
    rfl
  obtain ⟨o, dx, sg, toks, p, th, dp, s, as, v, rfl, hR, hs, ⟨k, lo, hi, rfl, rfl, k0, k1, hlo, hhi⟩, ⟨k', ek, k0', k1', rfl⟩, q⟩ := h
  refine ⟨_, (pss_cons (ps_set (i := 3) scReader_take_number.nd rfl (Or.inl rfl) (pe_meth0 (pv 0) T.clReader T.mtReader_sign GReader_sign (hr.mono (by omega)) T.bReader_sign .nil pass0))
 (pss_one (ps_ret (pe_callTy call_int_str (by rfl) T.mint (by decide +kernel) (pa_cons (pe_meth (pv 0) T.clReader T.mtReader_take_if GReader_take_if (hr.mono (by omega)) T.bReader_take_if .nil pass0 (pa_cons (pe_and (pe_m0 PySem.F.slot_str_isdigit PySem.F.type_str_isdigit mt_isdigit (pv 3)) (pe_one (pe_chain op_le op_le (pv 1) (pe_callTy call_int_str (by rfl) T.mint (by decide +kernel) (pa_cons (pv 3) pa_nil)) (pv 2)))) pa_nil)) pa_nil))))), ?_⟩
  obtain ⟨z1, z2, z3⟩ := num_ok k0 k1
  have ek2 : k = k' := by
    have := (num_ok k0' k1').2.1
    rw [← ek, z2] at this
    exact Option.some.inj this
  subst ek2
  refine ⟨_, rfl, o, dx, _, rfl, hR.ob, rfl, o, dx, sg, toks, p, th, dp, _, rfl, hR, hs, ?_⟩
  refine ⟨_, rfl, o, dx, _, rfl, hR.ob, rfl, _, rfl, ⟨_, rfl⟩, _, rfl, rfl, trivial, _, rfl, ite2 (fun _ => ?_) (fun z => absurd z1 z)⟩
  refine ⟨_, rfl, _, rfl, _, k, rfl, z2, by omega, lo, k, rfl, rfl, _, rfl, ite2 (fun _ => ?_) (fun z => absurd (decide_eq_true hlo) z)⟩
  refine ⟨_, rfl, k, hi, rfl, rfl, ?_⟩
  exact ⟨o, dx, sg, toks, p, th, dp, _, _, _, rfl, hR, hs, bl1 (decide_eq_true hhi), rfl, fun H' hR' G' => ⟨_, k, rfl, z2, by omega, q H' hR' G'⟩⟩
theorem ok_read_end (T : Tops w K mg) : FnOk P w K mg base CX0 4 T.fread_end T.dread_end ["reader"] (spReadEnd T.CReader) := by
  have GReader_sign : FnOk P w K mg base CX0 1 T.fReader_sign T.dReader_sign ["self"] (spSign T.CReader) := ok_sign T
  have GReader_take_if : FnOk P w K mg base CX0 2 T.fReader_take_if T.dReader_take_if ["self", "fits"] (spTakeIf T.CReader) := ok_take_if T
  have GReader_take : FnOk P w K mg base CX0 3 T.fReader_take T.dReader_take ["self", "wanted"] (spTakeS T.CReader) := ok_takeS T
  have GReader_take_number : FnOk P w K mg base CX0 3 T.fReader_take_number T.dReader_take_number ["self", "least", "most"] (spTakeNumber T.CReader) := ok_take_number T
  have Gis_name : FnOk P w K mg base CX0 1 T.fis_name T.dis_name ["text"] spName := ok_is_name T
  refine T.Fread_end.ok (k := 3) scread_end (fun vs H Q E h => ?_) (fun cdv A outer s H vs Q E hr h => ?_)
  · obtain ⟨o, dx, sg, toks, ts, rest, r0, p, th, dp, c, val, rfl, _⟩ := h
    rfl
  obtain ⟨o, dx, sg, toks, ts, rest, r0, p, th, dp, c, val, rfl, hR, hd, ⟨e, sc, rfl, hE, hS, n1, n2, rfl, rfl⟩, q⟩ := h
  refine ⟨_, (pss_cons (ps_if (pt_val (pe_m0 PySem.F.slot_str_isdigit PySem.F.type_str_isdigit mt_isdigit (pe_meth0 (pv 0) T.clReader T.mtReader_sign GReader_sign (hr.mono (by omega)) T.bReader_sign .nil pass0)))
  (pss_one (ps_ret (pe_tup (pa_cons pe_str (pa_cons (pe_meth (pv 0) T.clReader T.mtReader_take_number GReader_take_number (hr.mono (by omega)) T.bReader_take_number .nil pass0 (pa_cons pe_int (pa_cons (pe_gc (by rfl) T.cMOST_NUMBER) pa_nil))) pa_nil)))))
  pss_nil)
 (pss_cut (ps_set (i := 1) scread_end.nd rfl (Or.inl rfl) (pe_meth (pv 0) T.clReader T.mtReader_take_if GReader_take_if (hr.mono (by omega)) T.bReader_take_if .nil pass0 (pa_cons (pe_or (pe_cmpR op_eq (pe_meth0 (pv 0) T.clReader T.mtReader_sign GReader_sign (hr.mono (by omega)) T.bReader_sign .nil pass0) pe_str (nomark _)) (pe_one (pe_call Gis_name (hr.mono (by omega)) (by rfl) T.gis_name T.Fis_name.kp T.bis_name .nil pass0 (pa_cons (pe_meth0 (pv 0) T.clReader T.mtReader_sign GReader_sign (hr.mono (by omega)) T.bReader_sign .nil pass0) pa_nil)))) pa_nil)))
 (pss_cons (ps_set (i := 2) scread_end.nd rfl (Or.inl rfl) (pe_meth0 (pv 0) T.clReader T.mtReader_sign GReader_sign (hr.mono (by omega)) T.bReader_sign .nil pass0))
 (pss_cons (ps_if (pt_cmpR op_notIn_seq (pv 2) (pe_tup (pa_cons pe_str (pa_cons pe_str pa_nil))) (by rfl))
  (pss_one (ps_ret (pe_tup (pa_cons (pv 1) (pa_cons pe_int pa_nil)))))
  pss_nil)
 (pss_cons (ps_expr (pe_meth (pv 0) T.clReader T.mtReader_take GReader_take (hr.mono (by omega)) T.bReader_take .nil pass0 (pa_cons (pv 2) pa_nil)))
 (pss_cons (ps_set (i := 3) scread_end.nd rfl (Or.inl rfl) (pe_meth (pv 0) T.clReader T.mtReader_take_number GReader_take_number (hr.mono (by omega)) T.bReader_take_number .nil pass0 (pa_cons pe_int (pa_cons (pe_gc (by rfl) T.cMOST_NUMBER) pa_nil))))
 (pss_one (ps_ret (pe_tup (pa_cons (pv 1) (pa_cons (pe_ifExp (pt_cmpR op_eq (pv 2) pe_str (nomark _)) (pv 3) (pe_un un_neg (pv 3))) pa_nil))))))))))), ?_⟩
  by_cases e1 : e.1 = ""
  · -- a number
    have hb : 0 ≤ e.2 ∧ e.2 ≤ 99 := by
      rcases hE with ⟨_, h1, h2⟩ | ⟨h1, _⟩
      · exact ⟨h1, h2⟩
      · rw [e1] at h1
        rcases hS _ h1 with h2 | h2
        · exact absurd h2 (by decide +kernel)
        · exact absurd h2 (by decide +kernel)
    have et : tokE e = [num e.2] := by unfold tokE; rw [if_pos e1]
    rw [et] at hd q
    obtain ⟨h1, h2⟩ := at_drop (ts := []) hd
    obtain ⟨z1, z2, z3⟩ := num_ok hb.1 hb.2
    refine ⟨_, rfl, o, dx, _, rfl, hR.ob, rfl, o, dx, sg, toks, p, th, dp, _, rfl, hR, h1, ⟨_, rfl⟩, _, rfl, rfl, trivial, _, rfl, ite2 (fun _ => ?_) (fun z => absurd z1 z)⟩
    refine ⟨_, rfl, o, dx, _, rfl, hR.ob, rfl, o, dx, sg, toks, p, th, dp, _, _, .int e.2, rfl, hR, h1, ⟨e.2, 0, 99, rfl, rfl, hb.1, hb.2, hb.1, hb.2⟩, ⟨e.2, rfl, hb.1, hb.2, rfl⟩, fun H1 hR1 G1 => ?_⟩
    refine ⟨(by show 2 ≤ sizeLine; decide), fun p2 np => ?_⟩
    refine q _ _ (rp_tup upd_same (rpl_cons ?_ (rpl_cons rfl rpl_nil))) (hR1.new np) (G1.new np)
    rw [e1]
    rfl
  -- a name
  have hn : (nameB e.1 = true ∨ e.1 = "n") ∧ -99 ≤ e.2 ∧ e.2 ≤ 99 := by
    rcases hE with ⟨h1, _⟩ | ⟨h1, h2, h3⟩
    · exact absurd h1 e1
    · rcases hS _ h1 with h4 | h4
      · exact ⟨.inr h4, h2, h3⟩
      · exact ⟨.inl h4, h2, h3⟩
  have hlen : e.1.length ≤ 8 := by
    rcases hn.1 with h | h
    · exact (name_len h).2
    · rw [h]; decide +kernel
  have zd := name_nodigit hn.1
  have et : ∃ tr, tokE e = e.1 :: tr ∧ ((e.2 = 0 ∧ tr = []) ∨ (0 < e.2 ∧ tr = (["+", num e.2] : List Str)) ∨ (e.2 < 0 ∧ tr = (["-", num (-e.2)] : List Str))) := by
    unfold tokE
    rw [if_neg e1]
    by_cases e2 : e.2 = 0
    · rw [if_pos e2]
      exact ⟨[], rfl, .inl ⟨e2, rfl⟩⟩
    · rw [if_neg e2]
      by_cases e3 : 0 < e.2
      · rw [if_pos e3]
        exact ⟨_, rfl, .inr (.inl ⟨e3, rfl⟩)⟩
      · rw [if_neg e3]
        exact ⟨_, rfl, .inr (.inr ⟨by omega, rfl⟩)⟩
  obtain ⟨tr, et, htr⟩ := et
  rw [et] at hd q
  obtain ⟨h1, h2⟩ := at_drop hd
  refine ⟨_, rfl, o, dx, _, rfl, hR.ob, rfl, o, dx, sg, toks, p, th, dp, _, rfl, hR, h1, ⟨_, rfl⟩, _, rfl, rfl, trivial, _, rfl, ite2 (fun z => absurd z (by rw [zd]; exact Bool.false_ne_true)) (fun _ => ?_)⟩
  refine ⟨fun σ' H' => σ' = [some (.ref o), some (.str e.1), none, none] ∧ RS H' T.CReader o dx sg toks (p + 1) th dp ∧ Go (· = o) H H', ?_, ?_⟩
  · refine ⟨_, rfl, o, dx, _, rfl, hR.ob, rfl, _, rfl, o, dx, _, rfl, hR.ob, rfl, o, dx, sg, toks, p, th, dp, _, rfl, hR, h1, rfl, _, rfl, ite2 (fun c1 => ?_) (fun c1 => ?_)⟩
    · exact ⟨o, dx, sg, toks, p, th, dp, _, _, _, rfl, hR, h1, rfl, rfl, fun H' hR' G' => ⟨rfl, hR', G'⟩⟩
    · have hn2 : nameB e.1 = true := by
        rcases hn.1 with h | h
        · exact h
        · exact absurd (decide_eq_true (by rw [h])) c1
      refine ⟨_, rfl, o, dx, _, rfl, hR.ob, rfl, o, dx, sg, toks, p, th, dp, _, rfl, hR, h1, _, rfl, by omega, fun H1 s1 => ?_⟩
      exact ⟨o, dx, sg, toks, p, th, dp, _, _, _, rfl, hR.same s1, h1, bl1 hn2, rfl, fun H' hR' G' => ⟨rfl, hR', (Go.same s1).trans G'⟩⟩
  rintro σ' H1 ⟨rfl, hR1, G1⟩
  rcases htr with ⟨e2, rfl⟩ | ⟨e2, rfl⟩ | ⟨e2, rfl⟩
  · -- the name alone
    obtain ⟨h3, _⟩ := at_drop (s := r0) (ts := []) (rest := rest) h2
    refine ⟨_, rfl, o, dx, _, rfl, hR1.ob, rfl, o, dx, sg, toks, p + 1, th, dp, _, rfl, hR1, h3, ?_⟩
    refine ⟨_, rfl, (by show 2 ≤ sizeLine; decide), fun p2 np => ?_⟩
    have hin : ¬ r0 ∈ (["+", "-"] : List Str) := by
      simp only [List.mem_cons, List.not_mem_nil, or_false]
      exact fun z => z.elim n1 n2
    refine ⟨p2, _, rfl, .inr (SqT.of upd_same), rfl, rfl, _, rfl, ite2 (fun _ => ?_) (fun z => absurd (show (!inV (.str r0) ((["+", "-"] : List Str).map V.str)) = true by rw [inV_str, decide_eq_false hin]; rfl) z)⟩
    refine ⟨_, rfl, (by show 2 ≤ sizeLine; decide), fun p3 np3 => ?_⟩
    refine q _ _ (rp_tup upd_same (rpl_cons rfl (rpl_cons ?_ rpl_nil))) ((hR1.new np).new np3) ((G1.new np).new np3)
    rw [e2]
    rfl
  · obtain ⟨h3, h4⟩ := at_drop (s := "+") (ts := [num e.2]) (rest := r0 :: rest) h2
    obtain ⟨h5, h6⟩ := at_drop (s := num e.2) (ts := []) (rest := r0 :: rest) h4
    refine ⟨_, rfl, o, dx, _, rfl, hR1.ob, rfl, o, dx, sg, toks, p + 1, th, dp, _, rfl, hR1, h3, ?_⟩
    refine ⟨_, rfl, (by show 2 ≤ sizeLine; decide), fun p2 np => ?_⟩
    refine ⟨p2, _, rfl, .inr (SqT.of upd_same), rfl, rfl, _, rfl, ite2 (fun z => absurd z (by decide +kernel)) (fun _ => ?_)⟩
    have hR2 := hR1.new (u := .tup [.str "+", .str "-"]) np
    refine ⟨_, rfl, o, dx, _, rfl, hR2.ob, rfl, _, rfl, o, dx, sg, toks, p + 1, th, dp, _, _, _, rfl, hR2, h3, rfl, rfl, fun H3 hR3 G3 => ?_⟩
    refine ⟨_, rfl, o, dx, _, rfl, hR3.ob, rfl, o, dx, sg, toks, p + 1 + 1, th, dp, _, _, .int e.2, rfl, hR3, h5, ⟨e.2, 1, 99, rfl, rfl, by omega, by omega, by omega, by omega⟩, ⟨e.2, rfl, by omega, by omega, rfl⟩, fun H4 hR4 G4 => ?_⟩
    refine ⟨_, rfl, _, rfl, rfl, _, rfl, ite2 (fun _ => ?_) (fun z => absurd (by decide +kernel) z)⟩
    refine ⟨_, rfl, (by show 2 ≤ sizeLine; decide), fun p3 np3 => ?_⟩
    exact q _ _ (rp_tup upd_same (rpl_cons rfl (rpl_cons rfl rpl_nil))) (hR4.new np3) ((((G1.new np).trans G3).trans G4).new np3)
  · obtain ⟨h3, h4⟩ := at_drop (s := "-") (ts := [num (-e.2)]) (rest := r0 :: rest) h2
    obtain ⟨h5, h6⟩ := at_drop (s := num (-e.2)) (ts := []) (rest := r0 :: rest) h4
    refine ⟨_, rfl, o, dx, _, rfl, hR1.ob, rfl, o, dx, sg, toks, p + 1, th, dp, _, rfl, hR1, h3, ?_⟩
    refine ⟨_, rfl, (by show 2 ≤ sizeLine; decide), fun p2 np => ?_⟩
    refine ⟨p2, _, rfl, .inr (SqT.of upd_same), rfl, rfl, _, rfl, ite2 (fun z => absurd z (by decide +kernel)) (fun _ => ?_)⟩
    have hR2 := hR1.new (u := .tup [.str "+", .str "-"]) np
    refine ⟨_, rfl, o, dx, _, rfl, hR2.ob, rfl, _, rfl, o, dx, sg, toks, p + 1, th, dp, _, _, _, rfl, hR2, h3, rfl, rfl, fun H3 hR3 G3 => ?_⟩
    refine ⟨_, rfl, o, dx, _, rfl, hR3.ob, rfl, o, dx, sg, toks, p + 1 + 1, th, dp, _, _, .int (-e.2), rfl, hR3, h5, ⟨-e.2, 1, 99, rfl, rfl, by omega, by omega, by omega, by omega⟩, ⟨-e.2, rfl, by omega, by omega, rfl⟩, fun H4 hR4 G4 => ?_⟩
    refine ⟨_, rfl, _, rfl, rfl, _, rfl, ite2 (fun z => absurd z (by decide +kernel)) (fun _ => ?_)⟩
    refine ⟨_, rfl, -e.2, rfl, (by show 2 ≤ sizeLine; decide), fun p3 np3 => ?_⟩
    refine q _ _ (rp_tup upd_same (rpl_cons rfl (rpl_cons ?_ rpl_nil))) (hR4.new np3) ((((G1.new np).trans G3).trans G4).new np3)
    show V.int (- -e.2) = V.int e.2
    rw [Int.neg_neg]
end
end K03

set_option Elab.async false
set_option linter.all false
set_option maxRecDepth 100000
set_option maxHeartbeats 4000000
namespace K03
open PySem PySem.Spec PyProof.Rows L2 OG
open C8 (pss_cut pe_gc)
section
variable {P : Program} {w : World} {K : PySem.W.Frag} {mg : Str → Option Value} {base : Heap}
theorem ok_read_step (T : Tops w K mg) (n : Nat) : FnOk P w K mg base CX0 5 T.fread_step T.dread_step ["reader"] (spReadRest T.CReader (fun t => ∃ k, t = .step k) n) := by
  have GReader_take_number : FnOk P w K mg base CX0 3 T.fReader_take_number T.dReader_take_number ["self", "least", "most"] (spTakeNumber T.CReader) := ok_take_number T
  refine T.Fread_step.ok (k := 4) scread_step (fun vs H Q E h => ?_) (fun cdv A outer s H vs Q E hr h => ?_)
  · obtain ⟨o, dx, sg, toks, ts, rest, r0, p, th, dp, c, val, rfl, _⟩ := h
    rfl
  obtain ⟨o, dx, sg, toks, ts, rest, r0, p, th, dp, c, val, rfl, hR, hd, ⟨t, wd, Cc, A', sc, ⟨k, rfl⟩, ew, hT, hS, hr0, ec, hth, hdp, rfl⟩, q⟩ := h
  refine ⟨_, (pss_one (ps_ret (pe_tup (pa_cons pe_str (pa_cons (pe_meth (pv 0) T.clReader T.mtReader_take_number GReader_take_number (hr.mono (by omega)) T.bReader_take_number .nil pass0 (pa_cons pe_int (pa_cons (pe_gc (by rfl) T.cMOST_NUMBER) pa_nil))) pa_nil))))), ?_⟩
  have et : ts = [num k] := (List.cons.inj ew).2
  subst et
  have ec2 : c = 0 := by
    have : c + 1 = 1 := ec
    omega
  subst ec2
  obtain ⟨h1, h2⟩ := at_drop (s := num k) (ts := []) (rest := r0 :: rest) hd
  refine ⟨_, rfl, o, dx, _, rfl, hR.ob, rfl, o, dx, sg, toks, p, th, dp, _, _, .int k, rfl, hR, h1, ⟨k, 0, 99, rfl, rfl, hT.1, hT.2, hT.1, hT.2⟩, ⟨k, rfl, hT.1, hT.2, rfl⟩, fun H1 hR1 G1 => ?_⟩
  refine ⟨(by show 2 ≤ sizeLine; decide), fun p2 np => ?_⟩
  exact q _ _ (rp_tup upd_same (rpl_cons rfl (rpl_cons rfl rpl_nil))) (hR1.new np) (G1.new np)
theorem ok_read_again (T : Tops w K mg) (n : Nat) : FnOk P w K mg base CX0 5 T.fread_again T.dread_again ["reader"] (spReadRest T.CReader (fun t => ∃ k x, t = .again k x) n) := by
  have GReader_sign : FnOk P w K mg base CX0 1 T.fReader_sign T.dReader_sign ["self"] (spSign T.CReader) := ok_sign T
  have GReader_take_if : FnOk P w K mg base CX0 2 T.fReader_take_if T.dReader_take_if ["self", "fits"] (spTakeIf T.CReader) := ok_take_if T
  have GReader_take : FnOk P w K mg base CX0 3 T.fReader_take T.dReader_take ["self", "wanted"] (spTakeS T.CReader) := ok_takeS T
  have GReader_take_number : FnOk P w K mg base CX0 3 T.fReader_take_number T.dReader_take_number ["self", "least", "most"] (spTakeNumber T.CReader) := ok_take_number T
  refine T.Fread_again.ok (k := 4) scread_again (fun vs H Q E h => ?_) (fun cdv A outer s H vs Q E hr h => ?_)
  · obtain ⟨o, dx, sg, toks, ts, rest, r0, p, th, dp, c, val, rfl, _⟩ := h
    rfl
  obtain ⟨o, dx, sg, toks, ts, rest, r0, p, th, dp, c, val, rfl, hR, hd, ⟨t, wd, Cc, A', sc, ⟨k, x, rfl⟩, ew, hT, hS, hr0, ec, hth, hdp, rfl⟩, q⟩ := h
  refine ⟨_, (pss_cons (ps_set (i := 1) scread_again.nd rfl (Or.inl rfl) (pe_meth (pv 0) T.clReader T.mtReader_take_number GReader_take_number (hr.mono (by omega)) T.bReader_take_number .nil pass0 (pa_cons pe_int (pa_cons (pe_gc (by rfl) T.cMOST_AGAIN) pa_nil))))
 (pss_cons (ps_expr (pe_meth (pv 0) T.clReader T.mtReader_take GReader_take (hr.mono (by omega)) T.bReader_take .nil pass0 (pa_cons pe_str pa_nil)))
 (pss_cons (ps_set (i := 2) scread_again.nd rfl (Or.inl rfl) (pe_meth (pv 0) T.clReader T.mtReader_take_if GReader_take_if (hr.mono (by omega)) T.bReader_take_if .nil pass0 (pa_cons (pe_cmpR op_in_seq (pe_meth0 (pv 0) T.clReader T.mtReader_sign GReader_sign (hr.mono (by omega)) T.bReader_sign .nil pass0) (pe_tup (pa_cons pe_str (pa_cons pe_str (pa_cons pe_str pa_nil)))) (by rfl)) pa_nil)))
 (pss_one (ps_ret (pe_tup (pa_cons pe_str (pa_cons (pv 1) (pa_cons (pv 2) pa_nil))))))))), ?_⟩
  have et : ts = [num k, "on", x] := (List.cons.inj ew).2
  subst et
  have ec2 : c = 0 := by
    have : c + 1 = 1 := ec
    omega
  subst ec2
  obtain ⟨_, k1, k9, hx⟩ := hT
  obtain ⟨h1, h2⟩ := at_drop (s := num k) (ts := ["on", x]) (rest := r0 :: rest) hd
  obtain ⟨h3, h4⟩ := at_drop (s := "on") (ts := [x]) (rest := r0 :: rest) h2
  obtain ⟨h5, h6⟩ := at_drop (s := x) (ts := []) (rest := r0 :: rest) h4
  refine ⟨_, rfl, o, dx, _, rfl, hR.ob, rfl, o, dx, sg, toks, p, th, dp, _, _, .int k, rfl, hR, h1, ⟨k, 1, 9, rfl, rfl, by omega, by omega, k1, k9⟩, ⟨k, rfl, by omega, by omega, rfl⟩, fun H1 hR1 G1 => ?_⟩
  refine ⟨_, rfl, o, dx, _, rfl, hR1.ob, rfl, o, dx, sg, toks, p + 1, th, dp, _, _, _, rfl, hR1, h3, rfl, rfl, fun H2 hR2 G2 => ?_⟩
  refine ⟨_, rfl, o, dx, _, rfl, hR2.ob, rfl, _, rfl, o, dx, _, rfl, hR2.ob, rfl, o, dx, sg, toks, p + 1 + 1, th, dp, _, rfl, hR2, h5, (by show 3 ≤ sizeLine; decide), fun p2 np => ?_⟩
  have hin : inV (.str x) ((["halves", "thirds", "less"] : List Str).map V.str) = true := by
    rw [inV_str]
    refine decide_eq_true ?_
    rcases hx with rfl | rfl | rfl
    · exact List.mem_cons_self
    · exact List.mem_cons_of_mem _ List.mem_cons_self
    · exact List.mem_cons_of_mem _ (List.mem_cons_of_mem _ List.mem_cons_self)
  have hR3 := hR2.new (u := .tup [.str "halves", .str "thirds", .str "less"]) np
  refine ⟨p2, _, rfl, .inr (SqT.of upd_same), rfl, rfl, o, dx, sg, toks, p + 1 + 1, th, dp, _, _, _, rfl, hR3, h5, bl1 hin, rfl, fun H4 hR4 G4 => ?_⟩
  refine ⟨_, rfl, _, rfl, (by show 3 ≤ sizeLine; decide), fun p3 np3 => ?_⟩
  exact q _ _ (rp_tup upd_same (rpl_cons rfl (rpl_cons rfl (rpl_cons rfl rpl_nil)))) (hR4.new np3) ((((G1.trans G2).new np).trans G4).new np3)
theorem ok_read_call (T : Tops w K mg) (n : Nat) : FnOk P w K mg base CX0 5 T.fread_call T.dread_call ["reader"] (spReadRest T.CReader (fun t => ∃ x e, t = .call x e) n) := by
  have GReader_take : FnOk P w K mg base CX0 3 T.fReader_take T.dReader_take ["self", "wanted"] (spTakeS T.CReader) := ok_takeS T
  have GReader_take_name : FnOk P w K mg base CX0 3 T.fReader_take_name T.dReader_take_name ["self"] (spTakeName T.CReader) := ok_take_name T
  have Gread_end : FnOk P w K mg base CX0 4 T.fread_end T.dread_end ["reader"] (spReadEnd T.CReader) := ok_read_end T
  refine T.Fread_call.ok (k := 4) scread_call (fun vs H Q E h => ?_) (fun cdv A outer s H vs Q E hr h => ?_)
  · obtain ⟨o, dx, sg, toks, ts, rest, r0, p, th, dp, c, val, rfl, _⟩ := h
    rfl
  obtain ⟨o, dx, sg, toks, ts, rest, r0, p, th, dp, c, val, rfl, hR, hd, ⟨t, wd, Cc, A', sc, ⟨x, e, rfl⟩, ew, hT, hS, hr0, ec, hth, hdp, rfl⟩, q⟩ := h
  refine ⟨_, (pss_cons (ps_set (i := 1) scread_call.nd rfl (Or.inl rfl) (pe_meth0 (pv 0) T.clReader T.mtReader_take_name GReader_take_name (hr.mono (by omega)) T.bReader_take_name .nil pass0))
 (pss_cons (ps_expr (pe_meth (pv 0) T.clReader T.mtReader_take GReader_take (hr.mono (by omega)) T.bReader_take .nil pass0 (pa_cons pe_str pa_nil)))
 (pss_one (ps_ret (pe_tup (pa_cons pe_str (pa_cons (pv 1) (pa_cons (pe_call Gread_end (hr.mono (by omega)) (by rfl) T.gread_end T.Fread_end.kp T.bread_end .nil pass0 (pa_cons (pv 0) pa_nil)) pa_nil)))))))), ?_⟩
  have et : ts = x :: "with" :: tokE e := (List.cons.inj ew).2
  subst et
  have ec2 : c = 0 := by
    have : c + 1 = 1 := ec
    omega
  subst ec2
  obtain ⟨hx, _, hE⟩ := hT
  obtain ⟨f1, f2, f3⟩ := follow_ne hr0
  obtain ⟨h1, h2⟩ := at_drop (s := x) (ts := "with" :: tokE e) (rest := r0 :: rest) hd
  obtain ⟨h3, h4⟩ := at_drop (s := "with") (ts := tokE e) (rest := r0 :: rest) h2
  refine ⟨_, rfl, o, dx, _, rfl, hR.ob, rfl, o, dx, sg, toks, p, th, dp, _, [], _, rfl, hR, h1, ⟨rfl, hx⟩, rfl, fun H1 hR1 G1 => ?_⟩
  refine ⟨_, rfl, o, dx, _, rfl, hR1.ob, rfl, o, dx, sg, toks, p + 1, th, dp, _, _, _, rfl, hR1, h3, rfl, rfl, fun H2 hR2 G2 => ?_⟩
  refine ⟨_, rfl, _, rfl, o, dx, sg, toks, tokE e, rest, r0, p + 1 + 1, th, dp, 0, _, rfl, hR2, h4, ⟨e, sc, rfl, hE, hS, f1, f2, rfl, rfl⟩, fun v H3 hv hR3 G3 => ?_⟩
  refine ⟨(by show 3 ≤ sizeLine; decide), fun p3 np3 => ?_⟩
  exact q _ _ (rp_tup upd_same (rpl_cons rfl (rpl_cons rfl (rpl_cons (Rp.to hv (Imm.same (same_new np3))) rpl_nil)))) ((hR3.new np3).to (by simp only [List.length_cons]; omega) rfl rfl) (((G1.trans G2).trans G3).new np3)
theorem ok_read_double (T : Tops w K mg) (m : Nat) (Gread_bracket : FnOk P w K mg base CX0 (8 + 4 * m) T.fread_bracket T.dread_bracket ["reader"] (spReadBracket T.CReader m)) : FnOk P w K mg base CX0 (9 + 4 * m) T.fread_double T.dread_double ["reader"] (spReadRest T.CReader (fun t => ∃ b, t = .twice b) (m + 1)) := by
  have el : 9 + 4 * m = (8 + 4 * m) + 1 := by omega
  rw [el]
  refine T.Fread_double.ok (k := 8 + 4 * m) scread_double (fun vs H Q E h => ?_) (fun cdv A outer s H vs Q E hr h => ?_)
  · obtain ⟨o, dx, sg, toks, ts, rest, r0, p, th, dp, c, val, rfl, _⟩ := h
    rfl
  obtain ⟨o, dx, sg, toks, ts, rest, r0, p, th, dp, c, val, rfl, hR, hd, ⟨t, wd, Cc, A', sc, ⟨b, rfl⟩, ew, hT, hS, hr0, ec, hth, hdp, rfl⟩, q⟩ := h
  refine ⟨_, (pss_one (ps_ret (pe_tup (pa_cons pe_str (pa_cons (pe_call Gread_bracket (hr.mono (by omega)) (by rfl) T.gread_bracket T.Fread_bracket.kp T.bread_bracket .nil pass0 (pa_cons (pv 0) pa_nil)) pa_nil))))), ?_⟩
  have et : ts = (["("] : List Str) ++ tokB b ++ ([")"] : List Str) := (List.cons.inj ew).2
  subst et
  obtain ⟨hb, m', em, hB⟩ := hT
  have em2 : m' = m := by omega
  subst em2
  have ec2 : c = cntB b := by
    have : c + 1 = 1 + cntB b := ec
    omega
  refine ⟨_, rfl, o, dx, sg, toks, _, rest, r0, p, th, dp, c, _, rfl, hR, hd, ⟨b, Cc, A', sc, rfl, hb, hB, hS, ec2, hth, by omega, rfl⟩, fun v H3 hv hR3 G3 => ?_⟩
  refine ⟨(by show 2 ≤ sizeLine; decide), fun p3 np3 => ?_⟩
  exact q _ _ (rp_tup upd_same (rpl_cons rfl (rpl_cons (Rp.to hv (Imm.same (same_new np3))) rpl_nil))) (hR3.new np3) (G3.new np3)
theorem ok_read_for (T : Tops w K mg) (m : Nat) (Gread_bracket : FnOk P w K mg base CX0 (8 + 4 * m) T.fread_bracket T.dread_bracket ["reader"] (spReadBracket T.CReader m)) : FnOk P w K mg base CX0 (9 + 4 * m) T.fread_for T.dread_for ["reader"] (spReadRest T.CReader (fun t => ∃ x e f b, t = .loop x e f b) (m + 1)) := by
  have GReader_take : FnOk P w K mg base CX0 3 T.fReader_take T.dReader_take ["self", "wanted"] (spTakeS T.CReader) := ok_takeS T
  have GReader_take_name : FnOk P w K mg base CX0 3 T.fReader_take_name T.dReader_take_name ["self"] (spTakeName T.CReader) := ok_take_name T
  have Gread_end : FnOk P w K mg base CX0 4 T.fread_end T.dread_end ["reader"] (spReadEnd T.CReader) := ok_read_end T
  have el : 9 + 4 * m = (8 + 4 * m) + 1 := by omega
  rw [el]
  refine T.Fread_for.ok (k := 8 + 4 * m) scread_for (fun vs H Q E h => ?_) (fun cdv A outer s H vs Q E hr h => ?_)
  · obtain ⟨o, dx, sg, toks, ts, rest, r0, p, th, dp, c, val, rfl, _⟩ := h
    rfl
  obtain ⟨o, dx, sg, toks, ts, rest, r0, p, th, dp, c, val, rfl, hR, hd, ⟨t, wd, Cc, A', sc, ⟨x, e, f, b, rfl⟩, ew, hT, hS, hr0, ec, hth, hdp, rfl⟩, q⟩ := h
  refine ⟨_, (pss_cons (ps_set (i := 1) scread_for.nd rfl (Or.inl rfl) (pe_meth0 (pv 0) T.clReader T.mtReader_take_name GReader_take_name (hr.mono (by omega)) T.bReader_take_name .nil pass0))
 (pss_cons (ps_expr (pe_meth (pv 0) T.clReader T.mtReader_take GReader_take (hr.mono (by omega)) T.bReader_take .nil pass0 (pa_cons pe_str pa_nil)))
 (pss_cons (ps_set (i := 2) scread_for.nd rfl (Or.inl rfl) (pe_call Gread_end (hr.mono (by omega)) (by rfl) T.gread_end T.Fread_end.kp T.bread_end .nil pass0 (pa_cons (pv 0) pa_nil)))
 (pss_cons (ps_expr (pe_meth (pv 0) T.clReader T.mtReader_take GReader_take (hr.mono (by omega)) T.bReader_take .nil pass0 (pa_cons pe_str pa_nil)))
 (pss_cons (ps_set (i := 3) scread_for.nd rfl (Or.inl rfl) (pe_call Gread_end (hr.mono (by omega)) (by rfl) T.gread_end T.Fread_end.kp T.bread_end .nil pass0 (pa_cons (pv 0) pa_nil)))
 (pss_one (ps_ret (pe_tup (pa_cons pe_str (pa_cons (pv 1) (pa_cons (pv 2) (pa_cons (pv 3) (pa_cons (pe_call Gread_bracket (hr.mono (by omega)) (by rfl) T.gread_bracket T.Fread_bracket.kp T.bread_bracket .nil pass0 (pa_cons (pv 0) pa_nil)) pa_nil))))))))))))), ?_⟩
  have et : ts = ([x, "from"] : List Str) ++ tokE e ++ (["to"] : List Str) ++ tokE f ++ (["("] : List Str) ++ tokB b ++ ([")"] : List Str) := (List.cons.inj ew).2
  subst et
  obtain ⟨hx, hxn, hE, hF, hb, m', em, hB⟩ := hT
  have em2 : m' = m := by omega
  subst em2
  have ec2 : c = cntB b := by
    have : c + 1 = 1 + cntB b := ec
    omega
  have hd2 : toks.drop p = x :: (("from" : Str) :: (tokE e ++ (("to" : Str) :: (tokE f ++ (("(" : Str) :: (tokB b ++ ((")" : Str) :: (r0 :: rest)))))))) := by
    rw [hd]
    simp only [List.append_assoc, List.cons_append, List.nil_append]
  obtain ⟨h1, h2⟩ := at_d1 hd2
  obtain ⟨h3, h4⟩ := at_d1 h2
  have h5 := drop_past (ts := tokE e) h4
  obtain ⟨h6, h7⟩ := at_d1 h5
  have h8 := drop_past (ts := tokE f) h7
  refine ⟨_, rfl, o, dx, _, rfl, hR.ob, rfl, o, dx, sg, toks, p, th, dp, _, [], _, rfl, hR, h1, ⟨rfl, hx⟩, rfl, fun H1 hR1 G1 => ?_⟩
  refine ⟨_, rfl, o, dx, _, rfl, hR1.ob, rfl, o, dx, sg, toks, p + 1, th, dp, _, _, _, rfl, hR1, h3, rfl, rfl, fun H2 hR2 G2 => ?_⟩
  refine ⟨_, rfl, o, dx, sg, toks, tokE e, _, "to", p + 1 + 1, th, dp, 0, _, rfl, hR2, h4, ⟨e, sc, rfl, hE, hS, by decide +kernel, by decide +kernel, rfl, rfl⟩, fun v3 H3 hv3 hR3 G3 => ?_⟩
  refine ⟨_, rfl, o, dx, _, rfl, hR3.ob, rfl, o, dx, sg, toks, p + 1 + 1 + (tokE e).length, th, dp, _, _, _, rfl, hR3, h6, rfl, rfl, fun H4 hR4 G4 => ?_⟩
  refine ⟨_, rfl, o, dx, sg, toks, tokE f, _, "(", p + 1 + 1 + (tokE e).length + 1, th, dp, 0, _, rfl, hR4, h7, ⟨f, sc, rfl, hF, hS, by decide +kernel, by decide +kernel, rfl, rfl⟩, fun v5 H5 hv5 hR5 G5 => ?_⟩
  refine ⟨_, rfl, _, rfl, _, rfl, _, rfl, o, dx, sg, toks, (["("] : List Str) ++ tokB b ++ ([")"] : List Str), rest, r0, p + 1 + 1 + (tokE e).length + 1 + (tokE f).length, th, dp, c, _, rfl, hR5, by rw [h8]; simp only [List.append_assoc, List.cons_append, List.nil_append], ⟨b, Cc, A', sc ++ [x], rfl, hb, hB, scOk_snoc hS hx, ec2, hth, by omega, rfl⟩, fun v6 H6 hv6 hR6 G6 => ?_⟩
  refine ⟨(by show 5 ≤ sizeLine; decide), fun p3 np3 => ?_⟩
  have i6 : Imm H6 (upd H6 p3 (.tup [.str "for", .str x, v3, v5, v6])) := Imm.same (same_new np3)
  refine q _ _ (rp_tup upd_same (rpl_cons rfl (rpl_cons rfl (rpl_cons (Rp.to hv3 (((G4.im.trans G5.im).trans G6.im).trans i6)) (rpl_cons (Rp.to hv5 (G6.im.trans i6)) (rpl_cons (Rp.to hv6 i6) rpl_nil)))))) ((hR6.new np3).to ?_ rfl rfl) ((((((G1.trans G2).trans G3).trans G4).trans G5).trans G6).new np3)
  simp only [List.length_append, List.length_cons, List.length_nil]
  omega
theorem ok_read_if (T : Tops w K mg) (m : Nat) (Gread_bracket : FnOk P w K mg base CX0 (8 + 4 * m) T.fread_bracket T.dread_bracket ["reader"] (spReadBracket T.CReader m)) : FnOk P w K mg base CX0 (9 + 4 * m) T.fread_if T.dread_if ["reader"] (spReadRest T.CReader (fun t => ∃ e f b y, t = .test e f b y) (m + 1)) := by
  have GReader_sign : FnOk P w K mg base CX0 1 T.fReader_sign T.dReader_sign ["self"] (spSign T.CReader) := ok_sign T
  have GReader_take : FnOk P w K mg base CX0 3 T.fReader_take T.dReader_take ["self", "wanted"] (spTakeS T.CReader) := ok_takeS T
  have Gread_end : FnOk P w K mg base CX0 4 T.fread_end T.dread_end ["reader"] (spReadEnd T.CReader) := ok_read_end T
  have el : 9 + 4 * m = (8 + 4 * m) + 1 := by omega
  rw [el]
  refine T.Fread_if.ok (k := 8 + 4 * m) scread_if (fun vs H Q E h => ?_) (fun cdv A outer s H vs Q E hr h => ?_)
  · obtain ⟨o, dx, sg, toks, ts, rest, r0, p, th, dp, c, val, rfl, _⟩ := h
    rfl
  obtain ⟨o, dx, sg, toks, ts, rest, r0, p, th, dp, c, val, rfl, hR, hd, ⟨t, wd, Cc, A', sc, ⟨e, f, b, y, rfl⟩, ew, hT, hS, hr0, ec, hth, hdp, rfl⟩, q⟩ := h
  refine ⟨_, (pss_cons (ps_set (i := 1) scread_if.nd rfl (Or.inl rfl) (pe_call Gread_end (hr.mono (by omega)) (by rfl) T.gread_end T.Fread_end.kp T.bread_end .nil pass0 (pa_cons (pv 0) pa_nil)))
 (pss_cons (ps_expr (pe_meth (pv 0) T.clReader T.mtReader_take GReader_take (hr.mono (by omega)) T.bReader_take .nil pass0 (pa_cons pe_str pa_nil)))
 (pss_cons (ps_set (i := 2) scread_if.nd rfl (Or.inl rfl) (pe_call Gread_end (hr.mono (by omega)) (by rfl) T.gread_end T.Fread_end.kp T.bread_end .nil pass0 (pa_cons (pv 0) pa_nil)))
 (pss_cons (ps_set (i := 3) scread_if.nd rfl (Or.inl rfl) (pe_call Gread_bracket (hr.mono (by omega)) (by rfl) T.gread_bracket T.Fread_bracket.kp T.bread_bracket .nil pass0 (pa_cons (pv 0) pa_nil)))
 (pss_cons (ps_set (i := 4) scread_if.nd rfl (Or.inl rfl) (pe_tup pa_nil))
 (pss_cut (ps_if (pt_cmpR op_eq (pe_meth0 (pv 0) T.clReader T.mtReader_sign GReader_sign (hr.mono (by omega)) T.bReader_sign .nil pass0) pe_str (nomark _))
  (pss_cons (ps_expr (pe_meth (pv 0) T.clReader T.mtReader_take GReader_take (hr.mono (by omega)) T.bReader_take .nil pass0 (pa_cons pe_str pa_nil)))
 (pss_one (ps_set (i := 4) scread_if.nd rfl (Or.inl rfl) (pe_call Gread_bracket (hr.mono (by omega)) (by rfl) T.gread_bracket T.Fread_bracket.kp T.bread_bracket .nil pass0 (pa_cons (pv 0) pa_nil)))))
  pss_nil)
 (pss_one (ps_ret (pe_tup (pa_cons pe_str (pa_cons (pv 1) (pa_cons (pv 2) (pa_cons (pv 3) (pa_cons (pv 4) pa_nil)))))))))))))), ?_⟩
  obtain ⟨f1, f2, f3⟩ := follow_ne hr0
  obtain ⟨hE, hF, hb, m', em, hB, hY⟩ := hT
  have em2 : m' = m := by omega
  subst em2
  have ec2 : c = cntB b + cntB y := by
    have : c + 1 = 1 + cntB b + cntB y := ec
    omega
  -- what follows the first bracket
  have hts : ∃ el : List Str, ts = tokE e ++ (["<="] : List Str) ++ tokE f ++ (["("] : List Str) ++ tokB b ++ ([")"] : List Str) ++ el ∧ ((y = [] ∧ el = []) ∨ (y ≠ [] ∧ el = (["else", "("] : List Str) ++ tokB y ++ ([")"] : List Str))) := by
    cases y with
    | nil => exact ⟨[], (List.cons.inj ew).2, .inl ⟨rfl, rfl⟩⟩
    | cons y0 yr => exact ⟨_, (List.cons.inj ew).2, .inr ⟨by simp, rfl⟩⟩
  obtain ⟨el', rfl, hel⟩ := hts
  have hd2 : toks.drop p = tokE e ++ (("<=" : Str) :: (tokE f ++ (("(" : Str) :: (tokB b ++ ((")" : Str) :: (el' ++ (r0 :: rest))))))) := by
    rw [hd]
    simp only [List.append_assoc, List.cons_append, List.nil_append]
  have h5 := drop_past (ts := tokE e) hd2
  obtain ⟨h6, h7⟩ := at_d1 h5
  have h8 := drop_past (ts := tokE f) h7
  have hq : ∃ q0 qr, el' ++ (r0 :: rest) = q0 :: qr ∧ (y = [] → q0 = r0) := by
    rcases hel with ⟨h, rfl⟩ | ⟨h, rfl⟩
    · exact ⟨r0, rest, rfl, fun _ => rfl⟩
    · exact ⟨"else", _, rfl, fun z => absurd z h⟩
  obtain ⟨q0, qr, eq0, hq0⟩ := hq
  refine ⟨_, rfl, o, dx, sg, toks, tokE e, _, "<=", p, th, dp, 0, _, rfl, hR, hd2, ⟨e, sc, rfl, hE, hS, by decide +kernel, by decide +kernel, rfl, rfl⟩, fun v3 H3 hv3 hR3 G3 => ?_⟩
  refine ⟨_, rfl, o, dx, _, rfl, hR3.ob, rfl, o, dx, sg, toks, p + (tokE e).length, th, dp, _, _, _, rfl, hR3, h6, rfl, rfl, fun H4 hR4 G4 => ?_⟩
  refine ⟨_, rfl, o, dx, sg, toks, tokE f, _, "(", p + (tokE e).length + 1, th, dp, 0, _, rfl, hR4, h7, ⟨f, sc, rfl, hF, hS, by decide +kernel, by decide +kernel, rfl, rfl⟩, fun v5 H5 hv5 hR5 G5 => ?_⟩
  have h9 : toks.drop (p + (tokE e).length + 1 + (tokE f).length) = ((["("] : List Str) ++ tokB b ++ ([")"] : List Str)) ++ (q0 :: qr) := by
    rw [h8, eq0]
    simp only [List.append_assoc, List.cons_append, List.nil_append]
  refine ⟨_, rfl, o, dx, sg, toks, (["("] : List Str) ++ tokB b ++ ([")"] : List Str), qr, q0, p + (tokE e).length + 1 + (tokE f).length, th, dp, cntB b, _, rfl, hR5, h9, ⟨b, Cc, A', sc, rfl, hb, hB, hS, rfl, by omega, by omega, rfl⟩, fun v6 H6 hv6 hR6 G6 => ?_⟩
  have h10 := drop_past h9
  obtain ⟨h11, h12⟩ := at_d1 h10
  refine ⟨Nat.zero_le _, fun p2 np2 => ?_⟩
  have hR7 := hR6.new (u := .tup []) np2
  have i36 : Imm H3 H6 := (G4.im.trans G5.im).trans G6.im
  have i6 : Imm H6 (upd H6 p2 (.tup [])) := Imm.same (same_new np2)
  have G7 : Go (· = o) H (upd H6 p2 (.tup [])) := (((G3.trans G4).trans G5).trans G6).new np2
  refine ⟨fun σ' H' => ∃ vy, σ' = [some (.ref o), some v3, some v5, some v6, some vy] ∧ Rp H' vy (.tup (encs y)) ∧ RS H' T.CReader o dx sg toks (p + (tokE e ++ (["<="] : List Str) ++ tokE f ++ (["("] : List Str) ++ tokB b ++ ([")"] : List Str) ++ el').length) (th + c) dp ∧ Go (· = o) H H' ∧ Imm H6 H', ?_, ?_⟩
  · refine ⟨_, rfl, o, dx, _, rfl, hR7.ob, rfl, o, dx, sg, toks, _, _, dp, _, rfl, hR7, h11, rfl, _, rfl, ite2 (fun c1 => ?_) (fun c1 => ?_)⟩
    · have e1 : q0 = "else" := V.str.inj (of_decide_eq_true c1)
      rcases hel with ⟨hy, hel2⟩ | ⟨hy, rfl⟩
      · exact absurd ((hq0 hy).symm.trans e1) f3
      · have eqr : qr = ((["("] : List Str) ++ tokB y ++ ([")"] : List Str)) ++ (r0 :: rest) := by
          have z := eq0
          simp only [List.append_assoc, List.cons_append, List.nil_append] at z
          have z2 := (List.cons.inj z).2
          rw [← z2]
          simp only [List.append_assoc, List.cons_append, List.nil_append]
        rw [eqr] at h12
        rw [e1] at h11
        refine ⟨_, rfl, o, dx, _, rfl, hR7.ob, rfl, o, dx, sg, toks, _, _, dp, _, _, _, rfl, hR7, h11, rfl, rfl, fun H8 hR8 G8 => ?_⟩
        refine ⟨_, rfl, o, dx, sg, toks, (["("] : List Str) ++ tokB y ++ ([")"] : List Str), rest, r0, _, _, dp, cntB y, _, rfl, hR8, h12, ⟨y, Cc, A', sc, rfl, hy, hY, hS, rfl, by omega, by omega, rfl⟩, fun v9 H9 hv9 hR9 G9 => ?_⟩
        refine ⟨v9, rfl, hv9, hR9.to ?_ (by omega) rfl, (G7.trans G8).trans G9, (i6.trans G8.im).trans G9.im⟩
        simp only [List.length_append, List.length_cons, List.length_nil]
        omega
    · rcases hel with ⟨rfl, rfl⟩ | ⟨hy, rfl⟩
      · refine ⟨.ref p2, rfl, rp_tup upd_same rpl_nil, hR7.to ?_ (by rw [ec2]; rfl) rfl, G7, i6⟩
        simp only [List.length_append, List.length_cons, List.length_nil]
        omega
      · have : q0 = "else" := (List.cons.inj (show ("else" : Str) :: _ = q0 :: qr from eq0)).1.symm
        exact absurd (decide_eq_true (by rw [this])) c1
  · rintro σ' H8 ⟨vy, rfl, hvy, hR8, G8, i8⟩
    refine ⟨_, rfl, _, rfl, _, rfl, _, rfl, (by show 5 ≤ sizeLine; decide), fun p3 np3 => ?_⟩
    have i9 : Imm H8 (upd H8 p3 (.tup [.str "if", v3, v5, v6, vy])) := Imm.same (same_new np3)
    exact q _ _ (rp_tup upd_same (rpl_cons rfl (rpl_cons (Rp.to hv3 ((i36.trans i8).trans i9)) (rpl_cons (Rp.to hv5 ((G6.im.trans i8).trans i9)) (rpl_cons (Rp.to hv6 (i8.trans i9)) (rpl_cons (hvy.to i9) rpl_nil)))))) (hR8.new np3) (G8.new np3)
end
end K03

set_option Elab.async false
set_option linter.all false
set_option maxRecDepth 100000
set_option maxHeartbeats 4000000
namespace K03
open PySem PySem.Spec PyProof.Rows L2 OG
open C8 (pss_cut pe_gc)
section
variable {P : Program} {w : World} {K : PySem.W.Frag} {mg : Str → Option Value} {base : Heap}
theorem tok_if (e f : Str × Int) (b y : List Thing) : ∃ tr, tokT (.test e f b y) = ("if" : Str) :: tr := by
  cases y with
  | nil => exact ⟨tokE e ++ (["<="] : List Str) ++ tokE f ++ (["("] : List Str) ++ tokB b ++ ([")"] : List Str) ++ [], rfl⟩
  | cons t r => exact ⟨tokE e ++ (["<="] : List Str) ++ tokE f ++ (["("] : List Str) ++ tokB b ++ ([")"] : List Str) ++ ((["else", "("] : List Str) ++ tokB (t :: r) ++ ([")"] : List Str)), rfl⟩
theorem ok_read_thing (T : Tops w K mg) (n : Nat) (GB : ∀ m, n = m + 1 → FnOk P w K mg base CX0 (8 + 4 * m) T.fread_bracket T.dread_bracket ["reader"] (spReadBracket T.CReader m)) : FnOk P w K mg base CX0 (6 + 4 * n) T.fread_thing T.dread_thing ["reader"] (spReadThing T.CReader n) := by
  have GReader_sign : FnOk P w K mg base CX0 1 T.fReader_sign T.dReader_sign ["self"] (spSign T.CReader) := ok_sign T
  have GReader_take_if : FnOk P w K mg base CX0 2 T.fReader_take_if T.dReader_take_if ["self", "fits"] (spTakeIf T.CReader) := ok_take_if T
  have el : 6 + 4 * n = (5 + 4 * n) + 1 := by omega
  rw [el]
  refine T.Fread_thing.ok (k := 5 + 4 * n) scread_thing (fun vs H Q E h => ?_) (fun cdv A outer s H vs Q E hr h => ?_)
  · obtain ⟨o, dx, sg, toks, ts, rest, r0, p, th, dp, c, val, rfl, _⟩ := h
    rfl
  obtain ⟨o, dx, sg, toks, ts, rest, r0, p, th, dp, c, val, rfl, hR, hd, ⟨t, Cc, A', sc, rfl, hT, hS, hr0, rfl, hth, hdp, rfl⟩, q⟩ := h
  have hc1 := cnt_pos t
  cases t with
  | step k =>
    have G := ok_read_step (P := P) (w := w) (base := base) T n
    obtain ⟨tr, etk⟩ : ∃ tr, tokT (.step k) = ("step" : Str) :: tr := ⟨_, rfl⟩
    rw [etk] at hd q
    obtain ⟨h1, h2⟩ := at_drop hd
    refine ⟨_, (pss_cons (ps_set (i := 1) scread_thing.nd rfl (Or.inl rfl) (pe_meth (pv 0) T.clReader T.mtReader_take_if GReader_take_if (hr.mono (by omega)) T.bReader_take_if .nil pass0 (pa_cons (pe_and (pe_cmpR op_lt (pe_fld (pv 0) rfl) (pe_gc (by rfl) T.cMOST_THINGS) (nomark _)) (pe_one (pe_cmpR (op_in_kd T.DREADERS) (pe_meth0 (pv 0) T.clReader T.mtReader_sign GReader_sign (hr.mono (by omega)) T.bReader_sign .nil pass0) (pe_gc (by rfl) T.cREADERS) (by rfl)))) pa_nil))) (pss_cons (ps_fldaug (pv 0) pe_int in_add) (pss_cons (ps_set (i := 2) scread_thing.nd rfl (Or.inl rfl) (pe_ix ix_kdict (pe_gc (by rfl) T.cREADERS) (pv 1) (fun _ _ => rfl))) (pss_one (ps_ret (pe_callL (i := 2) G (hr.mono (by omega)) rfl (Or.inl rfl) T.Fread_step.kp T.bread_step .nil pass0 (pa_cons (pv 0) pa_nil))))))), ?_⟩
    refine ⟨_, rfl, o, dx, _, rfl, hR.ob, rfl, _, rfl, o, _, dx, _, _, rfl, hR.ob, T.clReader, T.naReader_things, rfs_things _ _ _ _, _, 12, rfl, rfl, _, rfl, ite2 (fun _ => ?_) (fun z => absurd (decide_eq_true (by omega)) z)⟩
    refine ⟨_, rfl, o, dx, _, rfl, hR.ob, rfl, o, dx, sg, toks, p, th, dp, _, rfl, hR, h1, _, _, rfl, rfl, T.sREADERS_step, o, dx, sg, toks, p, th, dp, _, _, _, rfl, hR, h1, bl1 rfl, rfl, fun H1 hR1 G1 => ?_⟩
    have st := hR1.step (p' := p + 1) (th' := th + 1) (dp' := dp)
    refine ⟨_, rfl, o, _, dx, _, _, rfl, hR1.ob, T.clReader, T.naReader_things, rfs_things _ _ _ _, _, _, rfl, rfl, dx, _, hR1.ob, rfs_len _ _ _ _, ?_⟩
    refine ⟨_, rfl, T.aREADERS, _, _, rfl, rfl, T.kREADERS_step, ?_⟩
    refine ⟨rfl, _, rfl, o, dx, sg, toks, tr, rest, r0, p + 1, th + 1, dp, cntT (.step k) - 1, _, rfl, st.1, h2, ⟨_, "step", Cc, A', sc, ⟨k, rfl⟩, etk.symm, hT, hS, hr0, by omega, by omega, hdp, rfl⟩, fun v H' hv hR' G' => ?_⟩
    exact q v H' hv (hR'.to (by rw [List.length_cons]; omega) (by omega) rfl) ((G1.trans st.2).trans G')
  | again k x =>
    have G := ok_read_again (P := P) (w := w) (base := base) T n
    obtain ⟨tr, etk⟩ : ∃ tr, tokT (.again k x) = ("again" : Str) :: tr := ⟨_, rfl⟩
    rw [etk] at hd q
    obtain ⟨h1, h2⟩ := at_drop hd
    refine ⟨_, (pss_cons (ps_set (i := 1) scread_thing.nd rfl (Or.inl rfl) (pe_meth (pv 0) T.clReader T.mtReader_take_if GReader_take_if (hr.mono (by omega)) T.bReader_take_if .nil pass0 (pa_cons (pe_and (pe_cmpR op_lt (pe_fld (pv 0) rfl) (pe_gc (by rfl) T.cMOST_THINGS) (nomark _)) (pe_one (pe_cmpR (op_in_kd T.DREADERS) (pe_meth0 (pv 0) T.clReader T.mtReader_sign GReader_sign (hr.mono (by omega)) T.bReader_sign .nil pass0) (pe_gc (by rfl) T.cREADERS) (by rfl)))) pa_nil))) (pss_cons (ps_fldaug (pv 0) pe_int in_add) (pss_cons (ps_set (i := 2) scread_thing.nd rfl (Or.inl rfl) (pe_ix ix_kdict (pe_gc (by rfl) T.cREADERS) (pv 1) (fun _ _ => rfl))) (pss_one (ps_ret (pe_callL (i := 2) G (hr.mono (by omega)) rfl (Or.inl rfl) T.Fread_again.kp T.bread_again .nil pass0 (pa_cons (pv 0) pa_nil))))))), ?_⟩
    refine ⟨_, rfl, o, dx, _, rfl, hR.ob, rfl, _, rfl, o, _, dx, _, _, rfl, hR.ob, T.clReader, T.naReader_things, rfs_things _ _ _ _, _, 12, rfl, rfl, _, rfl, ite2 (fun _ => ?_) (fun z => absurd (decide_eq_true (by omega)) z)⟩
    refine ⟨_, rfl, o, dx, _, rfl, hR.ob, rfl, o, dx, sg, toks, p, th, dp, _, rfl, hR, h1, _, _, rfl, rfl, T.sREADERS_again, o, dx, sg, toks, p, th, dp, _, _, _, rfl, hR, h1, bl1 rfl, rfl, fun H1 hR1 G1 => ?_⟩
    have st := hR1.step (p' := p + 1) (th' := th + 1) (dp' := dp)
    refine ⟨_, rfl, o, _, dx, _, _, rfl, hR1.ob, T.clReader, T.naReader_things, rfs_things _ _ _ _, _, _, rfl, rfl, dx, _, hR1.ob, rfs_len _ _ _ _, ?_⟩
    refine ⟨_, rfl, T.aREADERS, _, _, rfl, rfl, T.kREADERS_again, ?_⟩
    refine ⟨rfl, _, rfl, o, dx, sg, toks, tr, rest, r0, p + 1, th + 1, dp, cntT (.again k x) - 1, _, rfl, st.1, h2, ⟨_, "again", Cc, A', sc, ⟨k, x, rfl⟩, etk.symm, hT, hS, hr0, by omega, by omega, hdp, rfl⟩, fun v H' hv hR' G' => ?_⟩
    exact q v H' hv (hR'.to (by rw [List.length_cons]; omega) (by omega) rfl) ((G1.trans st.2).trans G')
  | call x e =>
    have G := ok_read_call (P := P) (w := w) (base := base) T n
    obtain ⟨tr, etk⟩ : ∃ tr, tokT (.call x e) = ("call" : Str) :: tr := ⟨_, rfl⟩
    rw [etk] at hd q
    obtain ⟨h1, h2⟩ := at_drop hd
    refine ⟨_, (pss_cons (ps_set (i := 1) scread_thing.nd rfl (Or.inl rfl) (pe_meth (pv 0) T.clReader T.mtReader_take_if GReader_take_if (hr.mono (by omega)) T.bReader_take_if .nil pass0 (pa_cons (pe_and (pe_cmpR op_lt (pe_fld (pv 0) rfl) (pe_gc (by rfl) T.cMOST_THINGS) (nomark _)) (pe_one (pe_cmpR (op_in_kd T.DREADERS) (pe_meth0 (pv 0) T.clReader T.mtReader_sign GReader_sign (hr.mono (by omega)) T.bReader_sign .nil pass0) (pe_gc (by rfl) T.cREADERS) (by rfl)))) pa_nil))) (pss_cons (ps_fldaug (pv 0) pe_int in_add) (pss_cons (ps_set (i := 2) scread_thing.nd rfl (Or.inl rfl) (pe_ix ix_kdict (pe_gc (by rfl) T.cREADERS) (pv 1) (fun _ _ => rfl))) (pss_one (ps_ret (pe_callL (i := 2) G (hr.mono (by omega)) rfl (Or.inl rfl) T.Fread_call.kp T.bread_call .nil pass0 (pa_cons (pv 0) pa_nil))))))), ?_⟩
    refine ⟨_, rfl, o, dx, _, rfl, hR.ob, rfl, _, rfl, o, _, dx, _, _, rfl, hR.ob, T.clReader, T.naReader_things, rfs_things _ _ _ _, _, 12, rfl, rfl, _, rfl, ite2 (fun _ => ?_) (fun z => absurd (decide_eq_true (by omega)) z)⟩
    refine ⟨_, rfl, o, dx, _, rfl, hR.ob, rfl, o, dx, sg, toks, p, th, dp, _, rfl, hR, h1, _, _, rfl, rfl, T.sREADERS_call, o, dx, sg, toks, p, th, dp, _, _, _, rfl, hR, h1, bl1 rfl, rfl, fun H1 hR1 G1 => ?_⟩
    have st := hR1.step (p' := p + 1) (th' := th + 1) (dp' := dp)
    refine ⟨_, rfl, o, _, dx, _, _, rfl, hR1.ob, T.clReader, T.naReader_things, rfs_things _ _ _ _, _, _, rfl, rfl, dx, _, hR1.ob, rfs_len _ _ _ _, ?_⟩
    refine ⟨_, rfl, T.aREADERS, _, _, rfl, rfl, T.kREADERS_call, ?_⟩
    refine ⟨rfl, _, rfl, o, dx, sg, toks, tr, rest, r0, p + 1, th + 1, dp, cntT (.call x e) - 1, _, rfl, st.1, h2, ⟨_, "call", Cc, A', sc, ⟨x, e, rfl⟩, etk.symm, hT, hS, hr0, by omega, by omega, hdp, rfl⟩, fun v H' hv hR' G' => ?_⟩
    exact q v H' hv (hR'.to (by rw [List.length_cons]; omega) (by omega) rfl) ((G1.trans st.2).trans G')
  | loop x e f b =>
    obtain ⟨_, _, _, _, _, m, rfl, _⟩ := id hT
    have G := ok_read_for T m (GB m rfl)
    obtain ⟨tr, etk⟩ : ∃ tr, tokT (.loop x e f b) = ("for" : Str) :: tr := ⟨_, rfl⟩
    rw [etk] at hd q
    obtain ⟨h1, h2⟩ := at_drop hd
    refine ⟨_, (pss_cons (ps_set (i := 1) scread_thing.nd rfl (Or.inl rfl) (pe_meth (pv 0) T.clReader T.mtReader_take_if GReader_take_if (hr.mono (by omega)) T.bReader_take_if .nil pass0 (pa_cons (pe_and (pe_cmpR op_lt (pe_fld (pv 0) rfl) (pe_gc (by rfl) T.cMOST_THINGS) (nomark _)) (pe_one (pe_cmpR (op_in_kd T.DREADERS) (pe_meth0 (pv 0) T.clReader T.mtReader_sign GReader_sign (hr.mono (by omega)) T.bReader_sign .nil pass0) (pe_gc (by rfl) T.cREADERS) (by rfl)))) pa_nil))) (pss_cons (ps_fldaug (pv 0) pe_int in_add) (pss_cons (ps_set (i := 2) scread_thing.nd rfl (Or.inl rfl) (pe_ix ix_kdict (pe_gc (by rfl) T.cREADERS) (pv 1) (fun _ _ => rfl))) (pss_one (ps_ret (pe_callL (i := 2) G (hr.mono (by omega)) rfl (Or.inl rfl) T.Fread_for.kp T.bread_for .nil pass0 (pa_cons (pv 0) pa_nil))))))), ?_⟩
    refine ⟨_, rfl, o, dx, _, rfl, hR.ob, rfl, _, rfl, o, _, dx, _, _, rfl, hR.ob, T.clReader, T.naReader_things, rfs_things _ _ _ _, _, 12, rfl, rfl, _, rfl, ite2 (fun _ => ?_) (fun z => absurd (decide_eq_true (by omega)) z)⟩
    refine ⟨_, rfl, o, dx, _, rfl, hR.ob, rfl, o, dx, sg, toks, p, th, dp, _, rfl, hR, h1, _, _, rfl, rfl, T.sREADERS_for, o, dx, sg, toks, p, th, dp, _, _, _, rfl, hR, h1, bl1 rfl, rfl, fun H1 hR1 G1 => ?_⟩
    have st := hR1.step (p' := p + 1) (th' := th + 1) (dp' := dp)
    refine ⟨_, rfl, o, _, dx, _, _, rfl, hR1.ob, T.clReader, T.naReader_things, rfs_things _ _ _ _, _, _, rfl, rfl, dx, _, hR1.ob, rfs_len _ _ _ _, ?_⟩
    refine ⟨_, rfl, T.aREADERS, _, _, rfl, rfl, T.kREADERS_for, ?_⟩
    refine ⟨rfl, _, rfl, o, dx, sg, toks, tr, rest, r0, p + 1, th + 1, dp, cntT (.loop x e f b) - 1, _, rfl, st.1, h2, ⟨_, "for", Cc, A', sc, ⟨x, e, f, b, rfl⟩, etk.symm, hT, hS, hr0, by omega, by omega, hdp, rfl⟩, fun v H' hv hR' G' => ?_⟩
    exact q v H' hv (hR'.to (by rw [List.length_cons]; omega) (by omega) rfl) ((G1.trans st.2).trans G')
  | test e f b y =>
    obtain ⟨_, _, _, m, rfl, _⟩ := id hT
    have G := ok_read_if T m (GB m rfl)
    obtain ⟨tr, etk⟩ := tok_if e f b y
    rw [etk] at hd q
    obtain ⟨h1, h2⟩ := at_drop hd
    refine ⟨_, (pss_cons (ps_set (i := 1) scread_thing.nd rfl (Or.inl rfl) (pe_meth (pv 0) T.clReader T.mtReader_take_if GReader_take_if (hr.mono (by omega)) T.bReader_take_if .nil pass0 (pa_cons (pe_and (pe_cmpR op_lt (pe_fld (pv 0) rfl) (pe_gc (by rfl) T.cMOST_THINGS) (nomark _)) (pe_one (pe_cmpR (op_in_kd T.DREADERS) (pe_meth0 (pv 0) T.clReader T.mtReader_sign GReader_sign (hr.mono (by omega)) T.bReader_sign .nil pass0) (pe_gc (by rfl) T.cREADERS) (by rfl)))) pa_nil))) (pss_cons (ps_fldaug (pv 0) pe_int in_add) (pss_cons (ps_set (i := 2) scread_thing.nd rfl (Or.inl rfl) (pe_ix ix_kdict (pe_gc (by rfl) T.cREADERS) (pv 1) (fun _ _ => rfl))) (pss_one (ps_ret (pe_callL (i := 2) G (hr.mono (by omega)) rfl (Or.inl rfl) T.Fread_if.kp T.bread_if .nil pass0 (pa_cons (pv 0) pa_nil))))))), ?_⟩
    refine ⟨_, rfl, o, dx, _, rfl, hR.ob, rfl, _, rfl, o, _, dx, _, _, rfl, hR.ob, T.clReader, T.naReader_things, rfs_things _ _ _ _, _, 12, rfl, rfl, _, rfl, ite2 (fun _ => ?_) (fun z => absurd (decide_eq_true (by omega)) z)⟩
    refine ⟨_, rfl, o, dx, _, rfl, hR.ob, rfl, o, dx, sg, toks, p, th, dp, _, rfl, hR, h1, _, _, rfl, rfl, T.sREADERS_if, o, dx, sg, toks, p, th, dp, _, _, _, rfl, hR, h1, bl1 rfl, rfl, fun H1 hR1 G1 => ?_⟩
    have st := hR1.step (p' := p + 1) (th' := th + 1) (dp' := dp)
    refine ⟨_, rfl, o, _, dx, _, _, rfl, hR1.ob, T.clReader, T.naReader_things, rfs_things _ _ _ _, _, _, rfl, rfl, dx, _, hR1.ob, rfs_len _ _ _ _, ?_⟩
    refine ⟨_, rfl, T.aREADERS, _, _, rfl, rfl, T.kREADERS_if, ?_⟩
    refine ⟨rfl, _, rfl, o, dx, sg, toks, tr, rest, r0, p + 1, th + 1, dp, cntT (.test e f b y) - 1, _, rfl, st.1, h2, ⟨_, "if", Cc, A', sc, ⟨e, f, b, y, rfl⟩, etk.symm, hT, hS, hr0, by omega, by omega, hdp, rfl⟩, fun v H' hv hR' G' => ?_⟩
    exact q v H' hv (hR'.to (by rw [List.length_cons]; omega) (by omega) rfl) ((G1.trans st.2).trans G')
  | twice b =>
    obtain ⟨_, m, rfl, _⟩ := id hT
    have G := ok_read_double T m (GB m rfl)
    obtain ⟨tr, etk⟩ : ∃ tr, tokT (.twice b) = ("double" : Str) :: tr := ⟨_, rfl⟩
    rw [etk] at hd q
    obtain ⟨h1, h2⟩ := at_drop hd
    refine ⟨_, (pss_cons (ps_set (i := 1) scread_thing.nd rfl (Or.inl rfl) (pe_meth (pv 0) T.clReader T.mtReader_take_if GReader_take_if (hr.mono (by omega)) T.bReader_take_if .nil pass0 (pa_cons (pe_and (pe_cmpR op_lt (pe_fld (pv 0) rfl) (pe_gc (by rfl) T.cMOST_THINGS) (nomark _)) (pe_one (pe_cmpR (op_in_kd T.DREADERS) (pe_meth0 (pv 0) T.clReader T.mtReader_sign GReader_sign (hr.mono (by omega)) T.bReader_sign .nil pass0) (pe_gc (by rfl) T.cREADERS) (by rfl)))) pa_nil))) (pss_cons (ps_fldaug (pv 0) pe_int in_add) (pss_cons (ps_set (i := 2) scread_thing.nd rfl (Or.inl rfl) (pe_ix ix_kdict (pe_gc (by rfl) T.cREADERS) (pv 1) (fun _ _ => rfl))) (pss_one (ps_ret (pe_callL (i := 2) G (hr.mono (by omega)) rfl (Or.inl rfl) T.Fread_double.kp T.bread_double .nil pass0 (pa_cons (pv 0) pa_nil))))))), ?_⟩
    refine ⟨_, rfl, o, dx, _, rfl, hR.ob, rfl, _, rfl, o, _, dx, _, _, rfl, hR.ob, T.clReader, T.naReader_things, rfs_things _ _ _ _, _, 12, rfl, rfl, _, rfl, ite2 (fun _ => ?_) (fun z => absurd (decide_eq_true (by omega)) z)⟩
    refine ⟨_, rfl, o, dx, _, rfl, hR.ob, rfl, o, dx, sg, toks, p, th, dp, _, rfl, hR, h1, _, _, rfl, rfl, T.sREADERS_double, o, dx, sg, toks, p, th, dp, _, _, _, rfl, hR, h1, bl1 rfl, rfl, fun H1 hR1 G1 => ?_⟩
    have st := hR1.step (p' := p + 1) (th' := th + 1) (dp' := dp)
    refine ⟨_, rfl, o, _, dx, _, _, rfl, hR1.ob, T.clReader, T.naReader_things, rfs_things _ _ _ _, _, _, rfl, rfl, dx, _, hR1.ob, rfs_len _ _ _ _, ?_⟩
    refine ⟨_, rfl, T.aREADERS, _, _, rfl, rfl, T.kREADERS_double, ?_⟩
    refine ⟨rfl, _, rfl, o, dx, sg, toks, tr, rest, r0, p + 1, th + 1, dp, cntT (.twice b) - 1, _, rfl, st.1, h2, ⟨_, "double", Cc, A', sc, ⟨b, rfl⟩, etk.symm, hT, hS, hr0, by omega, by omega, hdp, rfl⟩, fun v H' hv hR' G' => ?_⟩
    exact q v H' hv (hR'.to (by rw [List.length_cons]; omega) (by omega) rfl) ((G1.trans st.2).trans G')
theorem ok_read_body (T : Tops w K mg) (n : Nat) (Gread_thing : FnOk P w K mg base CX0 (6 + 4 * n) T.fread_thing T.dread_thing ["reader"] (spReadThing T.CReader n)) : FnOk P w K mg base CX0 (7 + 4 * n) T.fread_body T.dread_body ["reader"] (spReadBody T.CReader n) := by
  have GReader_sign : FnOk P w K mg base CX0 1 T.fReader_sign T.dReader_sign ["self"] (spSign T.CReader) := ok_sign T
  have GReader_take : FnOk P w K mg base CX0 3 T.fReader_take T.dReader_take ["self", "wanted"] (spTakeS T.CReader) := ok_takeS T
  have el : 7 + 4 * n = (6 + 4 * n) + 1 := by omega
  rw [el]
  refine T.Fread_body.ok (k := 6 + 4 * n) scread_body (fun vs H Q E h => ?_) (fun cdv A outer s H vs Q E hr h => ?_)
  · obtain ⟨o, dx, sg, toks, ts, rest, r0, p, th, dp, c, val, rfl, _⟩ := h
    rfl
  obtain ⟨o, dx, sg, toks, ts, rest, r0, p, th, dp, c, val, rfl, hR, hd, ⟨b, Cc, A', sc, rfl, hb, hB, hS, hr0, rfl, hth, hdp, rfl⟩, q⟩ := h
  refine ⟨_, (pss_cons (ps_set (i := 1) scread_body.nd rfl (Or.inl rfl) (pe_lst (pa_cons (pe_call Gread_thing (hr.mono (by omega)) (by rfl) T.gread_thing T.Fread_thing.kp T.bread_thing .nil pass0 (pa_cons (pv 0) pa_nil)) pa_nil)))
 (pss_cons (ps_while PassesOwn.never (pt_cmpR op_eq (pe_meth0 (pv 0) T.clReader T.mtReader_sign GReader_sign (hr.mono (by omega)) T.bReader_sign .nil pass0) pe_str (nomark _))
  (pss_cons (ps_expr (pe_meth (pv 0) T.clReader T.mtReader_take GReader_take (hr.mono (by omega)) T.bReader_take .nil pass0 (pa_cons pe_str pa_nil)))
 (pss_one (ps_expr (pe_bm PySem.F.plainAttrs_list PySem.F.slot_list_append PySem.F.type_list_append mt_append (pv 1) (pa_cons (pe_call Gread_thing (hr.mono (by omega)) (by rfl) T.gread_thing T.Fread_thing.kp T.bread_thing .nil pass0 (pa_cons (pv 0) pa_nil)) pa_nil))))))
 (pss_one (ps_ret (pe_callTy call_tuple_of (by rfl) T.mtuple (by decide +kernel) (pa_cons (pv 1) pa_nil)))))), ?_⟩
  have hr1 : r0 = ";" ∨ r0 = ")" ∨ r0 = "" := .inr hr0
  have hr2 : r0 ≠ ";" := by
    rcases hr0 with rfl | rfl
    · decide +kernel
    · decide +kernel
  obtain ⟨t1, r1, rfl⟩ : ∃ t1 r1, b = t1 :: r1 := by
    cases b with
    | nil => exact absurd rfl hb
    | cons t1 r1 => exact ⟨t1, r1, rfl⟩
  -- what stands behind a thing
  have more : ∀ (r : List Thing), ∃ q0 qr, more1 r ++ (r0 :: rest) = q0 :: qr ∧ (q0 = ";" ∨ q0 = ")" ∨ q0 = "") ∧ ((r = [] ∧ q0 = r0 ∧ qr = rest) ∨ ∃ u s, r = u :: s ∧ q0 = ";" ∧ qr = tokT u ++ (more1 s ++ (r0 :: rest))) := by
    intro r
    cases r with
    | nil => exact ⟨r0, rest, rfl, hr1, .inl ⟨rfl, rfl, rfl⟩⟩
    | cons u s =>
      refine ⟨";", tokB (u :: s) ++ (r0 :: rest), rfl, .inl rfl, .inr ⟨u, s, rfl, rfl, ?_⟩⟩
      rw [tokB_more, List.append_assoc]
  rw [tokB_more, List.append_assoc] at hd
  rw [tokB_more] at q
  have hcnt : cntB (t1 :: r1) = cntT t1 + cntB r1 := rfl
  rw [hcnt] at hth q
  obtain ⟨q0, qr, e0, f0, g0⟩ := more r1
  rw [e0] at hd
  refine ⟨_, rfl, o, dx, sg, toks, tokT t1, qr, q0, p, th, dp, cntT t1, _, rfl, hR, hd, ⟨t1, Cc, A', sc, rfl, hB.1, hS, f0, rfl, by omega, hdp, rfl⟩, fun v1 H1 hv1 hR1 G1 => ?_⟩
  refine ⟨(by show 1 ≤ sizeLine; decide), fun F nF => ?_⟩
  have hRF := hR1.new (u := .lst [v1]) nF
  have nFo : F ≠ o := (ne_of_none hR1.ob nF).symm
  have nFH : H F = none := G1.free nF nFo
  have hd1 := drop_past hd
  refine ⟨fun m σ H' => ∃ (us : List V) (dn rem : List Thing) (q0 : Str) (qr : List Str), rem.length = m ∧ dn ++ rem = t1 :: r1 ∧ us.length ≤ dn.length ∧ σ = [some (.ref o), some (.ref F)] ∧ H' F = some (.lst us) ∧ RpL H' us (encs dn) ∧ RS H' T.CReader o dx sg toks (p + (tokT t1 ++ more1 r1).length - (more1 rem).length) (th + cntB dn) dp ∧ Go (· = o) H H' ∧
    (more1 rem).length ≤ (tokT t1 ++ more1 r1).length ∧ toks.drop (p + (tokT t1 ++ more1 r1).length - (more1 rem).length) = more1 rem ++ (r0 :: rest), ⟨r1.length, [v1], [t1], r1, q0, qr, rfl, rfl, Nat.le_refl _, rfl, upd_same, rpl_cons (Rp.to hv1 (Imm.same (same_new nF))) rpl_nil, hRF.to ?_ (by show th + cntT t1 = th + (cntT t1 + 0); omega) rfl, G1.new nF, ?_, ?_⟩, ?_⟩
  · rw [List.length_append]; omega
  · rw [List.length_append]; omega
  · rw [List.length_append, show p + ((tokT t1).length + (more1 r1).length) - (more1 r1).length = p + (tokT t1).length by omega, hd1, e0]
  rintro m σ H2 ⟨us, dn, rem, q0', qr', hm, hdr, hus, rfl, hF2, hU, hR2, G2, hle, hdp2⟩
  obtain ⟨q0, qr, e0, f0, g0⟩ := more rem
  rw [e0] at hdp2
  obtain ⟨h1, h2⟩ := at_d1 hdp2
  have hTs : ∀ u ∈ dn ++ rem, TOk Cc A' sc n u := by
    rw [hdr]
    exact (tsok_iff _).mp hB
  have hcn : cntB dn + cntB rem = cntT t1 + cntB r1 := by
    rw [← cntB_append, hdr]
    rfl
  refine ⟨_, rfl, o, dx, _, rfl, hR2.ob, rfl, o, dx, sg, toks, _, _, dp, _, rfl, hR2, h1, rfl, _, rfl, ite2 (fun c1 => ?_) (fun c1 => ?_)⟩
  · have e1 : q0 = ";" := V.str.inj (of_decide_eq_true c1)
    rcases g0 with ⟨rfl, g1, g2⟩ | ⟨u, sx, rfl, g1, g2⟩
    · exact absurd (g1.symm.trans e1) hr2
    subst g1
    obtain ⟨q1, qr1, e1', f1, g1'⟩ := more sx
    rw [g2, e1'] at h2
    refine ⟨_, fun σ' H' z => z, ?_⟩
    refine ⟨_, rfl, o, dx, _, rfl, hR2.ob, rfl, o, dx, sg, toks, _, _, dp, _, _, _, rfl, hR2, h1, rfl, rfl, fun H3 hR3 G3 => ?_⟩
    have hF3 := G3.at hF2 nFo
    have hcu : cntB (u :: sx) = cntT u + cntB sx := rfl
    rw [hcu] at hcn
    refine ⟨_, rfl, .inl ⟨rfl, _, SqL.of hF3⟩, _, rfl, o, dx, sg, toks, tokT u, qr1, q1, _, _, dp, cntT u, _, rfl, hR3, h2, ⟨u, Cc, A', sc, rfl, hTs u (List.mem_append_right _ List.mem_cons_self), hS, f1, rfl, by omega, hdp, rfl⟩, fun v4 H4 hv4 hR4 G4 => ?_⟩
    have hF4 := G4.at hF3 nFo
    have hlen2 : us.length < 100000 := by
      have h5 := cnt_len dn
      omega
    refine ⟨F, us, v4, rfl, rfl, hF4, szl hlen2, ?_⟩
    have i24 : Imm H2 (upd H4 F (.lst (us ++ [v4]))) := (G3.im.trans G4.im).upd fun xs e => by rw [hF2] at e; cases e
    have i4 : Imm H4 (upd H4 F (.lst (us ++ [v4]))) := (Imm.refl H4).upd fun xs e => by rw [hF4] at e; cases e
    have G5 : Go (· = o) H (upd H4 F (.lst (us ++ [v4]))) := ((G2.trans G3).trans G4).own nFH
    have nFs : sg ≠ F := fun z => by
      obtain ⟨svs0, k0, _⟩ := hR.sg
      rw [z, nFH] at k0
      cases k0
    have hR5 := hR4.own (.lst (us ++ [v4])) nFo nFs hF4
    have hml : (more1 (u :: sx)).length = 1 + (tokT u).length + (more1 sx).length := by
      show (([";"] : List Str) ++ tokB (u :: sx)).length = _
      rw [tokB_more, List.length_append, List.length_append]
      show 1 + _ = _
      omega
    have hpp : p + (tokT t1 ++ more1 r1).length - (more1 (u :: sx)).length + 1 + (tokT u).length = p + (tokT t1 ++ more1 r1).length - (more1 sx).length := by omega
    refine ⟨sx.length, by rw [← hm, List.length_cons]; omega, us ++ [v4], dn ++ [u], sx, q1, qr1, rfl, by rw [List.append_assoc]; exact hdr, by rw [List.length_append, List.length_append]; show us.length + 1 ≤ dn.length + 1; omega, rfl, upd_same, ?_, hR5.to hpp ?_ rfl, G5, by omega, ?_⟩
    · rw [encs_append]
      exact (hU.to i24).append (rpl_cons (Rp.to hv4 i4) rpl_nil)
    · rw [cntB_append]
      show th + cntB dn + cntT u = th + (cntB dn + (cntT u + 0))
      omega
    · have z := drop_past h2
      rw [hpp] at z
      rw [z, e1']
  · rcases g0 with ⟨rfl, g1, g2⟩ | ⟨u, sx, rfl, g1, g2⟩
    · have hdn : dn = t1 :: r1 := by rw [← hdr, List.append_nil]
      subst hdn
      refine ⟨_, rfl, F, us, rfl, .inl ⟨SqL.of hF2, fun p3 np => ?_⟩⟩
      exact q _ _ (rp_tup upd_same (hU.to (Imm.same (same_new np)))) ((hR2.new np).to (by show p + (tokT t1 ++ more1 r1).length - 0 = _; omega) rfl rfl) (G2.new np)
    · exact absurd (decide_eq_true (by rw [g1])) c1
theorem ok_read_bracket (T : Tops w K mg) (m : Nat) (Gread_body : FnOk P w K mg base CX0 (7 + 4 * m) T.fread_body T.dread_body ["reader"] (spReadBody T.CReader m)) : FnOk P w K mg base CX0 (8 + 4 * m) T.fread_bracket T.dread_bracket ["reader"] (spReadBracket T.CReader m) := by
  have GReader_sign : FnOk P w K mg base CX0 1 T.fReader_sign T.dReader_sign ["self"] (spSign T.CReader) := ok_sign T
  have GReader_take_if : FnOk P w K mg base CX0 2 T.fReader_take_if T.dReader_take_if ["self", "fits"] (spTakeIf T.CReader) := ok_take_if T
  have GReader_take : FnOk P w K mg base CX0 3 T.fReader_take T.dReader_take ["self", "wanted"] (spTakeS T.CReader) := ok_takeS T
  have el : 8 + 4 * m = (7 + 4 * m) + 1 := by omega
  rw [el]
  refine T.Fread_bracket.ok (k := 7 + 4 * m) scread_bracket (fun vs H Q E h => ?_) (fun cdv A outer s H vs Q E hr h => ?_)
  · obtain ⟨o, dx, sg, toks, ts, rest, r0, p, th, dp, c, val, rfl, _⟩ := h
    rfl
  obtain ⟨o, dx, sg, toks, ts, rest, r0, p, th, dp, c, val, rfl, hR, hd, ⟨b, Cc, A', sc, rfl, hb, hB, hS, rfl, hth, hdp, rfl⟩, q⟩ := h
  refine ⟨_, (pss_cons (ps_expr (pe_meth (pv 0) T.clReader T.mtReader_take_if GReader_take_if (hr.mono (by omega)) T.bReader_take_if .nil pass0 (pa_cons (pe_and (pe_cmpR op_lt (pe_fld (pv 0) rfl) (pe_gc (by rfl) T.cMOST_BRACKETS) (nomark _)) (pe_one (pe_cmpR op_eq (pe_meth0 (pv 0) T.clReader T.mtReader_sign GReader_sign (hr.mono (by omega)) T.bReader_sign .nil pass0) pe_str (nomark _)))) pa_nil)))
 (pss_cons (ps_fldaug (pv 0) pe_int in_add)
 (pss_cons (ps_set (i := 1) scread_bracket.nd rfl (Or.inl rfl) (pe_call Gread_body (hr.mono (by omega)) (by rfl) T.gread_body T.Fread_body.kp T.bread_body .nil pass0 (pa_cons (pv 0) pa_nil)))
 (pss_cons (ps_expr (pe_meth (pv 0) T.clReader T.mtReader_take GReader_take (hr.mono (by omega)) T.bReader_take .nil pass0 (pa_cons pe_str pa_nil)))
 (pss_cons (ps_fldaug (pv 0) pe_int in_sub)
 (pss_one (ps_ret (pv 1)))))))), ?_⟩
  have hd2 : toks.drop p = ("(" : Str) :: (tokB b ++ ((")" : Str) :: (r0 :: rest))) := by
    rw [hd]
    simp only [List.append_assoc, List.cons_append, List.nil_append]
  obtain ⟨h1, h2⟩ := at_d1 hd2
  have h3 := drop_past (ts := tokB b) h2
  obtain ⟨h4, h5⟩ := at_d1 h3
  refine ⟨_, rfl, o, dx, _, rfl, hR.ob, rfl, _, rfl, o, _, dx, _, _, rfl, hR.ob, T.clReader, T.naReader_depth, rfs_depth _ _ _ _, _, 4, rfl, rfl, _, rfl, ite2 (fun _ => ?_) (fun z => absurd (decide_eq_true (by omega)) z)⟩
  refine ⟨_, rfl, o, dx, _, rfl, hR.ob, rfl, o, dx, sg, toks, p, th, dp, _, rfl, hR, h1, rfl, o, dx, sg, toks, p, th, dp, _, _, _, rfl, hR, h1, bl1 (decide_eq_true rfl), rfl, fun H1 hR1 G1 => ?_⟩
  have st := hR1.step (p' := p + 1) (th' := th) (dp' := dp + 1)
  refine ⟨_, rfl, o, _, dx, _, _, rfl, hR1.ob, T.clReader, T.naReader_depth, rfs_depth _ _ _ _, _, _, rfl, rfl, dx, _, hR1.ob, rfs_len _ _ _ _, ?_⟩
  refine ⟨_, rfl, o, dx, sg, toks, tokB b, _, ")", p + 1, th, dp + 1, cntB b, _, rfl, st.1, h2, ⟨b, Cc, A', sc, rfl, hb, hB, hS, .inl rfl, rfl, hth, by omega, rfl⟩, fun v H3 hv hR3 G3 => ?_⟩
  refine ⟨_, rfl, o, dx, _, rfl, hR3.ob, rfl, o, dx, sg, toks, _, _, _, _, _, _, rfl, hR3, h4, rfl, rfl, fun H4 hR4 G4 => ?_⟩
  refine ⟨_, rfl, o, _, dx, _, _, rfl, hR4.ob, T.clReader, T.naReader_depth, rfs_depth _ _ _ _, _, _, rfl, rfl, dx, _, hR4.ob, rfs_len _ _ _ _, ?_⟩
  have G5 : Go (· = o) H4 (upd H4 o (.ins T.CReader dx (putF "depth" (.int (((dp + 1 : Nat) : Int) - 1)) (rfs sg (p + 1 + (tokB b).length + 1) (th + cntB b) (dp + 1))))) := (Go.refl _ H4).setI rfl hR4.noTup
  have hR5 : RS (upd H4 o (.ins T.CReader dx (putF "depth" (.int (((dp + 1 : Nat) : Int) - 1)) (rfs sg (p + 1 + (tokB b).length + 1) (th + cntB b) (dp + 1))))) T.CReader o dx sg toks (p + 1 + (tokB b).length + 1) (th + cntB b) dp := hR4.go G5 (by rw [upd_same, put_depth'])
  refine ⟨_, rfl, q v _ (Rp.to hv (G4.im.trans G5.im)) (hR5.to ?_ rfl rfl) ((((G1.trans st.2).trans G3).trans G4).trans G5)⟩
  simp only [List.length_append, List.length_cons, List.length_nil]
  omega
theorem ok_reading (T : Tops w K mg) : ∀ n : Nat, FnOk P w K mg base CX0 (7 + 4 * n) T.fread_body T.dread_body ["reader"] (spReadBody T.CReader n)
  | 0 => ok_read_body T 0 (ok_read_thing T 0 fun m e => by cases e)
  | n + 1 => ok_read_body T (n + 1) (ok_read_thing T (n + 1) fun m e => by
      have e2 : n = m := by omega
      subst e2
      exact ok_read_bracket T n (ok_reading T n))
end
end K03

set_option Elab.async false
set_option linter.all false
set_option maxRecDepth 100000
set_option maxHeartbeats 4000000
namespace K03
open PySem PySem.Spec PyProof.Rows L2 OG
open C8 (pss_cut pe_gc)
section
variable {P : Program} {w : World} {K : PySem.W.Frag} {mg : Str → Option Value} {base : Heap}
theorem ok_run_end (T : Tops w K mg) : FnOk P w K mg base CX0 1 T.frun_end T.drun_end ["text", "at", "kind"] spRunEnd := by
  refine T.Frun_end.ok (k := 0) scrun_end (fun vs H Q E h => ?_) (fun cdv A outer s H vs Q E hr h => ?_)
  · obtain ⟨z, kind, at_, rfl, _⟩ := h
    rfl
  obtain ⟨z, kind, at_, rfl, hz, ha, q⟩ := h
  refine ⟨_, (pss_cons (ps_set (i := 3) scrun_end.nd rfl (Or.inl rfl) (pv 1))
 (pss_cons (ps_while PassesOwn.never (PW.pt (pw_and (pt_cmpR op_lt (pv 3) (pe_callB call_len_str (by rfl) T.mlen PySem.boot_len (pa_cons (pv 0) pa_nil)) (nomark _)) (pw_and1 (pt_cmpR op_in_sign (pe_ix ix_str (pv 0) (pv 3) (fun _ _ => rfl)) (pv 2) (by rfl)))))
  (pss_one (ps_aug (i := 3) scrun_end.nd rfl (Or.inl rfl) pe_int ip_add)))
 (pss_one (ps_ret (pv 3))))), ?_⟩
  have lz := len_tl z
  refine ⟨_, rfl, ?_⟩
  refine ⟨fun m σ H' => H' = H ∧ ∃ e : Nat, σ = [some (.str z), some (.int at_), some (.str kind), some (.int e)] ∧ e ≤ z.length ∧ m = z.length - e ∧ e + run (tl kind) ((tl z).drop e) = at_ + run (tl kind) ((tl z).drop at_), ⟨z.length - at_, rfl, at_, rfl, ha, rfl, rfl⟩, ?_⟩
  rintro m σ H' ⟨rfl, e, rfl, he, rfl, hrun⟩
  refine ⟨_, rfl, _, rfl, z, rfl, sz (by omega), _, _, rfl, rfl, _, rfl, ite2 (fun c1 => ?_) (fun c1 => ?_)⟩
  · have c2 : (e : Int) < (z.length : Int) := of_decide_eq_true c1
    have he2 : e < (tl z).length := by omega
    have hd : (tl z).drop e = (tl z)[e] :: (tl z).drop (e + 1) := List.drop_eq_getElem_cons he2
    refine ⟨_, rfl, _, rfl, z, _, _, rfl, rfl, sz (by omega), at_head hd, _, rfl, _, kind, rfl, rfl, _, rfl, ite2 (fun c3 => ?_) (fun c3 => ?_)⟩
    · have c4 : (tl z)[e] ∈ tl kind := of_decide_eq_true c3
      rw [hd, run_in c4] at hrun
      refine ⟨_, fun σ' H' z => z, ?_⟩
      refine ⟨_, rfl, _, _, rfl, rfl, ?_⟩
      exact ⟨z.length - (e + 1), by omega, rfl, e + 1, rfl, by omega, rfl, by omega⟩
    · have c4 : (tl z)[e] ∉ tl kind := fun z => c3 (decide_eq_true z)
      rw [hd, run_out c4] at hrun
      refine ⟨_, rfl, ?_⟩
      rw [show e = at_ + run (tl kind) ((tl z).drop at_) by omega]
      exact q
  · have c2 : ¬ (e : Int) < (z.length : Int) := fun z => c1 (decide_eq_true z)
    have hd : (tl z).drop e = [] := List.drop_eq_nil_of_le (by omega)
    rw [hd, run_nil] at hrun
    refine iteF ⟨_, rfl, ?_⟩
    rw [show e = at_ + run (tl kind) ((tl z).drop at_) by omega]
    exact q
theorem ok_word_end (T : Tops w K mg) : FnOk P w K mg base CX0 2 T.fword_end T.dword_end ["text", "at"] (spSignEnd okWord) := by
  have Grun_end : FnOk P w K mg base CX0 1 T.frun_end T.drun_end ["text", "at", "kind"] spRunEnd := ok_run_end T
  refine T.Fword_end.ok (k := 1) scword_end (fun vs H Q E h => ?_) (fun cdv A outer s H vs Q E hr h => ?_)
  · obtain ⟨z, at_, w', l, rfl, _⟩ := h
    rfl
  obtain ⟨z, at_, w', l, rfl, hz, hd, hne, ha, ⟨o1, o2, o3⟩, q⟩ := h
  refine ⟨_, (pss_cons (ps_set (i := 2) scword_end.nd rfl (Or.inl rfl) (pe_call Grun_end (hr.mono (by omega)) (by rfl) T.grun_end T.Frun_end.kp T.brun_end .nil pass0 (pa_cons (pv 0) (pa_cons (pv 1) (pa_cons (pe_gc (by rfl) T.cLETTERS) pa_nil)))))
 (pss_cons (ps_if (pt_cmpR op_gt (pe_op op_sub (pv 2) (pv 1)) (pe_gc (by rfl) T.cMOST_LETTERS) (nomark _))
  (pss_one ps_never)
  pss_nil)
 (pss_one (ps_ret (pv 2))))), ?_⟩
  have hrun : run (tl "abcdefghijklmnopqrstuvwxyz") ((tl z).drop at_) = w'.length := by rw [hd]; exact run_eq o1 o3
  refine ⟨_, rfl, _, rfl, z, _, at_, rfl, hz, by omega, ?_⟩
  rw [hrun]
  refine ⟨_, rfl, _, rfl, _, _, rfl, rfl, _, 8, rfl, rfl, _, rfl, ite2 (fun c1 => ?_) (fun c1 => ?_)⟩
  · have c2 : (8 : Int) < ((at_ + w'.length : Nat) : Int) - (at_ : Int) := of_decide_eq_true c1
    omega
  · exact ⟨_, rfl, q⟩
theorem ok_number_end (T : Tops w K mg) : FnOk P w K mg base CX0 2 T.fnumber_end T.dnumber_end ["text", "at"] (spSignEnd okNum) := by
  have Grun_end : FnOk P w K mg base CX0 1 T.frun_end T.drun_end ["text", "at", "kind"] spRunEnd := ok_run_end T
  refine T.Fnumber_end.ok (k := 1) scnumber_end (fun vs H Q E h => ?_) (fun cdv A outer s H vs Q E hr h => ?_)
  · obtain ⟨z, at_, w', l, rfl, _⟩ := h
    rfl
  obtain ⟨z, at_, w', l, rfl, hz, hd, hne, ha, ⟨o1, o2, o4, o3⟩, q⟩ := h
  refine ⟨_, (pss_cons (ps_set (i := 2) scnumber_end.nd rfl (Or.inl rfl) (pe_call Grun_end (hr.mono (by omega)) (by rfl) T.grun_end T.Frun_end.kp T.brun_end .nil pass0 (pa_cons (pv 0) (pa_cons (pv 1) (pa_cons (pe_gc (by rfl) T.cFIGURES) pa_nil)))))
 (pss_cut (ps_set (i := 3) scnumber_end.nd rfl (Or.inl rfl) (pe_and (pe_cmpR op_eq (pe_ix ix_str (pv 0) (pv 1) (fun _ _ => rfl)) pe_str (nomark _)) (pe_one (pe_cmpR op_gt (pe_op op_sub (pv 2) (pv 1)) pe_int (nomark _)))))
 (pss_cons (ps_if (PW.pt (pw_or (pt_val (pv 3)) (pw_or1 (pt_cmpR op_gt (pe_op op_sub (pv 2) (pv 1)) (pe_gc (by rfl) T.cMOST_NUMBER_FIGURES) (nomark _)))))
  (pss_one ps_never)
  pss_nil)
 (pss_one (ps_ret (pv 2)))))), ?_⟩
  have hrun : run (tl "0123456789") ((tl z).drop at_) = w'.length := by rw [hd]; exact run_eq o1 o3
  obtain ⟨c0, r0, rfl⟩ : ∃ c0 r0, w' = c0 :: r0 := by
    cases w' with
    | nil => exact absurd rfl hne
    | cons c0 r0 => exact ⟨c0, r0, rfl⟩
  refine ⟨_, rfl, _, rfl, z, _, at_, rfl, hz, by omega, ?_⟩
  rw [hrun]
  refine ⟨fun σ' H' => σ' = [some (.str z), some (.int at_), some (.int ((at_ + (c0 :: r0).length : Nat) : Int)), some (.bl false)] ∧ H' = H, ?_, ?_⟩
  · refine ⟨_, rfl, _, rfl, z, _, c0, rfl, rfl, sz (by omega), at_head hd, rfl, _, rfl, ite2 (fun c1 => ?_) (fun c1 => ?_)⟩
    · refine ⟨_, rfl, _, rfl, _, _, rfl, rfl, _, 1, rfl, rfl, ?_⟩
      have e0 : (⟨#[c0]⟩ : Str) = "0" := V.str.inj (of_decide_eq_true c1)
      have e1 : c0 = 48 := by
        have := congrArg tl e0
        have z2 : tl (⟨#[c0]⟩ : Str) = [c0] := rfl
        rw [z2] at this
        have z3 : tl ("0" : Str) = [48] := by decide +kernel
        rw [z3] at this
        exact (List.cons.inj this).1
      have l1 : (c0 :: r0).length ≠ 2 := fun z => o4 z (by rw [e1]; rfl)
      have e2 : decide ((1 : Int) < ((at_ + (c0 :: r0).length : Nat) : Int) - (at_ : Int)) = false := decide_eq_false (by omega)
      refine ⟨?_, rfl⟩
      show [some (V.str z), some (V.int at_), some (V.int ((at_ + (c0 :: r0).length : Nat) : Int)), some (V.bl (decide ((1 : Int) < ((at_ + (c0 :: r0).length : Nat) : Int) - (at_ : Int))))] = _
      rw [e2]
    · exact ⟨rfl, rfl⟩
  rintro σ' H' ⟨rfl, rfl⟩
  refine ⟨_, rfl, false, rfl, iteF ?_⟩
  refine ⟨_, rfl, _, rfl, _, _, rfl, rfl, _, 2, rfl, rfl, _, rfl, ite2 (fun c1 => ?_) (fun c1 => ?_)⟩
  · have c2 : (2 : Int) < ((at_ + (c0 :: r0).length : Nat) : Int) - (at_ : Int) := of_decide_eq_true c1
    omega
  · exact ⟨_, rfl, q⟩
theorem ok_sign_end (T : Tops w K mg) : FnOk P w K mg base CX0 3 T.fsign_end T.dsign_end ["text", "at"] (spSignEnd Sg) := by
  have Gword_end : FnOk P w K mg base CX0 2 T.fword_end T.dword_end ["text", "at"] (spSignEnd okWord) := ok_word_end T
  have Gnumber_end : FnOk P w K mg base CX0 2 T.fnumber_end T.dnumber_end ["text", "at"] (spSignEnd okNum) := ok_number_end T
  refine T.Fsign_end.ok (k := 2) scsign_end (fun vs H Q E h => ?_) (fun cdv A outer s H vs Q E hr h => ?_)
  · obtain ⟨z, at_, w', l, rfl, _⟩ := h
    rfl
  obtain ⟨z, at_, w', l, rfl, hz, hd, hne, ha, hsg, q⟩ := h
  refine ⟨_, (pss_cons (ps_if (pt_cmpR op_in_sign (pe_ix ix_str (pv 0) (pv 1) (fun _ _ => rfl)) (pe_gc (by rfl) T.cLETTERS) (by rfl))
  (pss_one (ps_ret (pe_call Gword_end (hr.mono (by omega)) (by rfl) T.gword_end T.Fword_end.kp T.bword_end .nil pass0 (pa_cons (pv 0) (pa_cons (pv 1) pa_nil)))))
  pss_nil)
 (pss_cons (ps_if (pt_cmpR op_in_sign (pe_ix ix_str (pv 0) (pv 1) (fun _ _ => rfl)) (pe_gc (by rfl) T.cFIGURES) (by rfl))
  (pss_one (ps_ret (pe_call Gnumber_end (hr.mono (by omega)) (by rfl) T.gnumber_end T.Fnumber_end.kp T.bnumber_end .nil pass0 (pa_cons (pv 0) (pa_cons (pv 1) pa_nil)))))
  pss_nil)
 (pss_cons (ps_if (pt_cmpR op_in_sign (pe_ix ix_str (pv 0) (pv 1) (fun _ _ => rfl)) (pe_gc (by rfl) T.cSINGLE_SIGNS) (by rfl))
  (pss_one (ps_ret (pe_op op_add (pv 1) pe_int)))
  pss_nil)
 (pss_cons (ps_if (pt_cmpR op_eq (pe_slice sl_str (pv 0) (po_some (pv 1)) (po_some (pe_op op_add (pv 1) pe_int))) pe_str (nomark _))
  (pss_one (ps_ret (pe_op op_add (pv 1) pe_int)))
  pss_nil)
 (pss_one ps_never))))), ?_⟩
  obtain ⟨c0, r0, rfl⟩ : ∃ c0 r0, w' = c0 :: r0 := by
    cases w' with
    | nil => exact absurd rfl hne
    | cons c0 r0 => exact ⟨c0, r0, rfl⟩
  refine ⟨_, rfl, _, rfl, z, _, c0, rfl, rfl, sz (by omega), at_head hd, c0, _, rfl, rfl, _, rfl, ite2 (fun c1 => ?_) (fun c1 => ?_)⟩
  · have k1 : c0 ∈ abc := of_decide_eq_true c1
    refine ⟨_, rfl, _, rfl, z, at_, c0 :: r0, l, rfl, hz, hd, hne, ha, ?_, q⟩
    cases hsg with
    | word h0 h1 h2 h3 => exact ⟨h1, h2, h3⟩
    | num h0 h1 h2 h4 h3 => exact absurd (h1 c0 List.mem_cons_self) (abc_dig c0 k1)
    | one h => exact absurd k1 (one_facts _ h).1
    | le => exact absurd k1 abc_32.2.1
  have n1 : c0 ∉ abc := fun z => c1 (decide_eq_true z)
  refine ⟨_, rfl, _, rfl, z, _, c0, rfl, rfl, sz (by omega), at_head hd, c0, _, rfl, rfl, _, rfl, ite2 (fun c2 => ?_) (fun c2 => ?_)⟩
  · have k1 : c0 ∈ dig := of_decide_eq_true c2
    refine ⟨_, rfl, _, rfl, z, at_, c0 :: r0, l, rfl, hz, hd, hne, ha, ?_, q⟩
    cases hsg with
    | word h0 h1 h2 h3 => exact absurd (h1 c0 List.mem_cons_self) n1
    | num h0 h1 h2 h4 h3 => exact ⟨h1, h2, h4, h3⟩
    | one h => exact absurd k1 (one_facts _ h).2.1
    | le => exact absurd k1 abc_32.2.2.2.1
  have n2 : c0 ∉ dig := fun z => c2 (decide_eq_true z)
  refine ⟨_, rfl, _, rfl, z, _, c0, rfl, rfl, sz (by omega), at_head hd, c0, _, rfl, rfl, _, rfl, ite2 (fun c3 => ?_) (fun c3 => ?_)⟩
  · have k1 : c0 ∈ one5 := of_decide_eq_true c3
    refine ⟨_, rfl, _, 1, rfl, rfl, ?_⟩
    have e : (c0 :: r0).length = 1 := by
      cases hsg with
      | word h0 h1 h2 h3 => exact absurd (h1 c0 List.mem_cons_self) n1
      | num h0 h1 h2 h4 h3 => exact absurd (h1 c0 List.mem_cons_self) n2
      | one h => rfl
      | le => exact absurd k1 abc_32.2.2.2.2
    rw [e] at q
    exact q
  have n3 : c0 ∉ one5 := fun z => c3 (decide_eq_true z)
  have e : c0 :: r0 = [60, 61] := by
    cases hsg with
    | word h0 h1 h2 h3 => exact absurd (h1 c0 List.mem_cons_self) n1
    | num h0 h1 h2 h4 h3 => exact absurd (h1 c0 List.mem_cons_self) n2
    | one h => exact absurd h n3
    | le => rfl
  rw [e] at hd q
  have ecut : cutS z (some (at_ : Int)) (some ((at_ + [60, 61].length : Nat) : Int)) = S [60, 61] := cut_word hd (by omega)
  refine ⟨_, rfl, _, rfl, _, rfl, _, rfl, _, 2, rfl, rfl, _, rfl, z, rfl, sz (by omega), ?_⟩
  have e2 : ((at_ : Int) + 2) = ((at_ + [60, 61].length : Nat) : Int) := by
    show (at_ : Int) + 2 = ((at_ + 2 : Nat) : Int)
    omega
  have e3 : cutS z (some (at_ : Int)) (some ((at_ : Int) + 2)) = "<=" := by
    rw [e2, ecut]
    decide +kernel
  refine ⟨rfl, _, rfl, ite2 (fun _ => ?_) (fun z' => absurd (decide_eq_true (congrArg V.str e3)) z')⟩
  refine ⟨_, rfl, _, 2, rfl, rfl, ?_⟩
  have q2 : Q (.int ((at_ : Int) + 2)) H := by
    rw [e2]
    exact q
  exact q2
theorem ok_signs_of (T : Tops w K mg) : FnOk P w K mg base CX0 4 T.fsigns_of T.dsigns_of ["text"] spSignsOf := by
  have Gsign_end : FnOk P w K mg base CX0 3 T.fsign_end T.dsign_end ["text", "at"] (spSignEnd Sg) := ok_sign_end T
  refine T.Fsigns_of.ok (k := 3) scsigns_of (fun vs H Q E h => ?_) (fun cdv A outer s H vs Q E hr h => ?_)
  · obtain ⟨z, toks, rfl, _⟩ := h
    rfl
  obtain ⟨z, toks, rfl, hz, hL, hlt, q⟩ := h
  refine ⟨_, (pss_cons (ps_set (i := 1) scsigns_of.nd rfl (Or.inl rfl) (pe_lst pa_nil))
 (pss_cons (ps_set (i := 2) scsigns_of.nd rfl (Or.inl rfl) pe_int)
 (pss_cons (ps_while PassesOwn.never (pt_cmpR op_lt (pv 2) (pe_callB call_len_str (by rfl) T.mlen PySem.boot_len (pa_cons (pv 0) pa_nil)) (nomark _))
  (pss_one (ps_if (pt_cmpR op_eq (pe_ix ix_str (pv 0) (pv 2) (fun _ _ => rfl)) pe_str (nomark _))
  (pss_one (ps_aug (i := 2) scsigns_of.nd rfl (Or.inl rfl) pe_int ip_add))
  (pss_cons (ps_set (i := 3) scsigns_of.nd rfl (Or.inl rfl) (pe_call Gsign_end (hr.mono (by omega)) (by rfl) T.gsign_end T.Fsign_end.kp T.bsign_end .nil pass0 (pa_cons (pv 0) (pa_cons (pv 2) pa_nil))))
 (pss_cons (ps_expr (pe_bm PySem.F.plainAttrs_list PySem.F.slot_list_append PySem.F.type_list_append mt_append (pv 1) (pa_cons (pe_tup (pa_cons (pe_slice sl_str (pv 0) (po_some (pv 2)) (po_some (pv 3))) (pa_cons (pv 2) pa_nil))) pa_nil)))
 (pss_one (ps_set (i := 2) scsigns_of.nd rfl (Or.inl rfl) (pv 3))))))))
 (pss_one (ps_ret (pv 1)))))), ?_⟩
  have lz := len_tl z
  refine ⟨Nat.zero_le _, fun sg nsg => ?_⟩
  refine ⟨fun m σ H' => Same H H' ∧ ∃ (at_ : Nat) (dn rem : List Str) (x3 : Option V), σ = [some (.str z), some (.ref sg), some (.int at_), x3] ∧ at_ ≤ z.length ∧ m = z.length - at_ ∧ Lx ((tl z).drop at_) rem ∧ dn ++ rem = toks ∧ SgOk H' sg dn,
    ⟨z.length - 0, same_new nsg, 0, [], toks, none, rfl, Nat.zero_le _, rfl, by rw [List.drop_zero]; exact hL, rfl, [], upd_same, rfl, fun i s h => by simp at h⟩, ?_⟩
  rintro m σ H1 ⟨sm, at_, dn, rem, x3, rfl, hat, rfl, hLx, hdn, hsg⟩
  refine ⟨_, rfl, _, rfl, z, rfl, sz (by omega), _, _, rfl, rfl, _, rfl, ite2 (fun c1 => ?_) (fun c1 => ?_)⟩
  · have c2 : (at_ : Int) < (z.length : Int) := of_decide_eq_true c1
    have hlt2 : at_ < (tl z).length := by omega
    have hd : (tl z).drop at_ = (tl z)[at_] :: (tl z).drop (at_ + 1) := List.drop_eq_getElem_cons hlt2
    refine ⟨_, fun σ' H' z => z, ?_⟩
    have hcase : ((tl z)[at_] = 32 ∧ Lx ((tl z).drop (at_ + 1)) rem) ∨ ∃ w' l rem', (tl z).drop at_ = w' ++ l ∧ Sg w' l ∧ Lx l rem' ∧ rem = S w' :: rem' ∧ (tl z)[at_] ≠ 32 := by
      cases hLx' : (tl z).drop at_ with
      | nil => rw [hd] at hLx'; cases hLx'
      | cons c r =>
        rw [hLx'] at hd
        obtain ⟨ec, er⟩ := List.cons.inj hd
        rw [hLx'] at hLx
        generalize hcr : c :: r = cr at hLx
        cases hLx with
        | nil => cases hcr
        | blank h =>
          obtain ⟨e1, e2⟩ := List.cons.inj hcr
          exact .inl ⟨ec.symm.trans e1, by rw [← er, e2]; exact h⟩
        | @sign w' l ts sgn h =>
          obtain ⟨c', r', e1, n32⟩ := sgn.head
          refine .inr ⟨w', l, ts, rfl, sgn, h, rfl, ?_⟩
          rw [e1] at hcr
          have := (List.cons.inj hcr).1
          rw [← ec, this]
          exact n32
    refine ⟨_, rfl, _, rfl, z, _, _, rfl, rfl, sz (by omega), at_head hd, rfl, _, rfl, ite2 (fun c3 => ?_) (fun c3 => ?_)⟩
    · have e0 : (⟨#[(tl z)[at_]]⟩ : Str) = " " := V.str.inj (of_decide_eq_true c3)
      have e1 : (tl z)[at_] = 32 := by
        have := congrArg tl e0
        have z2 : tl (⟨#[(tl z)[at_]]⟩ : Str) = [(tl z)[at_]] := rfl
        rw [z2] at this
        have z3 : tl (" " : Str) = [32] := by decide +kernel
        rw [z3] at this
        exact (List.cons.inj this).1
      rcases hcase with ⟨_, h2⟩ | ⟨_, _, _, _, _, _, _, h2⟩
      · refine ⟨_, rfl, _, _, rfl, rfl, ?_⟩
        exact ⟨z.length - (at_ + 1), by omega, sm, at_ + 1, dn, rem, _, rfl, by omega, rfl, h2, hdn, hsg⟩
      · exact absurd e1 h2
    · rcases hcase with ⟨h1, _⟩ | ⟨w', l, rem', hw, hsgn, hl, rfl, _⟩
      · refine absurd (decide_eq_true ?_) c3
        rw [h1]
        decide +kernel
      · have hwl : (tl z).length - at_ = w'.length + l.length := by
          have := congrArg List.length hw
          rw [List.length_drop, List.length_append] at this
          exact this
        have hw0 : 0 < w'.length := List.length_pos_iff.mpr hsgn.ne
        refine ⟨_, rfl, _, rfl, z, at_, w', l, rfl, hz, hw, hsgn.ne, by omega, hsgn, ?_⟩
        obtain ⟨svs, k1, k2, k3⟩ := hsg
        refine ⟨_, rfl, .inl ⟨rfl, _, SqL.of k1⟩, _, rfl, _, rfl, _, rfl, _, rfl, _, rfl, z, rfl, sz (by omega), _, rfl, (by show 2 ≤ sizeLine; decide), fun t nt => ?_⟩
        have ecut : cutS z (some (at_ : Int)) (some ((at_ + w'.length : Nat) : Int)) = S w' := cut_word hw (by omega)
        have st : Same H1 (upd H1 t (.tup [.str (cutS z (some (at_ : Int)) (some ((at_ + w'.length : Nat) : Int))), .int at_])) := same_new nt
        have ntsg : t ≠ sg := (ne_of_none k1 nt).symm
        have hdl : dn.length + (rem'.length + 1) = toks.length := by
          rw [← hdn, List.length_append, List.length_cons]
        refine ⟨sg, svs, .ref t, rfl, rfl, st _ _ k1, szl (by omega), ?_⟩
        refine ⟨_, rfl, ?_⟩
        refine ⟨z.length - (at_ + w'.length), by omega, Same.upd_new (sm.trans st) nsg, at_ + w'.length, dn ++ [S w'], rem', _, rfl, by omega, rfl, ?_, by rw [List.append_assoc]; exact hdn, svs ++ [.ref t], upd_same, by rw [List.length_append, List.length_append, k2]; rfl, fun i sx hsx => ?_⟩
        · have : (tl z).drop (at_ + w'.length) = ((tl z).drop at_).drop w'.length := by rw [List.drop_drop]
          rw [this, hw, List.drop_append_of_le_length (Nat.le_refl _), List.drop_length, List.nil_append]
          exact hl
        · by_cases hi : i < dn.length
          · rw [List.getElem?_append_left hi] at hsx
            obtain ⟨a, at0, j1, j2⟩ := k3 i sx hsx
            have ha : a ≠ sg := ne_of j2 k1 (fun z => by cases z)
            refine ⟨a, at0, ?_, ?_⟩
            · rw [List.getElem?_append_left (by rw [k2]; exact hi)]
              exact j1
            · rw [upd_ne ha]
              exact st _ _ j2
          · have hi2 : i = dn.length := by
              have := (List.getElem?_eq_some_iff.mp hsx).1
              rw [List.length_append] at this
              have : i < dn.length + 1 := this
              omega
            subst hi2
            rw [List.getElem?_append_right (Nat.le_refl _), Nat.sub_self] at hsx
            have : S w' = sx := Option.some.inj hsx
            subst this
            refine ⟨t, at_, ?_, ?_⟩
            · rw [List.getElem?_append_right (by rw [k2]; exact Nat.le_refl _), k2, Nat.sub_self]
              rfl
            · rw [upd_ne ntsg, upd_same, ecut]
  · have c2 : ¬ (at_ : Int) < (z.length : Int) := fun z => c1 (decide_eq_true z)
    have hd : (tl z).drop at_ = [] := List.drop_eq_nil_of_le (by omega)
    rw [hd] at hLx
    have hrem : rem = [] := by
      generalize hcr : ([] : List Nat) = cr at hLx
      cases hLx with
      | nil => rfl
      | blank h => cases hcr
      | @sign w' l ts sgn h =>
        have := sgn.ne
        cases w' with
        | nil => exact absurd rfl this
        | cons c r => cases hcr
    subst hrem
    rw [List.append_nil] at hdn
    subst hdn
    exact ⟨_, rfl, q sg H1 sm nsg hsg⟩
end
end K03

set_option Elab.async false
set_option linter.all false
set_option maxRecDepth 100000
set_option maxHeartbeats 4000000
namespace K03
open PySem PySem.Spec PyProof.Rows L2 OG
open C8 (pss_cut pe_gc)
section
variable {P : Program} {w : World} {K : PySem.W.Frag} {mg : Str → Option Value} {base : Heap}
theorem ok_init (T : Tops w K mg) : FnOk P w K mg base CX0 5 T.fReader___init__ T.dReader___init__ ["self", "text"] (spInit T.CReader) := by
  have Gsigns_of : FnOk P w K mg base CX0 4 T.fsigns_of T.dsigns_of ["text"] spSignsOf := ok_signs_of T
  refine T.FReader___init__.ok (k := 4) scReader___init__ (fun vs H Q E h => ?_) (fun cdv A outer s H vs Q E hr h => ?_)
  · obtain ⟨o, dx, z, toks, rfl, _⟩ := h
    rfl
  obtain ⟨o, dx, z, toks, rfl, ho, hz, hL, q⟩ := h
  refine ⟨_, (pss_cons (ps_fld (pv 0) (pe_op op_cat (pe_call Gsigns_of (hr.mono (by omega)) (by rfl) T.gsigns_of T.Fsigns_of.kp T.bsigns_of .nil pass0 (pa_cons (pv 1) pa_nil)) (pe_lst (pa_cons (pe_tup (pa_cons pe_str (pa_cons (pe_callB call_len_str (by rfl) T.mlen PySem.boot_len (pa_cons (pv 1) pa_nil)) pa_nil))) pa_nil))) rfl)
 (pss_cons (ps_fld (pv 0) pe_int rfl)
 (pss_cons (ps_fld (pv 0) pe_int rfl)
 (pss_one (ps_fld (pv 0) pe_int rfl))))), ?_⟩
  have hlt := lx_len hL
  have lz := len_tl z
  refine ⟨_, rfl, z, toks, rfl, hz, hL, by omega, fun s0 H1 sm ns0 hsg => ?_⟩
  obtain ⟨svs, k1, k2, k3⟩ := hsg
  refine ⟨_, rfl, z, rfl, sz (by omega), (by show 2 ≤ sizeLine; decide), fun t nt => ?_⟩
  refine ⟨(by show 1 ≤ sizeLine; decide), fun l nl => ?_⟩
  have st : Same H1 (upd H1 t (.tup [.str "", .int (z.length : Int)])) := same_new nt
  have sl : Same (upd H1 t (.tup [.str "", .int (z.length : Int)])) (upd (upd H1 t (.tup [.str "", .int (z.length : Int)])) l (.lst [.ref t])) := same_new nl
  refine ⟨s0, l, svs, [.ref t], rfl, rfl, sl _ _ (st _ _ k1), upd_same, ?_, fun sg nsg => ?_⟩
  · rw [k2]
    show toks.length + 1 ≤ sizeLine
    exact sz (by omega)
  have sg3 : Same (upd (upd H1 t (.tup [.str "", .int (z.length : Int)])) l (.lst [.ref t])) (upd (upd (upd H1 t (.tup [.str "", .int (z.length : Int)])) l (.lst [.ref t])) sg (.lst (svs ++ [.ref t]))) := same_new nsg
  have sall : Same H (upd (upd (upd H1 t (.tup [.str "", .int (z.length : Int)])) l (.lst [.ref t])) sg (.lst (svs ++ [.ref t]))) := ((sm.trans st).trans sl).trans sg3
  have sone : Same H1 (upd (upd (upd H1 t (.tup [.str "", .int (z.length : Int)])) l (.lst [.ref t])) sg (.lst (svs ++ [.ref t]))) := (st.trans sl).trans sg3
  have ho4 := sall _ _ ho
  have nso : sg ≠ o := (ne_of_none (((sm.trans st).trans sl) _ _ ho) nsg).symm
  generalize hH4 : (upd (upd (upd H1 t (.tup [.str "", .int (z.length : Int)])) l (.lst [.ref t])) sg (.lst (svs ++ [.ref t]))) = H4 at ho4 sall sone sg3
  have hsg4 : H4 sg = some (.lst (svs ++ [.ref t])) := by rw [← hH4]; exact upd_same
  have ht4 : H4 t = some (.tup [.str "", .int (z.length : Int)]) := by rw [← hH4]; exact same_new nsg _ _ (same_new nl _ _ upd_same)
  refine ⟨_, rfl, o, _, dx, [], rfl, ho4, T.clReader, T.naReader_signs, (by show 0 < 1000; decide), ?_⟩
  refine ⟨_, rfl, o, _, dx, _, rfl, upd_same, T.clReader, T.naReader_place, (by show 1 < 1000; decide), ?_⟩
  refine ⟨_, rfl, o, _, dx, _, rfl, upd_same, T.clReader, T.naReader_things, (by show 2 < 1000; decide), ?_⟩
  refine ⟨_, rfl, o, _, dx, _, rfl, upd_same, T.clReader, T.naReader_depth, (by show 3 < 1000; decide), ?_⟩
  rw [upd_upd, upd_upd, upd_upd]
  have efs : putF "depth" (V.int 0) (putF "things" (.int 0) (putF "place" (.int 0) (putF "signs" (.ref sg) []))) = rfs sg 0 0 0 := rfl
  have G4 : Go (· = o) H4 (upd H4 o (.ins T.CReader dx (rfs sg 0 0 0))) := (Go.refl _ H4).setI rfl (fun xs e => by rw [ho4] at e; cases e)
  refine q sg _ ⟨by rw [upd_same]; rfl, svs ++ [.ref t], by rw [upd_ne nso]; exact hsg4, by rw [List.length_append, List.length_append, k2]; rfl, fun i sx hsx => ?_⟩ ((Go.same sall).trans G4)
  by_cases hi : i < toks.length
  · rw [List.getElem?_append_left hi] at hsx
    obtain ⟨a, at0, j1, j2⟩ := k3 i sx hsx
    refine ⟨a, at0, ?_, G4.im _ _ (sone _ _ j2)⟩
    rw [List.getElem?_append_left (by rw [k2]; exact hi)]
    exact j1
  · have hi2 : i = toks.length := by
      have := (List.getElem?_eq_some_iff.mp hsx).1
      rw [List.length_append] at this
      have : i < toks.length + 1 := this
      omega
    subst hi2
    rw [List.getElem?_append_right (Nat.le_refl _), Nat.sub_self] at hsx
    have : ("" : Str) = sx := Option.some.inj hsx
    subst this
    refine ⟨t, _, ?_, G4.im _ _ ht4⟩
    rw [List.getElem?_append_right (by rw [k2]; exact Nat.le_refl _), k2, Nat.sub_self]
    rfl
theorem ok_read_plan (T : Tops w K mg) (n : Nat) : FnOk P w K mg base CX0 (8 + 4 * n) T.fread_plan T.dread_plan ["text"] (spReadPlan n) := by
  have GReader_sign : FnOk P w K mg base CX0 1 T.fReader_sign T.dReader_sign ["self"] (spSign T.CReader) := ok_sign T
  have GReader___init__ : FnOk P w K mg base CX0 5 T.fReader___init__ T.dReader___init__ ["self", "text"] (spInit T.CReader) := ok_init T
  have Gread_body : FnOk P w K mg base CX0 (7 + 4 * n) T.fread_body T.dread_body ["reader"] (spReadBody T.CReader n) := ok_reading T n
  have el : 8 + 4 * n = (7 + 4 * n) + 1 := by omega
  rw [el]
  refine T.Fread_plan.ok (k := 7 + 4 * n) scread_plan (fun vs H Q E h => ?_) (fun cdv A outer s H vs Q E hr h => ?_)
  · obtain ⟨z, ts, C, A', sc, rfl, _⟩ := h
    rfl
  obtain ⟨z, ts, C, A', sc, rfl, hz, hL, hts, hT, hS, hc, hn, q⟩ := h
  refine ⟨_, (pss_cons (ps_set (i := 1) scread_plan.nd rfl (Or.inl rfl) (pe_make T.mkReader GReader___init__ (hr.mono (by omega)) (by rfl) T.gReader T.bReader___init__ .nil pass0 (pa_cons (pv 0) pa_nil)))
 (pss_cons (ps_set (i := 2) scread_plan.nd rfl (Or.inl rfl) (pe_call Gread_body (hr.mono (by omega)) (by rfl) T.gread_body T.Fread_body.kp T.bread_body .nil pass0 (pa_cons (pv 1) pa_nil)))
 (pss_cons (ps_if (pt_cmpR op_ne (pe_meth0 (pv 1) T.clReader T.mtReader_sign GReader_sign (hr.mono (by omega)) T.bReader_sign .nil pass0) pe_str (nomark _))
  (pss_one ps_never)
  pss_nil)
 (pss_one (ps_ret (pv 2)))))), ?_⟩
  refine ⟨_, rfl, fun x dx nx ndx nex => ?_⟩
  have s0 : Same H (upd (upd H dx (.own x)) x (.ins T.CReader dx [])) := fun b o e => by
    rw [upd_ne (ne_of_none e nx), upd_ne (ne_of_none e ndx)]
    exact e
  refine ⟨x, dx, z, tokB ts, rfl, upd_same, hz, hL, fun sg H1 hR1 G1 => ⟨rfl, ?_⟩⟩
  have hd : (tokB ts ++ ([""] : List Str)).drop 0 = tokB ts ++ ("" : Str) :: [] := rfl
  refine ⟨_, rfl, x, dx, sg, tokB ts ++ ([""] : List Str), tokB ts, [], "", 0, 0, 0, cntB ts, _, rfl, hR1, hd, ⟨ts, C, A', sc, rfl, hts, hT, hS, .inr rfl, rfl, by omega, by omega, rfl⟩, fun v H2 hv hR2 G2 => ?_⟩
  have h2 := drop_past hd
  obtain ⟨h3, _⟩ := at_d1 h2
  refine ⟨_, rfl, x, dx, _, rfl, hR2.ob, rfl, x, dx, sg, _, _, _, 0, _, rfl, hR2, h3, rfl, _, rfl, iteF ?_⟩
  refine ⟨_, rfl, q v H2 hv fun b u hb => ?_⟩
  have nb : b ≠ x := ne_of_none hb nx
  exact (G1.trans G2).sx b u nb (s0 b u hb)
end
end K03

set_option Elab.async false
set_option linter.all false
set_option maxRecDepth 100000
set_option maxHeartbeats 4000000
namespace K03
open PySem PySem.Spec PyProof.Rows L2 OG
open C8 (pss_cut pe_gc)
section
variable {P : Program} {w : World} {K : PySem.W.Frag} {mg : Str → Option Value} {base : Heap}
theorem ok_some_end (T : Tops w K mg) : FnOk P w K mg base CX0 3 T.fl_some_end T.dl_some_end ["_law_draw", "_law_scope", "_law_wide"] spSomeEnd := by
  have Gl_take : FnOk P w K mg base CX0 1 T.fl_take T.dl_take ["_law_draw", "_law_sides"] spTake := ok_take T
  have Gl_pick : FnOk P w K mg base CX0 2 T.fl_pick T.dl_pick ["_law_draw", "_law_row"] (spPick K) := ok_pick T
  refine T.Fl_some_end.ok (k := 2) scl_some_end (fun vs H Q E h => ?_) (fun cdv A outer s H vs Q E hr h => ?_)
  · obtain ⟨d, L, sc, ns, wide, rfl, _⟩ := h
    rfl
  obtain ⟨d, L, sc, ns, wide, rfl, hD, hsc, nsd, hne, hlen, q⟩ := h
  refine ⟨_, (pss_cons (ps_set (i := 3) scl_some_end.nd rfl (Or.inl rfl) (pe_ix ix_list (pe_lst (pa_cons pe_int (pa_cons (pe_call Gl_take (hr.mono (by omega)) (by rfl) T.gl_take T.Fl_take.kp T.bl_take .nil pass0 (pa_cons (pv 0) (pa_cons pe_int pa_nil))) (pa_cons (pe_call Gl_take (hr.mono (by omega)) (by rfl) T.gl_take T.Fl_take.kp T.bl_take .nil pass0 (pa_cons (pv 0) (pa_cons (pe_ix ix_list (pe_lst (pa_cons pe_int (pa_cons pe_int pa_nil))) (pe_callTy call_int1 (by rfl) T.mint (by decide +kernel) (pa_cons (pv 2) pa_nil)) (fun _ _ => rfl)) pa_nil))) pa_nil)))) (pe_call Gl_take (hr.mono (by omega)) (by rfl) T.gl_take T.Fl_take.kp T.bl_take .nil pass0 (pa_cons (pv 0) (pa_cons pe_int pa_nil))) (fun _ _ => rfl)))
 (pss_cons (ps_if (pt_cmpR op_eq (pe_call Gl_take (hr.mono (by omega)) (by rfl) T.gl_take T.Fl_take.kp T.bl_take .nil pass0 (pa_cons (pv 0) (pa_cons pe_int pa_nil))) pe_int (nomark _))
  (pss_one (ps_ret (pe_tup (pa_cons pe_str (pa_cons (pv 3) pa_nil)))))
  pss_nil)
 (pss_one (ps_ret (pe_tup (pa_cons (pe_call Gl_pick (hr.mono (by omega)) (by rfl) T.gl_pick T.Fl_pick.kp T.bl_pick .nil pass0 (pa_cons (pv 0) (pa_cons (pv 1) pa_nil))) (pa_cons (pe_op op_mul (pv 3) (pe_ix ix_list (pe_lst (pa_cons pe_int (pa_cons (pe_un un_neg pe_int) pa_nil))) (pe_call Gl_take (hr.mono (by omega)) (by rfl) T.gl_take T.Fl_take.kp T.bl_take .nil pass0 (pa_cons (pv 0) (pa_cons pe_int pa_nil))) (fun _ _ => rfl))) pa_nil))))))), ?_⟩
  -- more
  refine ⟨_, rfl, d, L, 5, rfl, hD, by decide, by decide, fun g1 H1 a1 b1 hD1 hB1 => ?_⟩
  have G1 : Go (· = d) H H1 := Go.but hD hB1 rfl
  refine ⟨_, rfl, (by show 2 ≤ sizeLine; decide), fun l nl => ?_⟩
  have hw : ∃ k : Int, atI [V.int 5, .int 100] (if wide = true then 1 else 0) = some (.int k) ∧ 1 ≤ k ∧ k ≤ 100 := by
    cases wide
    · exact ⟨5, rfl, by decide, by decide⟩
    · exact ⟨100, rfl, by decide, by decide⟩
  obtain ⟨kw, hkw, kw1, kw2⟩ := hw
  refine ⟨_, rfl, .inr ⟨wide, rfl, l, _, _, _, rfl, rfl, SqL.of upd_same, hkw, d, L, kw, rfl, hD1.new nl, kw1, by omega, fun g2 H2 a2 b2 hD2 hB2 => ?_⟩⟩
  have G2 : Go (· = d) H H2 := (G1.new nl).trans (Go.but (hD1.new nl) hB2 rfl)
  refine ⟨(by show 3 ≤ sizeLine; decide), fun l2 nl2 => ?_⟩
  refine ⟨_, rfl, d, L, 3, rfl, hD2.new nl2, by decide, by decide, fun g3 H3 a3 b3 hD3 hB3 => ?_⟩
  have G3 : Go (· = d) H H3 := (G2.new nl2).trans (Go.but (hD2.new nl2) hB3 rfl)
  have hl2 : H3 l2 = some (.lst [.int 0, .int g1, .int g2]) := by
    rw [hB3 l2 (hD2.neNew nl2).1]
    exact upd_same
  obtain ⟨v, hv, hm⟩ := atI_lt (xs := [V.int 0, .int g1, .int g2]) a3 b3
  obtain ⟨m, rfl, hm2⟩ := mem_ints3 hm
  have m0 : 0 ≤ m ∧ m ≤ 99 := by omega
  refine ⟨l2, _, g3, _, rfl, rfl, SqL.of hl2, hv, ?_⟩
  -- if take(draw, 3) == 0
  refine ⟨_, rfl, d, L, 3, rfl, hD3, by decide, by decide, fun g4 H4 a4 b4 hD4 hB4 => ?_⟩
  have G4 : Go (· = d) H H4 := G3.trans (Go.but hD3 hB4 rfl)
  refine ⟨rfl, _, rfl, ite2 (fun c1 => ?_) (fun c1 => ?_)⟩
  · refine ⟨_, rfl, (by show 2 ≤ sizeLine; decide), fun p np => ?_⟩
    exact q _ ("", m) _ (rp_tup upd_same (rpl_cons rfl (rpl_cons rfl rpl_nil))) (.inl ⟨rfl, m0.1, m0.2⟩) (hD4.new np) (G4.new np)
  · have hsc4 := G4.at hsc nsd
    have hpos : 0 < ns.length := List.length_pos_iff.mpr hne
    refine ⟨_, rfl, _, rfl, d, L, _, ns.length, rfl, hD4, hpos, by omega, .inr ⟨sc, ns.map V.str, rfl, nsd, SqL.of hsc4, List.length_map _, fun y H5 hy hD5 hB5 => ?_⟩⟩
    obtain ⟨x, rfl, hx⟩ := mem_strs hy
    have G5 : Go (· = d) H H5 := G4.trans (Go.but hD4 hB5 rfl)
    refine ⟨_, rfl, 1, rfl, (by show 2 ≤ sizeLine; decide), fun l3 nl3 => ?_⟩
    refine ⟨_, rfl, d, L, 2, rfl, hD5.new nl3, by decide, by decide, fun g6 H6 a6 b6 hD6 hB6 => ?_⟩
    have G6 : Go (· = d) H H6 := (G5.new nl3).trans (Go.but (hD5.new nl3) hB6 rfl)
    have hl3 : H6 l3 = some (.lst [.int 1, .int (-1)]) := by
      rw [hB6 l3 (hD5.neNew nl3).1]
      exact upd_same
    obtain ⟨v2, hv2, hmm⟩ := atI_lt (xs := [V.int 1, .int (-1)]) a6 b6
    obtain ⟨s2, rfl, hs2⟩ := mem_ints2 hmm
    refine ⟨l3, _, g6, _, rfl, rfl, SqL.of hl3, hv2, m, s2, rfl, rfl, .inl ⟨by omega, by omega⟩, ?_⟩
    refine ⟨(by show 2 ≤ sizeLine; decide), fun p np => ?_⟩
    have b1 : -99 ≤ m * s2 ∧ m * s2 ≤ 99 := by
      rcases hs2 with rfl | rfl
      · omega
      · omega
    exact q _ (x, m * s2) _ (rp_tup upd_same (rpl_cons rfl (rpl_cons rfl rpl_nil))) (.inr ⟨hx, b1.1, b1.2⟩) (hD6.new np) (G6.new np)
theorem ok_leaf (T : Tops w K mg) : FnOk P w K mg base CX0 4 T.fl_leaf T.dl_leaf ["_law_draw", "_law_kit", "_law_scope", "_law_deep"] spLeaf := by
  have Gl_take : FnOk P w K mg base CX0 1 T.fl_take T.dl_take ["_law_draw", "_law_sides"] spTake := ok_take T
  refine T.Fl_leaf.ok (k := 3) scl_leaf (fun vs H Q E h => ?_) (fun cdv A outer s H vs Q E hr h => ?_)
  · obtain ⟨d, L, k, kd, sc, dp, r, fig, wide, rfl, _⟩ := h
    rfl
  obtain ⟨d, L, k, kd, sc, dp, r, fig, wide, rfl, hD, ⟨hk, hkd⟩, nkd, q⟩ := h
  refine ⟨_, (pss_cons (ps_setLc (i := 4) (own := [("_law_name", 5)]) rfl scl_leaf.nd rfl rfl (sw_true rfl rfl rfl (by decide +kernel)) (pi_list (pe_callB (call_sortedD rfl) (by rfl) T.msorted (by decide +kernel) (pa_cons (pe_ix ix_list (pv 1) pe_int (fun _ _ => rfl)) pa_nil))) (blkOk_by (N := Nl_leaf) (sc := defScope sl_leaf) (by decide +kernel)) (fun _ _ _ _ _ => (pg_name (i := 5) scl_leaf.nd rfl (Or.inl rfl))) (fun _ _ _ _ _ => (pts_one (PW.pt (pw_and (pt_cmpR op_lt (pe_op op_add (pe_ix (ix_tupK (K := K) rfl) (pe_dget (hu_of hr) (pe_ix (ix_listK (K := K) rfl) (pv 1) pe_int (fun _ _ => rfl)) (pv 5) (fun _ _ => rfl)) pe_int (fun _ _ => rfl)) (pv 3)) pe_int (nomark _)) (pw_and1 (pt_cmpR op_lt (pe_ix (ix_tupK (K := K) rfl) (pe_dget (hu_of hr) (pe_ix (ix_listK (K := K) rfl) (pv 1) pe_int (fun _ _ => rfl)) (pv 5) (fun _ _ => rfl)) pe_int (fun _ _ => rfl)) pe_int (nomark _))))))) (fun _ _ _ _ _ => (pv 5)))
 (pss_cons (ps_if (PW.pt (pw_and (pt_cmpR (op_neD hr.units) (pv 4) (pe_lst pa_nil) (nomark _)) (pw_and1 (pt_cmpR op_eq (pe_call Gl_take (hr.mono (by omega)) (by rfl) T.gl_take T.Fl_take.kp T.bl_take .nil pass0 (pa_cons (pv 0) (pa_cons pe_int pa_nil))) pe_int (nomark _)))))
  pss_never
  pss_nil)
 (pss_one (ps_ret (pe_tup (pa_cons pe_str (pa_cons (pe_ix ix_list (pe_lst (pa_cons (pe_call Gl_take (hr.mono (by omega)) (by rfl) T.gl_take T.Fl_take.kp T.bl_take .nil pass0 (pa_cons (pv 0) (pa_cons pe_int pa_nil))) (pa_cons (pe_call Gl_take (hr.mono (by omega)) (by rfl) T.gl_take T.Fl_take.kp T.bl_take .nil pass0 (pa_cons (pv 0) (pa_cons pe_int pa_nil))) pa_nil))) (pe_call Gl_take (hr.mono (by omega)) (by rfl) T.gl_take T.Fl_take.kp T.bl_take .nil pass0 (pa_cons (pv 0) (pa_cons pe_int pa_nil))) (fun _ _ => rfl)) pa_nil))))))), ?_⟩
  -- fit = []
  refine ⟨_, rfl, k, _, 1, _, rfl, rfl, SqL.of hk, rfl, kd, [], [], rfl, .inl hkd, rfl, by decide, fun ys p hperm _ np => ?_⟩
  have ey : ys = [] := List.Perm.eq_nil hperm
  subst ey
  refine ⟨p, rfl, ⟨_, SqL.of upd_same⟩, fun F nF => ?_⟩
  refine lc_list (xs := []) (fun i H' => H' = upd (upd H p (.lst [])) F (.lst [])) rfl (fun i H' _ e => by subst e; exact SqL.of (by rw [upd_ne (ne_of_none upd_same nF)]; exact upd_same)) (fun i x H' hx _ => by cases hx) (fun H' e => ?_)
  subst e
  have hD1 : Dr (upd (upd H p (.lst [])) F (.lst [])) d L := (hD.new np).new nF
  have G1 : Go (· = d) H (upd (upd H p (.lst [])) F (.lst [])) := ((Go.refl _ H).new np).new nF
  -- if fit != [] and ..
  refine ⟨_, rfl, Nat.zero_le _, fun e ne => ?_⟩
  have hF : (upd (upd (upd H p (.lst [])) F (.lst [])) e (.lst [])) F = some (.lst []) := by
    rw [upd_ne (ne_of_none upd_same ne)]
    exact upd_same
  refine ⟨.list [], .list [], .lst (SqL.of hF) .nil, .lst (SqL.of upd_same) .nil, by decide +kernel, by decide +kernel, ?_⟩
  have ee : PyData.eqv (.list []) (.list []) = true := by decide +kernel
  rw [ee]
  refine ⟨false, rfl, iteF ?_⟩
  have hD2 := hD1.new (o := .lst []) ne
  have G2 := G1.new (o := .lst []) ne
  refine iteF ?_
  -- return ('step', ..)
  refine ⟨_, rfl, d, L, 5, rfl, hD2, by decide, by decide, fun g3 H3 a3 b3 hD3 hB3 => ?_⟩
  have G3 := G2.trans (Go.but hD2 hB3 (M := (· = d)) rfl)
  refine ⟨_, rfl, d, L, 100, rfl, hD3, by decide, by decide, fun g4 H4 a4 b4 hD4 hB4 => ?_⟩
  have G4 := G3.trans (Go.but hD3 hB4 (M := (· = d)) rfl)
  refine ⟨(by show 2 ≤ sizeLine; decide), fun l nl => ?_⟩
  refine ⟨_, rfl, d, L, 2, rfl, hD4.new nl, by decide, by decide, fun g5 H5 a5 b5 hD5 hB5 => ?_⟩
  have G5 := (G4.new nl).trans (Go.but (hD4.new nl) hB5 (M := (· = d)) rfl)
  have hl : H5 l = some (.lst [.int g3, .int g4]) := by
    rw [hB5 l (hD4.neNew nl).1]
    exact upd_same
  obtain ⟨v, hv, hm⟩ := atI_lt (xs := [V.int g3, .int g4]) a5 b5
  obtain ⟨m, rfl, hm2⟩ := mem_ints2 hm
  refine ⟨l, _, g5, _, rfl, rfl, SqL.of hl, hv, (by show 2 ≤ sizeLine; decide), fun t nt => ?_⟩
  exact q _ (.step m) _ (rp_tup upd_same (rpl_cons rfl (rpl_cons rfl rpl_nil))) (fun _ _ => ⟨by omega, by omega⟩) rfl (hD5.new nt) (G5.new nt)
theorem ok_fresh (T : Tops w K mg) : FnOk P w K mg base CX0 3 T.fl_fresh T.dl_fresh ["_law_draw", "_law_taken"] spFresh := by
  have Gl_take : FnOk P w K mg base CX0 1 T.fl_take T.dl_take ["_law_draw", "_law_sides"] spTake := ok_take T
  have Gl_pick : FnOk P w K mg base CX0 2 T.fl_pick T.dl_pick ["_law_draw", "_law_row"] (spPick K) := ok_pick T
  have Gl_kept_words : FnOk P w K mg base CX0 1 T.fl_kept_words T.dl_kept_words [] spKept := ok_kept T
  refine T.Fl_fresh.ok (k := 2) scl_fresh (fun vs H Q E h => ?_) (fun cdv A outer s H vs Q E hr h => ?_)
  · obtain ⟨d, L, sc, ns, rfl, _⟩ := h
    rfl
  obtain ⟨d, L, sc, ns, rfl, hD, hsc, nsd, hlen, q⟩ := h
  refine ⟨_, (pss_cons (ps_set (i := 2) scl_fresh.nd rfl (Or.inl rfl) (pe_ix ix_list (pe_lst (pa_cons pe_int (pa_cons pe_int (pa_cons pe_int (pa_cons pe_int (pa_cons pe_int (pa_cons (pe_op op_add pe_int (pe_call Gl_take (hr.mono (by omega)) (by rfl) T.gl_take T.Fl_take.kp T.bl_take .nil pass0 (pa_cons (pv 0) (pa_cons pe_int pa_nil)))) pa_nil))))))) (pe_call Gl_take (hr.mono (by omega)) (by rfl) T.gl_take T.Fl_take.kp T.bl_take .nil pass0 (pa_cons (pv 0) (pa_cons pe_int pa_nil))) (fun _ _ => rfl)))
 (pss_cons (ps_set (i := 3) scl_fresh.nd rfl (Or.inl rfl) (pe_join pe_str (pe_lc (own := [("_law_k", 6)]) rfl scl_fresh.nd (pi_range1 (by rfl) T.mrange (pa_cons (pv 2) pa_nil)) (blkOk_by (N := Nl_fresh) (sc := defScope sl_fresh) (by decide +kernel)) (fun _ _ _ _ _ => (pg_name (i := 6) scl_fresh.nd rfl (Or.inl rfl))) (fun _ _ _ _ _ => pts_nil) (fun _ _ _ _ _ => (pe_call Gl_pick (hr.mono (by omega)) (by rfl) T.gl_pick T.Fl_pick.kp T.bl_pick .nil pass0 (pa_cons (pv 0) (pa_cons pe_str pa_nil)))))))
 (pss_cut (ps_if (PW.pt (pw_and (pt_cmpR op_notIn_seq (pv 3) (pv 1) (by rfl)) (pw_and1 (pt_cmpR op_notIn_seq (pv 3) (pe_call0 Gl_kept_words (hr.mono (by omega)) (by rfl) T.gl_kept_words T.Fl_kept_words.kp T.bl_kept_words .nil pass0) (by rfl)))))
  (pss_one (ps_ret (pv 3)))
  pss_nil)
 (pss_cons (ps_setLc (i := 4) (own := [("_law_sign", 5)]) rfl scl_fresh.nd rfl rfl (sw_true rfl rfl rfl (by decide +kernel)) (pi_str pe_str) (blkOk_by (N := Nl_fresh) (sc := defScope sl_fresh) (by decide +kernel)) (fun _ _ _ _ _ => (pg_name (i := 5) scl_fresh.nd rfl (Or.inl rfl))) (fun _ _ _ _ _ => pts_nil) (fun _ _ _ _ _ => (pe_op op_repS (pv 5) pe_int)))
 (pss_one (ps_ret (pe_ix ix_list (pe_lc (own := [("_law_one", 7)]) rfl scl_fresh.nd (pi_list (pv 4)) (blkOk_by (N := Nl_fresh) (sc := defScope sl_fresh) (by decide +kernel)) (fun _ _ _ _ _ => (pg_name (i := 7) scl_fresh.nd rfl (Or.inl rfl))) (fun _ _ _ _ _ => (pts_one (pt_cmpR (op_notIn_seqK (K := K) rfl) (pv 7) (pv 1) (by rfl)))) (fun _ _ _ _ _ => (pv 7))) pe_int (fun _ _ => rfl)))))))), ?_⟩
  -- size
  refine ⟨_, rfl, d, L, 8, rfl, hD, by decide, by decide, fun g1 H1 a1 b1 hD1 hB1 => ?_⟩
  have G1 : Go (· = d) H H1 := Go.but hD hB1 rfl
  refine ⟨1, g1, rfl, rfl, (by show 6 ≤ sizeLine; decide), fun l nl => ?_⟩
  refine ⟨_, rfl, d, L, 6, rfl, hD1.new nl, by decide, by decide, fun g2 H2 a2 b2 hD2 hB2 => ?_⟩
  have G2 : Go (· = d) H H2 := (G1.new nl).trans (Go.but (hD1.new nl) hB2 rfl)
  have hl : H2 l = some (.lst [.int 1, .int 1, .int 2, .int 3, .int 8, .int (1 + g1)]) := by
    rw [hB2 l (hD1.neNew nl).1]
    exact upd_same
  obtain ⟨v, hv, hm⟩ := atI_lt (xs := [V.int 1, .int 1, .int 2, .int 3, .int 8, .int (1 + g1)]) a2 b2
  obtain ⟨m, rfl, hm2⟩ := mem_ints (ns := [1, 1, 2, 3, 8, 1 + g1]) hm
  have m1 : 1 ≤ m ∧ m ≤ 8 := by
    simp only [List.mem_cons, List.not_mem_nil, or_false] at hm2
    omega
  refine ⟨l, _, g2, _, rfl, rfl, SqL.of hl, hv, ?_⟩
  -- name
  refine ⟨⟨_, rfl⟩, _, rfl, m, rfl, by omega, by omega, fun Dn nD => ?_⟩
  refine lc_range (lo := 0) (n := m.toNat) (fun i H' => Dr H' d L ∧ Go (· = d) H H' ∧ ∃ cs : List Nat, cs.length = i ∧ (∀ c ∈ cs, c ∈ abc) ∧ H' Dn = some (.lst ((cs.map fun c => S [c]).map V.str))) ⟨hD2.new nD, G2.new nD, [], rfl, (fun _ h => by cases h), upd_same⟩ (fun j H4 hj hP => ?_) (fun H4 hP => ?_)
  · obtain ⟨hD4, G4, cs, hcs, hab, hl4⟩ := hP
    refine ⟨rfl, yes_go ?_⟩
    refine ⟨_, rfl, d, L, _, 26, rfl, hD4, by decide, by decide, .inl ⟨_, rfl, by decide +kernel, fun c H5 hc hD5 hB5 => ?_⟩⟩
    have nDd := hD2.neNew nD
    have hl5 : H5 Dn = some (.lst ((cs.map fun c => S [c]).map V.str)) := by
      rw [hB5 Dn nDd.1]
      exact hl4
    have nH : H Dn = none := G2.free nD nDd.1
    refine ⟨_, hl5, ?_, hD5.upd nDd.1 nDd.2, (G4.trans (Go.but hD4 hB5 rfl)).own nH, cs ++ [c], ?_, ?_, ?_⟩
    · rw [List.length_map, List.length_map]
      exact szl (by omega)
    · rw [List.length_append, hcs]
      rfl
    · intro x hx
      rcases List.mem_append.mp hx with h1 | h1
      · exact hab x h1
      · rw [List.mem_singleton.mp h1]
        exact hc
    · rw [upd_same, List.map_append, List.map_append]
      rfl
  · obtain ⟨hD4, G4, cs, hcs, hab, hl4⟩ := hP
    refine ⟨_, Dn, cs.map fun c => S [c], rfl, rfl, .inl (SqL.of hl4), ?_, ?_⟩
    · rw [sum_ones, List.length_map]
      have : ("" : Str).length = 0 := by decide +kernel
      rw [this]
      omega
    rw [join_signs]
    have hsc4 := G4.at hsc nsd
    have hcl : 1 ≤ cs.length ∧ cs.length ≤ 8 := by omega
    have flat : ∀ zs : List Str, (zs.map V.str).all flatV = true := fun zs => by
      rw [List.all_eq_true]
      intro x hx
      obtain ⟨z, _, rfl⟩ := List.mem_map.mp hx
      rfl
    refine ⟨fun σ' H' => (∃ x2 x3 x4 x5 x6 x7, σ' = [some (.ref d), some (.ref sc), x2, x3, x4, x5, x6, x7]) ∧ Dr H' d L ∧ Go (· = d) H H', ?_, ?_⟩
    · refine ⟨_, rfl, _, rfl, sc, _, rfl, .inl (SqL.of hsc4), rfl, flat ns, _, rfl, ite2 (fun c1 => ?_) (fun c1 => ?_)⟩
      · refine ⟨_, rfl, rfl, fun p H5 np e5 => ?_⟩
        subst e5
        refine ⟨p, _, rfl, .inl (SqL.of upd_same), rfl, flat kept, _, rfl, ite2 (fun c2 => ?_) (fun c2 => ?_)⟩
        · have n1 : S cs ∉ ns := fun hn => by
            have c3 : (!inV (.str (S cs)) (ns.map V.str)) = true := c1
            rw [inV_str, decide_eq_true hn] at c3
            cases c3
          have n2 : S cs ∉ kept := fun hn => by
            have c3 : (!inV (.str (S cs)) (kept.map V.str)) = true := c2
            rw [inV_str, decide_eq_true hn] at c3
            cases c3
          exact ⟨_, rfl, q _ _ (name_of hcl.1 hcl.2 n2 hab) n1 (hD4.new np) (G4.new np)⟩
        · exact ⟨⟨_, _, _, _, _, _, rfl⟩, hD4.new np, G4.new np⟩
      · exact ⟨⟨_, _, _, _, _, _, rfl⟩, hD4, G4⟩
    · rintro σ' H5 ⟨⟨x2, x3, x4, x5, x6, x7, rfl⟩, hD5, G5⟩
      -- spare
      refine ⟨_, rfl, fun Sp nS => ?_⟩
      refine lc_str_val (fun c => .str (S [c, c])) 5 rfl (fun v => rfl) (by decide +kernel) nS (fun c _ H2 Q2 _ h => ⟨_, rfl, _, 2, rfl, rfl, by decide, by decide, by show 1 * 2 ≤ 100000; decide, h⟩) (fun H6 sm6 hl6 => ?_)
      have hD6 := hD5.same sm6
      have G6 : Go (· = d) H H6 := G5.trans (Go.same sm6)
      have hl6' : H6 Sp = some (.lst (spare.map V.str)) := by
        rw [hl6]
        unfold spare
        rw [List.map_map]
        rfl
      have nS6 := hD5.neNew nS
      -- the first that is not taken
      refine ⟨_, rfl, Sp, rfl, ⟨_, SqL.of hl6'⟩, fun R nR => ?_⟩
      refine lc_list (xs := spare.map V.str) (fun i H' => Same H6 H' ∧ H' R = some (.lst (((spare.take i).filter fun x => !decide (x ∈ ns)).map V.str))) ⟨same_new nR, upd_same⟩ (fun i H' _ hP => SqL.of (hP.1 _ _ hl6')) (fun i x H' hx hP => ?_) (fun H' hP => ?_)
      · obtain ⟨sm, hl7⟩ := hP
        have hx2 : ∃ z, spare[i]? = some z ∧ x = .str z := by
          rw [List.getElem?_map] at hx
          cases hz : spare[i]? with
          | none => rw [hz] at hx; cases hx
          | some z => rw [hz] at hx; exact ⟨z, rfl, (Option.some.inj hx).symm⟩
        obtain ⟨z, hz, rfl⟩ := hx2
        refine ⟨rfl, ?_⟩
        refine ⟨_, rfl, _, rfl, sc, _, rfl, .inl (SqL.of (sm _ _ (G6.at hsc nsd))), rfl, flat ns, _, rfl, ite2 (fun c2 => ?_) (fun c2 => ?_)⟩
        · refine ⟨_, rfl, _, hl7, ?_, Same.upd_new sm nR, ?_⟩
          · rw [List.length_map]
            have h1 : ((spare.take i).filter fun x => !decide (x ∈ ns)).length ≤ (spare.take i).length := List.length_filter_le _ _
            have h2 : (spare.take i).length ≤ spare.length := by rw [List.length_take]; omega
            have h3 : spare.length = 26 := by decide +kernel
            exact szl (by omega)
          · have c3 : (!inV (.str z) (ns.map V.str)) = true := c2
            rw [inV_str] at c3
            rw [upd_same, List.take_add_one, hz, List.filter_append, List.map_append]
            have e : (Option.toList (some z)).filter (fun x => !decide (x ∈ ns)) = [z] := by
              show List.filter (fun x => !decide (x ∈ ns)) [z] = [z]
              rw [List.filter_cons, if_pos c3]
              rfl
            rw [e]
            rfl
        · have c3 : (!inV (.str z) (ns.map V.str)) = false := Bool.eq_false_iff.mpr c2
          rw [inV_str] at c3
          refine ⟨sm, ?_⟩
          rw [hl7, List.take_add_one, hz, List.filter_append]
          have e : (Option.toList (some z)).filter (fun x => !decide (x ∈ ns)) = [] := by
            show List.filter (fun x => !decide (x ∈ ns)) [z] = []
            rw [List.filter_cons, if_neg (by rw [c3]; exact Bool.false_ne_true)]
            rfl
          rw [e, List.append_nil]
      · obtain ⟨sm, hl7⟩ := hP
        rw [List.length_map, List.take_length] at hl7
        have hf : ∃ z r, (spare.filter fun x => !decide (x ∈ ns)) = z :: r ∧ z ∈ spare ∧ z ∉ ns := by
          cases hfl : spare.filter fun x => !decide (x ∈ ns) with
          | nil =>
            obtain ⟨x, hx, hn⟩ := spare_free hlen
            have : x ∈ spare.filter fun x => !decide (x ∈ ns) := List.mem_filter.mpr ⟨hx, by simp [hn]⟩
            rw [hfl] at this
            cases this
          | cons z r =>
            have : z ∈ spare.filter fun x => !decide (x ∈ ns) := by rw [hfl]; exact List.mem_cons_self
            obtain ⟨h1, h2⟩ := List.mem_filter.mp this
            exact ⟨z, r, rfl, h1, by simpa using h2⟩
        obtain ⟨z, r, he, hz1, hz2⟩ := hf
        rw [he] at hl7
        refine ⟨R, _, 0, .str z, rfl, rfl, SqL.of hl7, atI_nat (j := 0) rfl, ?_⟩
        exact q z H' (spare_name hz1) hz2 (hD6.same sm) (G6.trans (Go.same sm))
/-- what drawn_body promises to a thing with n brackets left -/
def prevB : Nat → Sp
  | 0 => fun _ _ _ _ => False
  | m + 1 => spDrawBody m
theorem ok_drawn_thing (T : Tops w K mg) (n : Nat) (Gl_drawn_body : FnOk P w K mg base CX0 (4 + 2 * n) T.fl_drawn_body T.dl_drawn_body ["_law_draw", "_law_kit", "_law_scope", "_law_deep"] (prevB n)) :
    FnOk P w K mg base CX0 (5 + 2 * n) T.fl_drawn_thing T.dl_drawn_thing ["_law_draw", "_law_kit", "_law_scope", "_law_deep"] (spDrawThing n) := by
  have Gl_take : FnOk P w K mg base CX0 1 T.fl_take T.dl_take ["_law_draw", "_law_sides"] spTake := ok_take T
  have Gl_leaf : FnOk P w K mg base CX0 4 T.fl_leaf T.dl_leaf ["_law_draw", "_law_kit", "_law_scope", "_law_deep"] spLeaf := ok_leaf T
  have Gl_some_end : FnOk P w K mg base CX0 3 T.fl_some_end T.dl_some_end ["_law_draw", "_law_scope", "_law_wide"] spSomeEnd := ok_some_end T
  have Gl_fresh : FnOk P w K mg base CX0 3 T.fl_fresh T.dl_fresh ["_law_draw", "_law_taken"] spFresh := ok_fresh T
  have elev : 5 + 2 * n = (4 + 2 * n) + 1 := by omega
  rw [elev]
  refine T.Fl_drawn_thing.ok (k := 4 + 2 * n) scl_drawn_thing (fun vs H Q E h => ?_) (fun cdv A outer s H vs Q E hr h => ?_)
  · obtain ⟨d, L, k, kd, sc, r, fig, wide, ns, rfl, _⟩ := h
    rfl
  obtain ⟨d, L, k, kd, sc, r, fig, wide, ns, rfl, hD, ⟨hk, hkd⟩, nkd, nkL, r1, r2, hsc, nsd, nsk, hSc, hne, hlen, q⟩ := h
  refine ⟨_, (pss_cons (ps_asg (pe_op op_sub (pe_ix ix_list (pv 1) pe_int (fun _ _ => rfl)) pe_int) (pg_sub (pv 1) pe_int set_list))
 (pss_cons (ps_set (i := 4) scl_drawn_thing.nd rfl (Or.inl rfl) (pe_call Gl_take (hr.mono (by omega)) (by rfl) T.gl_take T.Fl_take.kp T.bl_take .nil pass0 (pa_cons (pv 0) (pa_cons pe_int pa_nil))))
 (pss_cons (ps_if (PW.pt (pw_or (pt_cmpR op_lt (pe_ix ix_list (pv 1) pe_int (fun _ _ => rfl)) pe_int (nomark _)) (pw_or (pt_cmpR op_gt (pv 3) pe_int (nomark _)) (pw_or1 (pt_cmpR op_lt (pv 4) pe_int (nomark _))))))
  (pss_one (ps_ret (pe_call Gl_leaf (hr.mono (by omega)) (by rfl) T.gl_leaf T.Fl_leaf.kp T.bl_leaf .nil pass0 (pa_cons (pv 0) (pa_cons (pv 1) (pa_cons (pv 2) (pa_cons (pv 3) pa_nil)))))))
  pss_nil)
 (pss_cut (ps_if (PW.pt (pw_and (pt_cmpR op_eq (pv 4) pe_int (nomark _)) (pw_and1 (pt_val (pe_ix ix_list (pv 1) pe_int (fun _ _ => rfl))))))
  (pss_one (ps_ret (pe_tup (pa_cons pe_str (pa_cons (pe_call Gl_drawn_body (hr.mono (by omega)) (by rfl) T.gl_drawn_body T.Fl_drawn_body.kp T.bl_drawn_body .nil pass0 (pa_cons (pv 0) (pa_cons (pv 1) (pa_cons (pv 2) (pa_cons (pe_op op_add (pv 3) pe_int) pa_nil))))) pa_nil)))))
  pss_nil)
 (pss_cons (ps_par (i := 7) (j := 8) (by rfl) scl_drawn_thing.nd rfl rfl (by decide) rfl rfl (pa_cons (pe_call Gl_some_end (hr.mono (by omega)) (by rfl) T.gl_some_end T.Fl_some_end.kp T.bl_some_end .nil pass0 (pa_cons (pv 0) (pa_cons (pv 2) (pa_cons (pe_ix ix_list (pv 1) pe_int (fun _ _ => rfl)) pa_nil)))) (pa_cons (pe_call Gl_some_end (hr.mono (by omega)) (by rfl) T.gl_some_end T.Fl_some_end.kp T.bl_some_end .nil pass0 (pa_cons (pv 0) (pa_cons (pv 2) (pa_cons (pe_ix ix_list (pv 1) pe_int (fun _ _ => rfl)) pa_nil)))) pa_nil)) (by rfl))
 (pss_cons (ps_if (pt_cmpR op_lt (pv 4) pe_int (nomark _))
  (pss_cons (ps_set (i := 9) scl_drawn_thing.nd rfl (Or.inl rfl) (pe_call Gl_fresh (hr.mono (by omega)) (by rfl) T.gl_fresh T.Fl_fresh.kp T.bl_fresh .nil pass0 (pa_cons (pv 0) (pa_cons (pv 2) pa_nil))))
 (pss_one (ps_ret (pe_tup (pa_cons pe_str (pa_cons (pv 9) (pa_cons (pv 7) (pa_cons (pv 8) (pa_cons (pe_call Gl_drawn_body (hr.mono (by omega)) (by rfl) T.gl_drawn_body T.Fl_drawn_body.kp T.bl_drawn_body .nil pass0 (pa_cons (pv 0) (pa_cons (pv 1) (pa_cons (pe_op op_cat (pv 2) (pe_lst (pa_cons (pv 9) pa_nil))) (pa_cons (pe_op op_add (pv 3) pe_int) pa_nil))))) pa_nil)))))))))
  pss_nil)
 (pss_cons (ps_asg (pe_op op_sub (pe_ix ix_list (pv 1) pe_int (fun _ _ => rfl)) pe_int) (pg_sub (pv 1) pe_int set_list))
 (pss_cons (ps_set (i := 5) scl_drawn_thing.nd rfl (Or.inl rfl) (pe_call Gl_drawn_body (hr.mono (by omega)) (by rfl) T.gl_drawn_body T.Fl_drawn_body.kp T.bl_drawn_body .nil pass0 (pa_cons (pv 0) (pa_cons (pv 1) (pa_cons (pv 2) (pa_cons (pe_op op_add (pv 3) pe_int) pa_nil))))))
 (pss_cons (ps_asg (pe_op op_add (pe_ix ix_list (pv 1) pe_int (fun _ _ => rfl)) pe_int) (pg_sub (pv 1) pe_int set_list))
 (pss_cut (ps_set (i := 6) scl_drawn_thing.nd rfl (Or.inl rfl) (pe_ifExp (pt_cmpR op_eq (pe_call Gl_take (hr.mono (by omega)) (by rfl) T.gl_take T.Fl_take.kp T.bl_take .nil pass0 (pa_cons (pv 0) (pa_cons pe_int pa_nil))) pe_int (nomark _)) (pe_tup pa_nil) (pe_call Gl_drawn_body (hr.mono (by omega)) (by rfl) T.gl_drawn_body T.Fl_drawn_body.kp T.bl_drawn_body .nil pass0 (pa_cons (pv 0) (pa_cons (pv 1) (pa_cons (pv 2) (pa_cons (pe_op op_add (pv 3) pe_int) pa_nil)))))))
 (pss_one (ps_ret (pe_tup (pa_cons pe_str (pa_cons (pv 7) (pa_cons (pv 8) (pa_cons (pv 5) (pa_cons (pv 6) pa_nil)))))))))))))))))), ?_⟩
  have ndk : kd ≠ k := ne_of hkd hk (fun z => by cases z)
  have ndd : kd ≠ d := by
    obtain ⟨zs, i0, i1, i2, z1, _⟩ := hD
    exact ne_of hkd z1 (fun z => by cases z)
  have nMsc : ¬ M2 d k sc := fun z => z.elim nsd nsk
  have nMkd : ¬ M2 d k kd := fun z => z.elim ndd ndk
  -- kit[0] = kit[0] - 1
  refine ⟨_, rfl, k, _, 0, _, rfl, rfl, SqL.of hk, rfl, (r : Int), 1, rfl, rfl, _, rfl, k, _, 0, 0, rfl, rfl, hk, rfl, ?_⟩
  have er : (r : Int) - 1 = ((r - 1 : Nat) : Int) := by omega
  have hk1 : (upd H k (.lst [.int ((r : Int) - 1), .ref kd, .bl fig, .bl wide])) k = some (.lst [.int ((r - 1 : Nat) : Int), .ref kd, .bl fig, .bl wide]) := by rw [upd_same, er]
  have hD1 : Dr (upd H k (.lst [.int ((r : Int) - 1), .ref kd, .bl fig, .bl wide])) d L := hD.upd nkd nkL
  have G1 : Go (M2 d k) H (upd H k (.lst [.int ((r : Int) - 1), .ref kd, .bl fig, .bl wide])) := (Go.refl _ H).set (.inr rfl) hk
  -- fork
  refine ⟨_, rfl, d, L, 9, rfl, hD1, by decide, by decide, fun f H2 f0 f1 hD2 hB2 => ?_⟩
  have G2 : Go (M2 d k) H H2 := G1.trans (Go.but hD1 hB2 (.inl rfl))
  have hk2 : H2 k = some (.lst [.int ((r - 1 : Nat) : Int), .ref kd, .bl fig, .bl wide]) := by
    rw [hB2 k nkd]
    exact hk1
  have hkd2 : H2 kd = some (.dK []) := G2.at hkd nMkd
  have hsc2 : H2 sc = some (.lst (ns.map V.str)) := G2.at hsc nMsc
  have hleaf : spLeaf [.ref d, .ref k, .ref sc, .int (4 - n)] H2 Q E0 := ⟨d, L, k, kd, sc, _, _, fig, wide, rfl, hD2, ⟨hk2, hkd2⟩, nkd, fun v t H3 hR hT hc hD3 G3 =>
    q v 1 (r - 1) H3 ⟨t, hR, hT ns n, hc⟩ (by omega) hD3 ⟨G3.at hk2 nkd, G3.at hkd2 ndd⟩ (G2.trans (G3.mono fun b e => .inl e))⟩
  refine ⟨_, rfl, k, _, 0, _, rfl, rfl, SqL.of hk2, rfl, _, 2, rfl, rfl, _, rfl, ite2 (fun c1 => ?_) (fun c1 => ?_)⟩
  · exact iteT ⟨_, rfl, _, rfl, _, rfl, _, rfl, hleaf⟩
  refine ⟨_, rfl, _, 3, rfl, rfl, _, rfl, ite2 (fun c2 => ?_) (fun c2 => ?_)⟩
  · exact iteT ⟨_, rfl, _, rfl, _, rfl, _, rfl, hleaf⟩
  refine ⟨_, rfl, _, 2, rfl, rfl, _, rfl, ite2 (fun c3 => ?_) (fun c3 => ?_)⟩
  · exact ⟨_, rfl, _, rfl, _, rfl, _, rfl, hleaf⟩
  have d1 : ¬ (((r - 1 : Nat) : Int) < 2) := fun z => c1 (decide_eq_true z)
  have d2 : ¬ ((3 : Int) < 4 - (n : Int)) := fun z => c2 (decide_eq_true z)
  cases n with
  | zero => exact absurd (by decide) d2
  | succ m =>
  have edeep : (4 - ((m + 1 : Nat) : Int) + 1) = 4 - (m : Int) := by omega
  have eargs : ∀ c : Addr, ([.ref d, .ref k, .ref c, .int (4 - ((m + 1 : Nat) : Int) + 1)] : List V) = [.ref d, .ref k, .ref c, .int (4 - (m : Int))] := fun c => by rw [edeep]
  -- double
  refine ⟨fun σ' H' => σ' = [some (.ref d), some (.ref k), some (.ref sc), some (.int (4 - ((m + 1 : Nat) : Int))), some (.int f), none, none, none, none, none] ∧ H' = H2, ?_, ?_⟩
  · refine ⟨_, rfl, rfl, _, rfl, ite2 (fun c4 => ?_) (fun c4 => ?_)⟩
    · refine ⟨_, rfl, k, _, 2, _, rfl, rfl, SqL.of hk2, rfl, fig, rfl, ite2 (fun c5 => ?_) (fun c5 => ?_)⟩
      · refine ⟨_, rfl, _, rfl, _, rfl, _, rfl, _, 1, rfl, rfl, d, L, k, kd, sc, r - 1, fig, wide, ns, eargs sc, hD2, ⟨hk2, hkd2⟩, nkd, nkL, by omega, by omega, hsc2, nsd, nsk, hSc, hne, by omega, fun v c r' H3 hp e hD3 hK3 G3 => ?_⟩
        obtain ⟨ts, hts, hR, hT, hc⟩ := hp
        refine ⟨(by show 2 ≤ sizeLine; decide), fun p np => ?_⟩
        exact q _ (1 + c) r' _ ⟨.twice ts, rp_tup upd_same (rpl_cons rfl (rpl_cons (hR.to (Imm.same (same_new np))) rpl_nil)), ⟨hts, m, rfl, hT⟩, by rw [← hc]; rfl⟩ (by omega) (hD3.new np)
          ⟨same_new np _ _ hK3.1, same_new np _ _ hK3.2⟩ ((G2.trans G3).new np)
      · exact ⟨rfl, rfl⟩
    · exact ⟨rfl, rfl⟩
  rintro σ' H' ⟨rfl, rfl⟩
  -- one, other
  refine ⟨_, rfl, _, rfl, _, rfl, k, _, 3, _, rfl, rfl, SqL.of hk2, rfl, d, L, sc, ns, wide, rfl, hD2, hsc2, nsd, hne, by omega, fun v1 e1 H3 hR1 hE1 hD3 G23 => ?_⟩
  have G3 : Go (M2 d k) H H3 := G2.trans (G23.mono fun b e => .inl e)
  have hk3 := G23.at hk2 nkd
  have hkd3 := G23.at hkd2 ndd
  have hsc3 := G23.at hsc2 nsd
  refine ⟨_, rfl, _, rfl, _, rfl, k, _, 3, _, rfl, rfl, SqL.of hk3, rfl, d, L, sc, ns, wide, rfl, hD3, hsc3, nsd, hne, by omega, fun v2 e2 H4 hR2 hE2 hD4 G34 => ?_⟩
  have G4 : Go (M2 d k) H H4 := G3.trans (G34.mono fun b e => .inl e)
  have hk4 := G34.at hk3 nkd
  have hkd4 := G34.at hkd3 ndd
  have hsc4 := G34.at hsc3 nsd
  have hR1' : Rp H4 v1 (encE e1) := hR1.to G34.im
  refine ⟨_, _, rfl, ?_⟩
  refine ⟨_, rfl, _, 6, rfl, rfl, _, rfl, ite2 (fun c6 => ?_) (fun c6 => ?_)⟩
  · -- for
    refine ⟨_, rfl, _, rfl, d, L, sc, ns, rfl, hD4, hsc4, nsd, by omega, fun x H5 hx hxn hD5 G45 => ?_⟩
    have G5 : Go (M2 d k) H H5 := G4.trans (G45.mono fun b e => .inl e)
    have hk5 := G45.at hk4 nkd
    have hkd5 := G45.at hkd4 ndd
    have hsc5 := G45.at hsc4 nsd
    refine ⟨_, rfl, _, rfl, _, rfl, _, rfl, _, rfl, _, rfl, _, rfl, (by show 1 ≤ sizeLine; decide), fun l nl => ?_⟩
    have s5 : Same H5 (upd H5 l (.lst [.str x])) := same_new nl
    refine ⟨sc, l, _, _, rfl, rfl, s5 _ _ hsc5, upd_same, ?_, fun s2 ns2 => ?_⟩
    · rw [List.length_map]
      show ns.length + 1 ≤ sizeLine
      exact sz (by omega)
    have s6 : Same H5 (upd (upd H5 l (.lst [.str x])) s2 (.lst (ns.map V.str ++ [.str x]))) := s5.trans (same_new ns2)
    have hD6 := (hD5.new (o := .lst [.str x]) nl).new (o := .lst (ns.map V.str ++ [.str x])) ns2
    have nn := (hD5.new (o := .lst [.str x]) nl).neNew ns2
    have n2k : s2 ≠ k := (ne_of_none (s5 _ _ hk5) ns2).symm
    have hs2 : (upd (upd H5 l (.lst [.str x])) s2 (.lst (ns.map V.str ++ [.str x]))) s2 = some (.lst ((ns ++ [x]).map V.str)) := by
      rw [upd_same, List.map_append]
      rfl
    refine ⟨_, rfl, _, 1, rfl, rfl, d, L, k, kd, s2, r - 1, fig, wide, ns ++ [x], eargs s2, hD6, ⟨s6 _ _ hk5, s6 _ _ hkd5⟩, nkd, nkL, by omega, by omega, hs2, nn.1, n2k, scOk_snoc hSc hx, by simp, by rw [List.length_append]; show ns.length + 1 + m ≤ 20; omega, fun v c r' H7 hp e hD7 hK7 G67 => ?_⟩
    obtain ⟨ts, hts, hR, hT, hc⟩ := hp
    have i57 : Imm H5 H7 := (Imm.same s6).trans G67.im
    refine ⟨(by show 5 ≤ sizeLine; decide), fun p np => ?_⟩
    have i7 : Imm H7 (upd H7 p (.tup [.str "for", .str x, v1, v2, v])) := Imm.same (same_new np)
    exact q _ (1 + c) r' _ ⟨.loop x e1 e2 ts, rp_tup upd_same (rpl_cons rfl (rpl_cons rfl (rpl_cons (hR1'.to ((G45.im.trans i57).trans i7)) (rpl_cons (hR2.to ((G45.im.trans i57).trans i7)) (rpl_cons (hR.to i7) rpl_nil))))), ⟨hx, hxn, hE1, hE2, hts, m, rfl, hT⟩, by rw [← hc]; rfl⟩ (by omega) (hD7.new np)
      ⟨same_new np _ _ hK7.1, same_new np _ _ hK7.2⟩ (((G5.trans (Go.same s6)).trans G67).new np)
  · -- if
    refine ⟨_, rfl, k, _, 0, _, rfl, rfl, SqL.of hk4, rfl, _, 1, rfl, rfl, _, rfl, k, _, 0, 0, rfl, rfl, hk4, rfl, ?_⟩
    have er2 : ((r - 1 : Nat) : Int) - 1 = ((r - 2 : Nat) : Int) := by omega
    have hD5 : Dr (upd H4 k (.lst [.int (((r - 1 : Nat) : Int) - 1), .ref kd, .bl fig, .bl wide])) d L := hD4.upd nkd nkL
    have G5 : Go (M2 d k) H (upd H4 k (.lst [.int (((r - 1 : Nat) : Int) - 1), .ref kd, .bl fig, .bl wide])) := G4.set (.inr rfl) hk4
    have i45 : Imm H4 (upd H4 k (.lst [.int (((r - 1 : Nat) : Int) - 1), .ref kd, .bl fig, .bl wide])) := (Imm.refl H4).upd fun xs e => by rw [hk4] at e; cases e
    have hkd5 : (upd H4 k (.lst [.int (((r - 1 : Nat) : Int) - 1), .ref kd, .bl fig, .bl wide])) kd = some (.dK []) := by
      rw [upd_ne ndk]
      exact hkd4
    have hsc5 : (upd H4 k (.lst [.int (((r - 1 : Nat) : Int) - 1), .ref kd, .bl fig, .bl wide])) sc = some (.lst (ns.map V.str)) := by
      rw [upd_ne nsk]
      exact hsc4
    have hk5 : (upd H4 k (.lst [.int (((r - 1 : Nat) : Int) - 1), .ref kd, .bl fig, .bl wide])) k = some (.lst [.int ((r - 2 : Nat) : Int), .ref kd, .bl fig, .bl wide]) := by rw [upd_same, er2]
    refine ⟨_, rfl, _, rfl, _, rfl, _, rfl, _, 1, rfl, rfl, d, L, k, kd, sc, r - 2, fig, wide, ns, eargs sc, hD5, ⟨hk5, hkd5⟩, nkd, nkL, by omega, by omega, hsc5, nsd, nsk, hSc, hne, by omega, fun vb cb rb H6 hp eb hD6 hK6 G56 => ?_⟩
    obtain ⟨bs, hbs, hRb, hTb, hcb⟩ := hp
    have G6 := G5.trans G56
    have i46 : Imm H4 H6 := i45.trans G56.im
    refine ⟨_, rfl, k, _, 0, _, rfl, rfl, SqL.of hK6.1, rfl, _, 1, rfl, rfl, _, rfl, k, _, 0, 0, rfl, rfl, hK6.1, rfl, ?_⟩
    have er3 : ((rb : Nat) : Int) + 1 = ((rb + 1 : Nat) : Int) := by omega
    have hD7 : Dr (upd H6 k (.lst [.int (((rb : Nat) : Int) + 1), .ref kd, .bl fig, .bl wide])) d L := hD6.upd nkd nkL
    have G7 : Go (M2 d k) H (upd H6 k (.lst [.int (((rb : Nat) : Int) + 1), .ref kd, .bl fig, .bl wide])) := G6.set (.inr rfl) hK6.1
    have i67 : Imm H6 (upd H6 k (.lst [.int (((rb : Nat) : Int) + 1), .ref kd, .bl fig, .bl wide])) := (Imm.refl H6).upd fun xs e => by rw [hK6.1] at e; cases e
    have hkd7 : (upd H6 k (.lst [.int (((rb : Nat) : Int) + 1), .ref kd, .bl fig, .bl wide])) kd = some (.dK []) := by
      rw [upd_ne ndk]
      exact hK6.2
    have hsc7 : (upd H6 k (.lst [.int (((rb : Nat) : Int) + 1), .ref kd, .bl fig, .bl wide])) sc = some (.lst (ns.map V.str)) := by
      rw [upd_ne nsk]
      exact G56.at hsc5 nMsc
    have i47 := i46.trans i67
    have hk7 : (upd H6 k (.lst [.int (((rb : Nat) : Int) + 1), .ref kd, .bl fig, .bl wide])) k = some (.lst [.int ((rb + 1 : Nat) : Int), .ref kd, .bl fig, .bl wide]) := by rw [upd_same, er3]
    refine ⟨fun σ' H' => ∃ vy ys ry, σ' = [some (.ref d), some (.ref k), some (.ref sc), some (.int (4 - ((m + 1 : Nat) : Int))), some (.int f), some vb, some vy, some v1, some v2, none] ∧ Rp H' vy (.tup (encs ys)) ∧ TsOk C0 False ns m ys ∧ cntB ys + ry = rb + 1 ∧
      Dr H' d L ∧ Kt H' k kd ry fig wide ∧ Go (M2 d k) H H' ∧ Imm H4 H' ∧ Imm H6 H', ?_, ?_⟩
    · refine ⟨_, rfl, d, L, 2, rfl, hD7, by decide, by decide, fun g H8 a8 b8 hD8 hB8 => ?_⟩
      have G78 : Go (· = d) (upd H6 k (.lst [.int (((rb : Nat) : Int) + 1), .ref kd, .bl fig, .bl wide])) H8 := Go.but hD7 hB8 rfl
      have G8 := G7.trans (G78.mono fun b e => .inl e)
      have hk8 := G78.at hk7 nkd
      have hkd8 := G78.at hkd7 ndd
      have hsc8 := G78.at hsc7 nsd
      refine ⟨rfl, _, rfl, ite2 (fun c7 => ?_) (fun c7 => ?_)⟩
      · refine ⟨Nat.zero_le _, fun p np => ?_⟩
        have s9 : Same H8 (upd H8 p (.tup [])) := same_new np
        exact ⟨.ref p, [], rb + 1, rfl, rp_tup upd_same rpl_nil, trivial, Nat.zero_add _, hD8.new np, ⟨s9 _ _ hk8, s9 _ _ hkd8⟩, G8.new np, (i47.trans G78.im).trans (Imm.same s9), (i67.trans G78.im).trans (Imm.same s9)⟩
      · refine ⟨_, rfl, _, rfl, _, rfl, _, rfl, _, 1, rfl, rfl, d, L, k, kd, sc, rb + 1, fig, wide, ns, eargs sc, hD8, ⟨hk8, hkd8⟩, nkd, nkL, by omega, by omega, hsc8, nsd, nsk, hSc, hne, by omega, fun vy cy ry H9 hp ey hD9 hK9 G89 => ?_⟩
        obtain ⟨ys, hys, hRy, hTy, hcy⟩ := hp
        exact ⟨vy, ys, ry, rfl, hRy, hTy, by omega, hD9, hK9, G8.trans G89, (i47.trans G78.im).trans G89.im, (i67.trans G78.im).trans G89.im⟩
    · rintro σ' H' ⟨vy, ys, ry, rfl, hRy, hTy, ecy, hD9, hK9, G9, i49, i69⟩
      refine ⟨_, rfl, _, rfl, _, rfl, _, rfl, (by show 5 ≤ sizeLine; decide), fun p np => ?_⟩
      have ip : Imm H' (upd H' p (.tup [.str "if", v1, v2, vb, vy])) := Imm.same (same_new np)
      exact q _ (1 + cntB bs + cntB ys) ry _ ⟨.test e1 e2 bs ys, rp_tup upd_same (rpl_cons rfl (rpl_cons (hR1'.to (i49.trans ip)) (rpl_cons (hR2.to (i49.trans ip)) (rpl_cons (hRb.to (i69.trans ip)) (rpl_cons (hRy.to ip) rpl_nil))))), ⟨hE1, hE2, hbs, m, rfl, hTb, hTy⟩, rfl⟩ (by omega) (hD9.new np)
        ⟨same_new np _ _ hK9.1, same_new np _ _ hK9.2⟩ (G9.new np)
theorem ok_drawn_body (T : Tops w K mg) (n : Nat) (Gl_drawn_thing : FnOk P w K mg base CX0 (5 + 2 * n) T.fl_drawn_thing T.dl_drawn_thing ["_law_draw", "_law_kit", "_law_scope", "_law_deep"] (spDrawThing n)) :
    FnOk P w K mg base CX0 (6 + 2 * n) T.fl_drawn_body T.dl_drawn_body ["_law_draw", "_law_kit", "_law_scope", "_law_deep"] (spDrawBody n) := by
  have Gl_take : FnOk P w K mg base CX0 1 T.fl_take T.dl_take ["_law_draw", "_law_sides"] spTake := ok_take T
  have elev : 6 + 2 * n = (5 + 2 * n) + 1 := by omega
  rw [elev]
  refine T.Fl_drawn_body.ok (k := 5 + 2 * n) scl_drawn_body (fun vs H Q E h => ?_) (fun cdv A outer s H vs Q E hr h => ?_)
  · obtain ⟨d, L, k, kd, sc, r, fig, wide, ns, rfl, _⟩ := h
    rfl
  obtain ⟨d, L, k, kd, sc, r, fig, wide, ns, rfl, hD, ⟨hk, hkd⟩, nkd, nkL, r1, r2, hsc, nsd, nsk, hSc, hne, hlen, q⟩ := h
  refine ⟨_, (pss_cons (ps_set (i := 4) scl_drawn_body.nd rfl (Or.inl rfl) (pe_lst (pa_cons (pe_call Gl_drawn_thing (hr.mono (by omega)) (by rfl) T.gl_drawn_thing T.Fl_drawn_thing.kp T.bl_drawn_thing .nil pass0 (pa_cons (pv 0) (pa_cons (pv 1) (pa_cons (pv 2) (pa_cons (pv 3) pa_nil))))) pa_nil)))
 (pss_cons (ps_for PassesOwn.never rfl (pi_range1 (by rfl) T.mrange (pa_cons (pe_call Gl_take (hr.mono (by omega)) (by rfl) T.gl_take T.Fl_take.kp T.bl_take .nil pass0 (pa_cons (pv 0) (pa_cons pe_int pa_nil))) pa_nil)) (pg_name (i := 5) scl_drawn_body.nd rfl (Or.inl rfl))
  (pss_one (ps_if (pt_cmpR op_gt (pe_ix ix_list (pv 1) pe_int (fun _ _ => rfl)) pe_int (nomark _))
  (pss_one (ps_expr (pe_bm PySem.F.plainAttrs_list PySem.F.slot_list_append PySem.F.type_list_append mt_append (pv 4) (pa_cons (pe_call Gl_drawn_thing (hr.mono (by omega)) (by rfl) T.gl_drawn_thing T.Fl_drawn_thing.kp T.bl_drawn_thing .nil pass0 (pa_cons (pv 0) (pa_cons (pv 1) (pa_cons (pv 2) (pa_cons (pv 3) pa_nil))))) pa_nil))))
  pss_nil)))
 (pss_one (ps_ret (pe_callTy call_tuple_of (by rfl) T.mtuple (by decide +kernel) (pa_cons (pv 4) pa_nil)))))), ?_⟩
  have nMsc : ¬ M2 d k sc := fun z => z.elim nsd nsk
  refine ⟨_, rfl, _, rfl, _, rfl, _, rfl, d, L, k, kd, sc, r, fig, wide, ns, rfl, hD, ⟨hk, hkd⟩, nkd, nkL, r1, r2, hsc, nsd, nsk, hSc, hne, hlen, fun v1 c1 ra H1 hp e1 hD1 hK1 G1 => ?_⟩
  obtain ⟨t1, hR1, hT1, hc1⟩ := hp
  refine ⟨(by show 1 ≤ sizeLine; decide), fun F nF => ?_⟩
  have nFH : H F = none := by
    cases hF : H F with
    | none => rfl
    | some o =>
      by_cases hm : M2 d k F
      · rcases hm with rfl | rfl
        · obtain ⟨u, hu⟩ := hD1.some
          rw [hu] at nF
          cases nF
        · rw [hK1.1] at nF
          cases nF
      · rw [G1.sx F o hm hF] at nF
        cases nF
  have nFd := hD1.neNew nF
  have nFk : F ≠ k := (ne_of_none hK1.1 nF).symm
  have hD2 := hD1.new (o := .lst [v1]) nF
  have G2 := G1.new (o := .lst [v1]) nF
  have s2 : Same H1 (upd H1 F (.lst [v1])) := same_new nF
  refine ⟨_, rfl, d, L, 3, rfl, hD2, by decide, by decide, fun g H3 a3 b3 hD3 hB3 => ?_⟩
  have G23 : Go (· = d) (upd H1 F (.lst [v1])) H3 := Go.but hD2 hB3 rfl
  have G3 := G2.trans (G23.mono fun b e => .inl e)
  refine ⟨g, rfl, by omega, by omega, ?_⟩
  have hF3 := G23.at (upd_same : (upd H1 F (.lst [v1])) F = _) nFd.1
  have hk3 := G23.at (s2 _ _ hK1.1) nkd
  have ndd : kd ≠ d := by
    obtain ⟨zs, i0, i1, i2, z1, _⟩ := hD
    exact ne_of hkd z1 (fun z => by cases z)
  have ndk : kd ≠ k := ne_of hkd hk (fun z => by cases z)
  have hkd3 := G23.at (s2 _ _ hK1.2) ndd
  have hR3 : Rp H3 v1 (enc t1) := (hR1.to (Imm.same s2)).to G23.im
  refine for_range (lo := 0) (n := g.toNat) (fun i σ H' => (∃ x5, σ = [some (.ref d), some (.ref k), some (.ref sc), some (.int (4 - (n : Int))), some (.ref F), x5]) ∧ ∃ (us : List V) (ts : List Thing) (r' : Nat), us.length ≤ i + 1 ∧ ts ≠ [] ∧ H' F = some (.lst us) ∧ RpL H' us (encs ts) ∧ TsOk C0 False ns n ts ∧ cntB ts + r' = r ∧
    Dr H' d L ∧ Kt H' k kd r' fig wide ∧ Go (M2 d k) H H') ⟨⟨_, rfl⟩, [v1], [t1], ra, Nat.le_refl _, by simp, hF3, rpl_cons hR3 rpl_nil, ⟨hT1, trivial⟩, by show cntT t1 + 0 + ra = r; omega, hD3, ⟨hk3, hkd3⟩, G3⟩ (fun i σ H4 hi hP => ?_) (fun σ H4 hP => ?_)
  · obtain ⟨⟨x5, rfl⟩, us, ts, r', hus, hts, hF4, hR4, hT4, ec, hD4, hK4, G4⟩ := hP
    refine ⟨_, rfl, k, _, 0, _, rfl, rfl, SqL.of hK4.1, rfl, _, 0, rfl, rfl, _, rfl, ite2 (fun c5 => ?_) (fun c5 => ?_)⟩
    · have hr1 : (0 : Int) < (r' : Int) := of_decide_eq_true c5
      refine ⟨_, rfl, .inl ⟨rfl, _, SqL.of hF4⟩, _, rfl, _, rfl, _, rfl, _, rfl, d, L, k, kd, sc, r', fig, wide, ns, rfl, hD4, hK4, nkd, nkL, by omega, by omega, G4.at hsc nMsc, nsd, nsk, hSc, hne, hlen, fun v c r'' H5 hp e5 hD5 hK5 G45 => ?_⟩
      obtain ⟨t, hR, hT, hc⟩ := hp
      have hF5 := G45.at hF4 (fun z => z.elim nFd.1 nFk)
      have nFL := nFd.2
      refine ⟨F, us, v, rfl, rfl, hF5, szl (by omega), ?_⟩
      have i45 : Imm H4 (upd H5 F (.lst (us ++ [v]))) := G45.im.upd fun xs e => by rw [hF4] at e; cases e
      have i5 : Imm H5 (upd H5 F (.lst (us ++ [v]))) := (Imm.refl H5).upd fun xs e => by rw [hF5] at e; cases e
      refine ⟨⟨_, rfl⟩, us ++ [v], ts ++ [t], r'', ?_, ?_, upd_same, ?_, ?_, ?_, hD5.upd nFd.1 nFL, ⟨?_, ?_⟩, (G4.trans G45).own nFH⟩
      · rw [List.length_append]
        show us.length + 1 ≤ i + 1 + 1
        omega
      · simp
      · rw [encs_append]
        exact (hR4.to i45).append (rpl_cons (hR.to i5) rpl_nil)
      · rw [tsok_iff] at hT4 ⊢
        intro u hu
        rcases List.mem_append.mp hu with h1 | h1
        · exact hT4 u h1
        · rw [List.mem_singleton.mp h1]
          exact hT
      · rw [cntB_append]
        show cntB ts + (cntT t + 0) + r'' = r
        omega
      · rw [upd_ne nFk.symm]
        exact hK5.1
      · have nFkd : kd ≠ F := ne_of hK5.2 hF5 (fun z => by cases z)
        rw [upd_ne nFkd]
        exact hK5.2
    · exact ⟨⟨_, rfl⟩, us, ts, r', by omega, hts, hF4, hR4, hT4, ec, hD4, hK4, G4⟩
  · obtain ⟨⟨x5, rfl⟩, us, ts, r', hus, hts, hF4, hR4, hT4, ec, hD4, hK4, G4⟩ := hP
    refine ⟨_, rfl, F, us, rfl, .inl ⟨SqL.of hF4, fun p np => ?_⟩⟩
    have ip : Imm H4 (upd H4 p (.tup us)) := Imm.same (same_new np)
    exact q _ (cntB ts) r' _ ⟨ts, hts, rp_tup upd_same (hR4.to ip), hT4, rfl⟩ ec (hD4.new np) ⟨same_new np _ _ hK4.1, same_new np _ _ hK4.2⟩ (G4.new np)
theorem fn_none {f : Addr} {fd : FuncData} {k : Nat} {ps : List Str} : FnOk P w K mg base CX0 k f fd ps (fun _ _ _ _ => False) :=
  ⟨fun _ _ _ _ h => h.elim, fun _ _ _ _ _ _ _ _ _ _ _ _ _ h => h.elim⟩
theorem ok_drawing (T : Tops w K mg) : ∀ n : Nat, FnOk P w K mg base CX0 (6 + 2 * n) T.fl_drawn_body T.dl_drawn_body ["_law_draw", "_law_kit", "_law_scope", "_law_deep"] (spDrawBody n)
  | 0 => ok_drawn_body T 0 (ok_drawn_thing T 0 fn_none)
  | n + 1 => ok_drawn_body T (n + 1) (ok_drawn_thing T (n + 1) (by
      have := ok_drawing T n
      rw [show 4 + 2 * (n + 1) = 6 + 2 * n by omega]
      exact this))
theorem ok_drawn (T : Tops w K mg) : FnOk P w K mg base CX0 15 T.fl_drawn T.dl_drawn ["_law_draw", "_law_room", "_law_figures", "_law_wide"] spDrawn := by
  have Gl_drawn_body : FnOk P w K mg base CX0 14 T.fl_drawn_body T.dl_drawn_body ["_law_draw", "_law_kit", "_law_scope", "_law_deep"] (spDrawBody 4) := ok_drawing T 4
  refine T.Fl_drawn.ok (k := 14) scl_drawn (fun vs H Q E h => ?_) (fun cdv A outer s H vs Q E hr h => ?_)
  · obtain ⟨d, L, r, fig, wide, rfl, _⟩ := h
    rfl
  obtain ⟨d, L, r, fig, wide, rfl, hD, r1, r2, q⟩ := h
  refine ⟨_, (pss_one (ps_ret (pe_call Gl_drawn_body (hr.mono (by omega)) (by rfl) T.gl_drawn_body T.Fl_drawn_body.kp T.bl_drawn_body .nil pass0 (pa_cons (pv 0) (pa_cons (pe_lst (pa_cons (pv 1) (pa_cons pe_dnewK (pa_cons (pv 2) (pa_cons (pv 3) pa_nil))))) (pa_cons (pe_lst (pa_cons pe_str pa_nil)) (pa_cons pe_int pa_nil))))))), ?_⟩
  refine ⟨_, rfl, _, rfl, fun kd nkd0 => ?_⟩
  refine ⟨_, rfl, _, rfl, (by show 4 ≤ sizeLine; decide), fun k nk => ?_⟩
  refine ⟨(by show 1 ≤ sizeLine; decide), fun sc nsc => ?_⟩
  have s1 : Same H (upd H kd (.dK [])) := same_new nkd0
  have s2 := s1.trans (same_new (o := .lst [.int r, .ref kd, .bl fig, .bl wide]) nk)
  have s3 := s2.trans (same_new (o := .lst [.str "n"]) nsc)
  have hD1 := hD.new (o := .dK []) nkd0
  have hD2 := hD1.new (o := .lst [.int r, .ref kd, .bl fig, .bl wide]) nk
  have hD3 := hD2.new (o := .lst [.str "n"]) nsc
  have k1 := hD1.neNew nk
  have c1 := hD2.neNew nsc
  have hk : (upd (upd (upd H kd (.dK [])) k (.lst [.int r, .ref kd, .bl fig, .bl wide])) sc (.lst [.str "n"])) k = some (.lst [.int r, .ref kd, .bl fig, .bl wide]) := same_new nsc _ _ upd_same
  have hkd : (upd (upd (upd H kd (.dK [])) k (.lst [.int r, .ref kd, .bl fig, .bl wide])) sc (.lst [.str "n"])) kd = some (.dK []) := same_new nsc _ _ (same_new nk _ _ upd_same)
  have csk : sc ≠ k := (ne_of_none upd_same nsc).symm
  refine ⟨d, L, k, kd, sc, r, fig, wide, ["n"], rfl, hD3, ⟨hk, hkd⟩, k1.1, k1.2, r1, r2, upd_same, c1.1, csk, fun x hx => .inl (List.mem_singleton.mp hx), by simp, by decide, fun v c r' H' hp e hD' hK' G' => ?_⟩
  obtain ⟨ts, hts, hR, hT, hc⟩ := hp
  have nkH : H k = none := s1.free nk
  refine q v ts H' hts hR hT (by omega) hD' ⟨fun b u nb hb => ?_, ?_⟩
  · have n1 : b ≠ k := ne_of_none hb nkH
    exact G'.sx b u (fun z => z.elim nb n1) (s3 b u hb)
  · exact (Imm.same s3).trans G'.im
end
end K03

set_option Elab.async false
set_option linter.all false
set_option maxRecDepth 100000
set_option maxHeartbeats 4000000
namespace K03
open PySem PySem.Spec PyProof.Rows L2 OG
open C8 (pss_cut pe_gc)
section
variable {P : Program} {w : World} {K : PySem.W.Frag} {mg : Str → Option Value} {base : Heap}
theorem plain_of {K : PySem.W.Frag} {v : V} (h : flatV v = true) (hn : v ≠ .non) : ∃ (t : String) (b1 b2 b3 : Bool), (∀ H', TyX K H' v (.type t)) ∧ kitB t "list" = some false ∧ kitB t "tuple" = some false ∧ kitB t "bool" = some b1 ∧ kitB t "int" = some b2 ∧ kitB t "str" = some b3 ∧ scal v v = true := by
  cases v with
  | non => exact absurd rfl hn
  | bl b => exact ⟨"bool", true, true, false, fun _ => .base (.bl b), by decide +kernel, by decide +kernel, by decide +kernel, by decide +kernel, by decide +kernel, rfl⟩
  | int i => exact ⟨"int", false, true, false, fun _ => .base (.int i), by decide +kernel, by decide +kernel, by decide +kernel, by decide +kernel, by decide +kernel, rfl⟩
  | str z => exact ⟨"str", false, false, true, fun _ => .base (.str z), by decide +kernel, by decide +kernel, by decide +kernel, by decide +kernel, by decide +kernel, rfl⟩
  | byt _ => cases h
  | flt _ => cases h
  | ref _ => cases h
  | ty _ => cases h
theorem ok_same1 (T : Tops w K mg) (n : Nat) (Gl_same : FnOk P w K mg base CX0 n T.fl_same T.dl_same ["_law_found", "_law_due"] (prevS n)) : FnOk P w K mg base CX0 (n + 1) T.fl_same T.dl_same ["_law_found", "_law_due"] (spSame n) := by
  refine T.Fl_same.ok (k := n) scl_same (fun vs H Q E h => ?_) (fun cdv A outer s H vs Q E hr h => ?_)
  · obtain ⟨v, w, rfl, _⟩ := h
    rfl
  obtain ⟨v, w, rfl, hE, q⟩ := h
  refine ⟨_, (pss_cons (ps_if (pt_val (pe_callB call_isiT (by rfl) T.misinstance (by decide +kernel) (pa_cons (pv 1) (pa_cons (pe_tup (pa_cons (pe_bltn (v := .ty "list") (by rfl) T.mlist (by decide +kernel) rfl) (pa_cons (pe_bltn (v := .ty "tuple") (by rfl) T.mtuple (by decide +kernel) rfl) pa_nil))) pa_nil))))
  (pss_cons (ps_if (PW.pt (pw_or (pt_cmpR op_ne (pe_callB call_isi (by rfl) T.misinstance (by decide +kernel) (pa_cons (pv 0) (pa_cons (pe_bltn (v := .ty "list") (by rfl) T.mlist (by decide +kernel) rfl) pa_nil))) (pe_callB call_isi (by rfl) T.misinstance (by decide +kernel) (pa_cons (pv 1) (pa_cons (pe_bltn (v := .ty "list") (by rfl) T.mlist (by decide +kernel) rfl) pa_nil))) (nomark _)) (pw_or1 (pt_not (pt_val (pe_callB call_isiT (by rfl) T.misinstance (by decide +kernel) (pa_cons (pv 0) (pa_cons (pe_tup (pa_cons (pe_bltn (v := .ty "list") (by rfl) T.mlist (by decide +kernel) rfl) (pa_cons (pe_bltn (v := .ty "tuple") (by rfl) T.mtuple (by decide +kernel) rfl) pa_nil))) pa_nil))))))))
  (pss_one (ps_ret pe_bl))
  pss_nil)
 (pss_one (ps_ret (pe_and (pe_cmpR op_eq (pe_callB call_len (by rfl) T.mlen PySem.boot_len (pa_cons (pv 0) pa_nil)) (pe_callB call_len (by rfl) T.mlen PySem.boot_len (pa_cons (pv 1) pa_nil)) (nomark _)) (pe_one (pe_callB (cr_all rfl) (by rfl) T.mall (by decide +kernel) (pa_cons (pe_lc (own := [("_law_one", 2), ("_law_other", 3)]) rfl scl_same.nd (RZ.pi_zipA (by rfl) T.mzip (pa_cons (pv 0) (pa_cons (pv 1) pa_nil))) (blkOk_by (N := Nl_same) (sc := defScope sl_same) (by decide +kernel)) (fun _ _ _ _ _ => (pg_tupK (K := K) (n := 2) rfl rfl (pgs_cons (pg_name (i := 2) scl_same.nd rfl (Or.inl rfl)) (pgs_cons (pg_name (i := 3) scl_same.nd rfl (Or.inl rfl)) pgs_nil)))) (fun _ _ _ _ _ => pts_nil) (fun _ _ _ _ _ => (pe_call Gl_same (hr.mono (by omega)) (by rfl) T.gl_same T.Fl_same.kp T.bl_same .nil pass0 (pa_cons (pv 2) (pa_cons (pv 3) pa_nil))))) pa_nil)))))))
  pss_nil)
 (pss_cons (ps_if (pt_cmpR op_isN (pv 1) pe_non (nomark _))
  (pss_one (ps_ret (pe_cmpR op_isN (pv 0) pe_non (nomark _))))
  pss_nil)
 (pss_cons (ps_if (PW.pt (pw_or (pt_cmpR op_ne (pe_callB call_isi (by rfl) T.misinstance (by decide +kernel) (pa_cons (pv 0) (pa_cons (pe_bltn (v := .ty "bool") (by rfl) T.mbool (by decide +kernel) rfl) pa_nil))) (pe_callB call_isi (by rfl) T.misinstance (by decide +kernel) (pa_cons (pv 1) (pa_cons (pe_bltn (v := .ty "bool") (by rfl) T.mbool (by decide +kernel) rfl) pa_nil))) (nomark _)) (pw_or1 (pt_cmpR op_ne (pe_callB call_isi (by rfl) T.misinstance (by decide +kernel) (pa_cons (pv 0) (pa_cons (pe_bltn (v := .ty "int") (by rfl) T.mint (by decide +kernel) rfl) pa_nil))) (pe_callB call_isi (by rfl) T.misinstance (by decide +kernel) (pa_cons (pv 1) (pa_cons (pe_bltn (v := .ty "int") (by rfl) T.mint (by decide +kernel) rfl) pa_nil))) (nomark _)))))
  (pss_one (ps_ret pe_bl))
  pss_nil)
 (pss_one (ps_ret (pe_and (pe_cmpR op_eq (pe_callB call_isi (by rfl) T.misinstance (by decide +kernel) (pa_cons (pv 0) (pa_cons (pe_bltn (v := .ty "str") (by rfl) T.mstr (by decide +kernel) rfl) pa_nil))) (pe_callB call_isi (by rfl) T.misinstance (by decide +kernel) (pa_cons (pv 1) (pa_cons (pe_bltn (v := .ty "str") (by rfl) T.mstr (by decide +kernel) rfl) pa_nil))) (nomark _)) (pe_one (pe_cmpR op_eq (pv 0) (pv 1) (nomark _))))))))), ?_⟩
  have kI : ∀ (t c : String) (r : Bool), kitB t c = some r → PySem.W.kitOne K (.type t) (.type c) = some r := fun t c r h => kit_ty h
  have split : (v = w ∧ flatV v = true) ∨ ∃ (m : Nat) (a b : Addr) (vs ws : List V), n = m + 1 ∧ v = .ref a ∧ w = .ref b ∧ ((H a = some (.tup vs) ∧ H b = some (.tup ws)) ∨ (H a = some (.lst vs) ∧ H b = some (.lst ws))) ∧ vs.length = ws.length ∧ vs.length < 100000 ∧
      ∀ (i : Nat) x y, vs[i]? = some x → ws[i]? = some y → Eq2 H m x y := by
    cases n with
    | zero => exact .inl hE
    | succ m =>
      rcases hE with h | ⟨a, b, vs, ws, h⟩
      · exact .inl h
      · exact .inr ⟨m, a, b, vs, ws, rfl, h⟩
  rcases split with ⟨rfl, hf⟩ | ⟨m, a, b, vs, ws, rfl, rfl, rfl, hab, hl, hz, hi⟩
  · by_cases hn : v = .non
    · subst hn
      refine ⟨_, rfl, (by show 2 ≤ sizeLine; decide), fun p np => ?_⟩
      refine ⟨.non, p, [.ty "list", .ty "tuple"], .type "NoneType", [.type "list", .type "tuple"], false, rfl, upd_same, .cons (.ty _) (.cons (.ty _) .nil), .base .non,
        kitAny_cons (kI "NoneType" "list" false (by decide +kernel)) (fun _ => kitAny_cons (kI "NoneType" "tuple" false (by decide +kernel)) (fun _ => rfl) (fun z => nomatch z)) (fun z => nomatch z), false, rfl, iteF ?_⟩
      refine ⟨_, rfl, rfl, _, rfl, iteT ?_⟩
      exact ⟨_, rfl, rfl, q _ (same_new np)⟩
    · obtain ⟨t, b1, b2, b3, ty, k1, k2, k3, k4, k5, hs⟩ := plain_of (K := K) hf hn
      refine ⟨_, rfl, (by show 2 ≤ sizeLine; decide), fun p np => ?_⟩
      refine ⟨v, p, [.ty "list", .ty "tuple"], .type t, [.type "list", .type "tuple"], false, rfl, upd_same, .cons (.ty _) (.cons (.ty _) .nil), ty _,
        kitAny_cons (kI t "list" false k1) (fun _ => kitAny_cons (kI t "tuple" false k2) (fun _ => rfl) (fun z => nomatch z)) (fun z => nomatch z), false, rfl, iteF ?_⟩
      have dn : ¬ decide (v = V.non) = true := fun z => hn (of_decide_eq_true z)
      have same2 : ∀ b : Bool, ¬ (!decide (V.bl b = V.bl b)) = true := fun b => by rw [decide_eq_true rfl]; exact Bool.false_ne_true
      refine ⟨_, rfl, rfl, _, rfl, ite2 (fun z => absurd z dn) (fun _ => ?_)⟩
      refine ⟨_, rfl, v, .ty "bool", .type t, _, b1, rfl, .ty _, ty _, kI t "bool" b1 k3, _, rfl, v, .ty "bool", .type t, _, b1, rfl, .ty _, ty _, kI t "bool" b1 k3, rfl, _, rfl, ite2 (fun z => absurd z (same2 b1)) (fun _ => ?_)⟩
      refine ⟨_, rfl, v, .ty "int", .type t, _, b2, rfl, .ty _, ty _, kI t "int" b2 k4, _, rfl, v, .ty "int", .type t, _, b2, rfl, .ty _, ty _, kI t "int" b2 k4, rfl, _, rfl, ite2 (fun z => absurd z (same2 b2)) (fun _ => ?_)⟩
      refine ⟨_, rfl, v, .ty "str", .type t, _, b3, rfl, .ty _, ty _, kI t "str" b3 k5, _, rfl, v, .ty "str", .type t, _, b3, rfl, .ty _, ty _, kI t "str" b3 k5, rfl, _, rfl, ite2 (fun _ => ?_) (fun z => absurd (decide_eq_true rfl) z)⟩
      refine ⟨_, rfl, _, rfl, hs, ?_⟩
      rw [decide_eq_true rfl]
      exact q _ (same_new np)
  · rcases hab with ⟨ha, hb⟩ | ⟨ha, hb⟩
    · -- two tuples
      refine ⟨_, rfl, (by show 2 ≤ sizeLine; decide), fun p np => ?_⟩
      have s1 : Same H (upd H p (.tup [.ty "list", .ty "tuple"])) := same_new np
      have ka : PySem.W.kitAny K (.type "tuple") [.type "list", .type "tuple"] = some true := kitAny_cons (kI "tuple" "list" false (by decide +kernel)) (fun _ => kitAny_cons (kI "tuple" "tuple" true (by decide +kernel)) (fun z => nomatch z) (fun _ => rfl)) (fun _ => rfl)
      refine ⟨.ref b, p, [.ty "list", .ty "tuple"], .type "tuple", [.type "list", .type "tuple"], true, rfl, upd_same, .cons (.ty _) (.cons (.ty _) .nil), .base (.tup (s1 _ _ hb)), ka, true, rfl, iteT ?_⟩
      refine ⟨_, rfl, .ref a, .ty "list", .type "tuple", _, false, rfl, .ty _, .base (.tup (s1 _ _ ha)), kI "tuple" "list" false (by decide +kernel), _, rfl, .ref b, .ty "list", .type "tuple", _, false, rfl, .ty _, .base (.tup (s1 _ _ hb)), kI "tuple" "list" false (by decide +kernel), rfl, _, rfl, iteF ?_⟩
      refine ⟨_, rfl, (by show 2 ≤ sizeLine; decide), fun p2 np2 => ?_⟩
      have s2 := s1.trans (same_new (o := .tup [.ty "list", .ty "tuple"]) np2)
      refine ⟨.ref a, p2, [.ty "list", .ty "tuple"], .type "tuple", [.type "list", .type "tuple"], true, rfl, upd_same, .cons (.ty _) (.cons (.ty _) .nil), .base (.tup (s2 _ _ ha)), ka, true, rfl, iteF ?_⟩
      refine ⟨_, rfl, .ref a, vs.length, rfl, .inr ⟨_, SqT.of (s2 _ _ ha), rfl⟩, _, rfl, .ref b, ws.length, rfl, .inr ⟨_, SqT.of (s2 _ _ hb), rfl⟩, rfl, _, rfl, ite2 (fun _ => ?_) (fun z => absurd (decide_eq_true (by rw [hl])) z)⟩
      refine ⟨_, rfl, _, rfl, a, b, vs, ws, rfl, .inr ⟨SqT.of (s2 _ _ ha), SqT.of (s2 _ _ hb), fun Dn nD => ?_⟩⟩
      have nDH : H Dn = none := s2.free nD
      refine lc_it (walk_zipT (K := K) (xs := vs) (ys := ws) (n := vs.length) (by omega)) (fun i H' => Same H H' ∧ H' Dn = some (.lst ((List.replicate i true).map V.bl))) ⟨s2.trans (same_new nD), upd_same⟩ (fun i H' _ hP => ⟨SqT.of (hP.1 _ _ ha), SqT.of (hP.1 _ _ hb)⟩) (fun i x H' H'' hlt hP hY => ?_) (fun H' hP => ?_)
      · obtain ⟨sm, hD⟩ := hP
        obtain ⟨Tn, x1, x2, rfl, nT, rfl, g1, g2⟩ := hY
        have sT : Same H' (upd H' Tn (.tup [x1, x2])) := same_new nT
        refine ⟨Tn, [x1, x2], rfl, SqT.of upd_same, rfl, x1, [x2], rfl, x2, [], rfl, rfl, rfl, yes_go ?_⟩
        refine ⟨_, rfl, _, rfl, x1, x2, rfl, Eq2.same (sm.trans sT) (hi i x1 x2 g1 g2), fun H3 s3 => ?_⟩
        refine ⟨_, s3 _ _ (sT _ _ hD), ?_, Same.upd_new ((sm.trans sT).trans s3) nDH, ?_⟩
        · rw [List.length_map, List.length_replicate]
          exact szl (by omega)
        · rw [upd_same, List.replicate_succ', List.map_append]
          rfl
      · obtain ⟨sm, hD⟩ := hP
        refine ⟨Dn, List.replicate vs.length true, rfl, SqL.of hD, ?_⟩
        rw [all_trues]
        exact q _ sm
    · -- two lists
      refine ⟨_, rfl, (by show 2 ≤ sizeLine; decide), fun p np => ?_⟩
      have s1 : Same H (upd H p (.tup [.ty "list", .ty "tuple"])) := same_new np
      have ka : PySem.W.kitAny K (.type "list") [.type "list", .type "tuple"] = some true := kitAny_cons (kI "list" "list" true (by decide +kernel)) (fun z => nomatch z) (fun _ => rfl)
      refine ⟨.ref b, p, [.ty "list", .ty "tuple"], .type "list", [.type "list", .type "tuple"], true, rfl, upd_same, .cons (.ty _) (.cons (.ty _) .nil), .base (.lst (s1 _ _ hb)), ka, true, rfl, iteT ?_⟩
      refine ⟨_, rfl, .ref a, .ty "list", .type "list", _, true, rfl, .ty _, .base (.lst (s1 _ _ ha)), kI "list" "list" true (by decide +kernel), _, rfl, .ref b, .ty "list", .type "list", _, true, rfl, .ty _, .base (.lst (s1 _ _ hb)), kI "list" "list" true (by decide +kernel), rfl, _, rfl, iteF ?_⟩
      refine ⟨_, rfl, (by show 2 ≤ sizeLine; decide), fun p2 np2 => ?_⟩
      have s2 := s1.trans (same_new (o := .tup [.ty "list", .ty "tuple"]) np2)
      refine ⟨.ref a, p2, [.ty "list", .ty "tuple"], .type "list", [.type "list", .type "tuple"], true, rfl, upd_same, .cons (.ty _) (.cons (.ty _) .nil), .base (.lst (s2 _ _ ha)), ka, true, rfl, iteF ?_⟩
      refine ⟨_, rfl, .ref a, vs.length, rfl, .inl ⟨_, SqL.of (s2 _ _ ha), rfl⟩, _, rfl, .ref b, ws.length, rfl, .inl ⟨_, SqL.of (s2 _ _ hb), rfl⟩, rfl, _, rfl, ite2 (fun _ => ?_) (fun z => absurd (decide_eq_true (by rw [hl])) z)⟩
      refine ⟨_, rfl, _, rfl, a, b, vs, ws, rfl, .inl ⟨SqL.of (s2 _ _ ha), SqL.of (s2 _ _ hb), fun Dn nD => ?_⟩⟩
      have nDH : H Dn = none := s2.free nD
      refine lc_it (walk_zip (K := K) (xs := vs) (ys := ws) (n := vs.length) (by omega)) (fun i H' => Same H H' ∧ H' Dn = some (.lst ((List.replicate i true).map V.bl))) ⟨s2.trans (same_new nD), upd_same⟩ (fun i H' _ hP => ⟨SqL.of (hP.1 _ _ ha), SqL.of (hP.1 _ _ hb)⟩) (fun i x H' H'' hlt hP hY => ?_) (fun H' hP => ?_)
      · obtain ⟨sm, hD⟩ := hP
        obtain ⟨Tn, x1, x2, rfl, nT, rfl, g1, g2⟩ := hY
        have sT : Same H' (upd H' Tn (.tup [x1, x2])) := same_new nT
        refine ⟨Tn, [x1, x2], rfl, SqT.of upd_same, rfl, x1, [x2], rfl, x2, [], rfl, rfl, rfl, yes_go ?_⟩
        refine ⟨_, rfl, _, rfl, x1, x2, rfl, Eq2.same (sm.trans sT) (hi i x1 x2 g1 g2), fun H3 s3 => ?_⟩
        refine ⟨_, s3 _ _ (sT _ _ hD), ?_, Same.upd_new ((sm.trans sT).trans s3) nDH, ?_⟩
        · rw [List.length_map, List.length_replicate]
          exact szl (by omega)
        · rw [upd_same, List.replicate_succ', List.map_append]
          rfl
      · obtain ⟨sm, hD⟩ := hP
        refine ⟨Dn, List.replicate vs.length true, rfl, SqL.of hD, ?_⟩
        rw [all_trues]
        exact q _ sm
theorem ok_same (T : Tops w K mg) : ∀ n : Nat, FnOk P w K mg base CX0 (n + 1) T.fl_same T.dl_same ["_law_found", "_law_due"] (spSame n)
  | 0 => ok_same1 T 0 fn_none
  | n + 1 => ok_same1 T (n + 1) (ok_same T n)
end
end K03

set_option Elab.async false
set_option linter.all false
set_option maxRecDepth 100000
set_option maxHeartbeats 4000000
namespace K03
open PySem PySem.Spec PyProof.Rows L2 OG
open C8 (pss_cut pe_gc)
section
variable {P : Program} {w : World} {K : PySem.W.Frag} {mg : Str → Option Value} {base : Heap}
theorem ok_l_end_text (T : Tops w K mg) : FnOk P w K mg base CX0 1 T.fl_end_text T.dl_end_text ["_law_end"] spEndText := by
  refine T.Fl_end_text.ok (k := 0) scl_end_text (fun vs H Q E h => ?_) (fun cdv A outer s H vs Q E hr h => ?_)
  · obtain ⟨v, e, rfl, _⟩ := h
    rfl
  obtain ⟨v, e, rfl, hR, hl, h1, h2, q⟩ := h
  refine ⟨_, (pss_cons (ps_if (pt_cmpR op_eq (pe_ix ix_tup (pv 0) pe_int (fun _ _ => rfl)) pe_str (nomark _))
  (pss_one (ps_ret (pe_callTy call_str_int (by rfl) T.mstr (by decide +kernel) (pa_cons (pe_ix ix_tup (pv 0) pe_int (fun _ _ => rfl)) pa_nil))))
  pss_nil)
 (pss_cons (ps_if (pt_cmpR op_eq (pe_ix ix_tup (pv 0) pe_int (fun _ _ => rfl)) pe_int (nomark _))
  (pss_one (ps_ret (pe_ix ix_tup (pv 0) pe_int (fun _ _ => rfl))))
  pss_nil)
 (pss_one (ps_ret (pe_op op_add_str (pe_op op_add_str (pe_ix ix_tup (pv 0) pe_int (fun _ _ => rfl)) (pe_ix ix_list (pe_lst (pa_cons pe_str (pa_cons pe_str pa_nil))) (pe_callTy call_int1 (by rfl) T.mint (by decide +kernel) (pa_cons (pe_cmpR op_lt (pe_ix ix_tup (pv 0) pe_int (fun _ _ => rfl)) pe_int (nomark _)) pa_nil)) (fun _ _ => rfl))) (pe_callTy call_str_int (by rfl) T.mstr (by decide +kernel) (pa_cons (pe_callB call_abs (by rfl) T.mabs (by decide +kernel) (pa_cons (pe_ix ix_tup (pv 0) pe_int (fun _ _ => rfl)) pa_nil)) pa_nil))))))), ?_⟩
  obtain ⟨a, v1, v2, rfl, ha, rfl, rfl⟩ := rp_t2 hR
  have q0 := q H (Same.refl H)
  have n1 := numL_len h1 h2
  have n2 := numL_len (i := -e.2) (by omega) (by omega)
  refine ⟨_, rfl, a, _, 0, _, rfl, rfl, SqT.of ha, rfl, rfl, _, rfl, ite2 (fun c1 => ?_) (fun c1 => ?_)⟩
  · have e1 : e.1 = "" := V.str.inj (of_decide_eq_true c1)
    refine ⟨_, rfl, a, _, 1, _, rfl, rfl, SqT.of ha, rfl, e.2, rfl, int_log h1 h2, str_to (Q := Q) q0 ?_⟩
    unfold endL
    rw [if_pos e1]
    rfl
  have e1 : ¬ e.1 = "" := fun z => c1 (decide_eq_true (by rw [z]))
  refine ⟨_, rfl, a, _, 1, _, rfl, rfl, SqT.of ha, rfl, rfl, _, rfl, ite2 (fun c2 => ?_) (fun c2 => ?_)⟩
  · have e2 : e.2 = 0 := V.int.inj (of_decide_eq_true c2)
    refine ⟨_, rfl, a, _, 0, _, rfl, rfl, SqT.of ha, rfl, str_to (Q := Q) q0 ?_⟩
    unfold endL
    rw [if_neg e1, if_pos e2]
  have e2 : ¬ e.2 = 0 := fun z => c2 (decide_eq_true (by rw [z]))
  refine ⟨_, rfl, a, _, 0, _, rfl, rfl, SqT.of ha, rfl, (by show 2 ≤ sizeLine; decide), fun l nl => ?_⟩
  have s1 : Same H (upd H l (.lst [.str " + ", .str " - "])) := same_new nl
  refine ⟨_, rfl, a, _, 1, _, rfl, rfl, SqT.of (s1 _ _ ha), rfl, e.2, 0, rfl, rfl, .inr ⟨_, rfl, ?_⟩⟩
  by_cases c3 : e.2 < 0
  · rw [decide_eq_true c3]
    refine ⟨l, _, _, .str " - ", rfl, rfl, SqL.of upd_same, rfl, e.1, _, rfl, rfl, szc (by rw [l_minus]; omega), _, rfl, a, _, 1, _, rfl, rfl, SqT.of (s1 _ _ ha), rfl, e.2, rfl, _, rfl, ?_⟩
    rw [if_pos c3]
    refine ⟨int_log (by omega) (by omega), _, _, rfl, rfl, szc (by rw [len_app, l_minus]; omega), str_to (Q := Q) (q _ s1) ?_⟩
    unfold endL
    rw [if_neg e1, if_neg e2, if_neg (by omega)]
    simp only [tl_app, tl_S]
    rfl
  · rw [decide_eq_false c3]
    refine ⟨l, _, _, .str " + ", rfl, rfl, SqL.of upd_same, rfl, e.1, _, rfl, rfl, szc (by rw [l_plus]; omega), _, rfl, a, _, 1, _, rfl, rfl, SqT.of (s1 _ _ ha), rfl, e.2, rfl, _, rfl, ?_⟩
    rw [if_neg c3]
    refine ⟨int_log (by omega) (by omega), _, _, rfl, rfl, szc (by rw [len_app, l_plus]; omega), str_to (Q := Q) (q _ s1) ?_⟩
    unfold endL
    rw [if_neg e1, if_neg e2, if_pos (by omega)]
    simp only [tl_app, tl_S]
    rfl
theorem no_word {x y : Str} (h : decide (x = y) = false) : ¬ decide (V.str x = V.str y) = true := fun z => by
  have e := V.str.inj (of_decide_eq_true z)
  rw [decide_eq_true e] at h
  cases h
/-- what written promises to a thing with n brackets left -/
def prevW : Nat → Sp
  | 0 => fun _ _ _ _ => False
  | m + 1 => spPlanText m
theorem ok_l_thing_text (T : Tops w K mg) (n : Nat) (hn20 : n ≤ 20) (Gl_written : FnOk P w K mg base CX0 (2 * n + 1) T.fl_written T.dl_written ["_law_plan"] (prevW n)) : FnOk P w K mg base CX0 (2 * n + 2) T.fl_thing_text T.dl_thing_text ["_law_thing"] (spThingText n) := by
  have Gl_end_text : FnOk P w K mg base CX0 1 T.fl_end_text T.dl_end_text ["_law_end"] spEndText := ok_l_end_text T
  refine T.Fl_thing_text.ok (k := 2 * n + 1) scl_thing_text (fun vs H Q E h => ?_) (fun cdv A outer s H vs Q E hr h => ?_)
  · obtain ⟨v, t, C, A', sc, rfl, _⟩ := h
    rfl
  obtain ⟨v, t, C, A', sc, rfl, hR, hT, hs, hc, q⟩ := h
  refine ⟨_, (pss_cons (ps_set (i := 1) scl_thing_text.nd rfl (Or.inl rfl) (pe_ix ix_tup (pv 0) pe_int (fun _ _ => rfl)))
 (pss_cons (ps_if (pt_cmpR op_eq (pv 1) pe_str (nomark _))
  (pss_one (ps_ret (pe_op op_add_str pe_str (pe_callTy call_str_int (by rfl) T.mstr (by decide +kernel) (pa_cons (pe_ix ix_tup (pv 0) pe_int (fun _ _ => rfl)) pa_nil)))))
  pss_nil)
 (pss_cons (ps_if (pt_cmpR op_eq (pv 1) pe_str (nomark _))
  (pss_one (ps_ret (pe_op op_add_str (pe_op op_add_str pe_str (pe_call Gl_written (hr.mono (by omega)) (by rfl) T.gl_written T.Fl_written.kp T.bl_written .nil pass0 (pa_cons (pe_ix ix_tup (pv 0) pe_int (fun _ _ => rfl)) pa_nil))) pe_str)))
  pss_nil)
 (pss_cons (ps_if (pt_cmpR op_eq (pv 1) pe_str (nomark _))
  (pss_one (ps_ret (pe_op op_add_str (pe_op op_add_str (pe_op op_add_str pe_str (pe_ix ix_tup (pv 0) pe_int (fun _ _ => rfl))) pe_str) (pe_call Gl_end_text (hr.mono (by omega)) (by rfl) T.gl_end_text T.Fl_end_text.kp T.bl_end_text .nil pass0 (pa_cons (pe_ix ix_tup (pv 0) pe_int (fun _ _ => rfl)) pa_nil)))))
  pss_nil)
 (pss_cons (ps_if (pt_cmpR op_eq (pv 1) pe_str (nomark _))
  (pss_one (ps_ret (pe_op op_add_str (pe_op op_add_str (pe_op op_add_str pe_str (pe_callTy call_str_int (by rfl) T.mstr (by decide +kernel) (pa_cons (pe_ix ix_tup (pv 0) pe_int (fun _ _ => rfl)) pa_nil))) pe_str) (pe_ix ix_tup (pv 0) pe_int (fun _ _ => rfl)))))
  pss_nil)
 (pss_cons (ps_if (pt_cmpR op_eq (pv 1) pe_str (nomark _))
  (pss_cons (ps_set (i := 3) scl_thing_text.nd rfl (Or.inl rfl) (pe_op op_add_str (pe_op op_add_str (pe_op op_add_str (pe_op op_add_str (pe_op op_add_str pe_str (pe_ix ix_tup (pv 0) pe_int (fun _ _ => rfl))) pe_str) (pe_call Gl_end_text (hr.mono (by omega)) (by rfl) T.gl_end_text T.Fl_end_text.kp T.bl_end_text .nil pass0 (pa_cons (pe_ix ix_tup (pv 0) pe_int (fun _ _ => rfl)) pa_nil))) pe_str) (pe_call Gl_end_text (hr.mono (by omega)) (by rfl) T.gl_end_text T.Fl_end_text.kp T.bl_end_text .nil pass0 (pa_cons (pe_ix ix_tup (pv 0) pe_int (fun _ _ => rfl)) pa_nil))))
 (pss_one (ps_ret (pe_op op_add_str (pe_op op_add_str (pe_op op_add_str (pv 3) pe_str) (pe_call Gl_written (hr.mono (by omega)) (by rfl) T.gl_written T.Fl_written.kp T.bl_written .nil pass0 (pa_cons (pe_ix ix_tup (pv 0) pe_int (fun _ _ => rfl)) pa_nil))) pe_str))))
  pss_nil)
 (pss_cons (ps_set (i := 2) scl_thing_text.nd rfl (Or.inl rfl) (pe_op op_add_str (pe_op op_add_str (pe_op op_add_str (pe_op op_add_str (pe_op op_add_str (pe_op op_add_str pe_str (pe_call Gl_end_text (hr.mono (by omega)) (by rfl) T.gl_end_text T.Fl_end_text.kp T.bl_end_text .nil pass0 (pa_cons (pe_ix ix_tup (pv 0) pe_int (fun _ _ => rfl)) pa_nil))) pe_str) (pe_call Gl_end_text (hr.mono (by omega)) (by rfl) T.gl_end_text T.Fl_end_text.kp T.bl_end_text .nil pass0 (pa_cons (pe_ix ix_tup (pv 0) pe_int (fun _ _ => rfl)) pa_nil))) pe_str) (pe_call Gl_written (hr.mono (by omega)) (by rfl) T.gl_written T.Fl_written.kp T.bl_written .nil pass0 (pa_cons (pe_ix ix_tup (pv 0) pe_int (fun _ _ => rfl)) pa_nil))) pe_str))
 (pss_one (ps_ret (pe_ifExp (pt_cmpR (op_eqD hr.units) (pe_ix ix_tup (pv 0) pe_int (fun _ _ => rfl)) (pe_tup pa_nil) (nomark _)) (pv 2) (pe_op op_add_str (pe_op op_add_str (pe_op op_add_str (pv 2) pe_str) (pe_call Gl_written (hr.mono (by omega)) (by rfl) T.gl_written T.Fl_written.kp T.bl_written .nil pass0 (pa_cons (pe_ix ix_tup (pv 0) pe_int (fun _ _ => rfl)) pa_nil))) pe_str))))))))))), ?_⟩
  cases t with
  | step k =>
    obtain ⟨a, v1, v2, rfl, ha, rfl, rfl⟩ := rp_t2 hR
    have n1 := numL_len (i := k) (by have := hT.1; omega) hT.2
    refine ⟨_, rfl, a, _, 0, _, rfl, rfl, SqT.of ha, rfl, ?_⟩
    refine ⟨_, rfl, rfl, _, rfl, ite2 (fun _ => ?_) (fun z => absurd (by decide +kernel) z)⟩
    refine ⟨_, rfl, a, _, 1, _, rfl, rfl, SqT.of ha, rfl, k, rfl, int_log (by have := hT.1; omega) hT.2, _, _, rfl, rfl, szc (by rw [l_step]; omega), str_to (Q := Q) (q H (Same.refl H)) ?_⟩
    simp only [tl_app, tl_S]
    rfl
  | twice b =>
    obtain ⟨a, v1, v2, rfl, ha, rfl, h2⟩ := rp_t2 hR
    obtain ⟨hb, m, rfl, hB⟩ := hT
    have hcb : cntB b ≤ 1000 := by
      have : 1 + cntB b ≤ 1000 := hc
      omega
    have lb := body_len hB hs hcb
    refine ⟨_, rfl, a, _, 0, _, rfl, rfl, SqT.of ha, rfl, ?_⟩
    refine ⟨_, rfl, rfl, _, rfl, ite2 (fun z => absurd z (no_word (by decide +kernel))) (fun _ => ?_)⟩
    refine ⟨_, rfl, rfl, _, rfl, ite2 (fun _ => ?_) (fun z => absurd (by decide +kernel) z)⟩
    refine ⟨_, rfl, a, _, 1, _, rfl, rfl, SqT.of ha, rfl, v2, b, C, A', sc, rfl, h2, hB, hs, hcb, fun H1 s1 => ?_⟩
    refine ⟨_, _, rfl, rfl, szc (by rw [l_double, len_S]; omega), _, _, rfl, rfl, szc (by simp only [len_app, l_double, len_S, l_shut]; omega), str_to (Q := Q) (q H1 s1) ?_⟩
    simp only [tl_app, tl_S]
    rfl
  | call x e =>
    obtain ⟨a, v1, v2, v3, rfl, ha, rfl, rfl, h3⟩ := rp_t3 hR
    obtain ⟨hx, _, he⟩ := hT
    have lx := name_len hx
    obtain ⟨z1, z2, z3, z4⟩ := end_small hs he
    refine ⟨_, rfl, a, _, 0, _, rfl, rfl, SqT.of ha, rfl, ?_⟩
    refine ⟨_, rfl, rfl, _, rfl, ite2 (fun z => absurd z (no_word (by decide +kernel))) (fun _ => ?_)⟩
    refine ⟨_, rfl, rfl, _, rfl, ite2 (fun z => absurd z (no_word (by decide +kernel))) (fun _ => ?_)⟩
    refine ⟨_, rfl, rfl, _, rfl, ite2 (fun _ => ?_) (fun z => absurd (by decide +kernel) z)⟩
    refine ⟨_, rfl, a, _, 1, _, rfl, rfl, SqT.of ha, rfl, _, x, rfl, rfl, szc (by rw [l_call]; omega), _, _, rfl, rfl, szc (by simp only [len_app, l_call, l_with]; omega), _, rfl, a, _, 2, _, rfl, rfl, SqT.of ha, rfl, v3, e, rfl, h3, by omega, z3, z4, fun H1 s1 => ?_⟩
    refine ⟨_, _, rfl, rfl, szc (by simp only [len_app, l_call, l_with, len_S]; omega), str_to (Q := Q) (q H1 s1) ?_⟩
    simp only [tl_app, tl_S]
    rfl
  | again k x =>
    obtain ⟨a, v1, v2, v3, rfl, ha, rfl, rfl, rfl⟩ := rp_t3 hR
    obtain ⟨_, k1, k9, hx⟩ := hT
    have n1 := numL_len (i := k) (by omega) (by omega)
    have lx : x.length ≤ 6 := by
      rcases hx with rfl | rfl | rfl
      · decide +kernel
      · decide +kernel
      · decide +kernel
    refine ⟨_, rfl, a, _, 0, _, rfl, rfl, SqT.of ha, rfl, ?_⟩
    refine ⟨_, rfl, rfl, _, rfl, ite2 (fun z => absurd z (no_word (by decide +kernel))) (fun _ => ?_)⟩
    refine ⟨_, rfl, rfl, _, rfl, ite2 (fun z => absurd z (no_word (by decide +kernel))) (fun _ => ?_)⟩
    refine ⟨_, rfl, rfl, _, rfl, ite2 (fun z => absurd z (no_word (by decide +kernel))) (fun _ => ?_)⟩
    refine ⟨_, rfl, rfl, _, rfl, ite2 (fun _ => ?_) (fun z => absurd (by decide +kernel) z)⟩
    refine ⟨_, rfl, a, _, 1, _, rfl, rfl, SqT.of ha, rfl, k, rfl, int_log (by omega) (by omega), _, _, rfl, rfl, szc (by rw [l_again]; omega), _, _, rfl, rfl, szc (by simp only [len_app, l_again, l_on]; omega), _, rfl, a, _, 2, _, rfl, rfl, SqT.of ha, rfl, _, x, rfl, rfl, szc (by simp only [len_app, l_again, l_on]; omega), str_to (Q := Q) (q H (Same.refl H)) ?_⟩
    simp only [tl_app, tl_S]
    rfl
  | loop x e f b =>
    obtain ⟨a, v1, v2, v3, v4, v5, rfl, ha, rfl, rfl, h3, h4, h5⟩ := rp_t5 hR
    obtain ⟨hx, hxn, he, hf, hb, m, rfl, hB⟩ := hT
    have hcb : cntB b ≤ 1000 := by
      have : 1 + cntB b ≤ 1000 := hc
      omega
    have hs2 := scOk_snoc hs hx
    have lb := body_len hB hs2 hcb
    have lx := name_len hx
    obtain ⟨z1, z2, z3, z4⟩ := end_small hs he
    obtain ⟨y1, y2, y3, y4⟩ := end_small hs hf
    refine ⟨_, rfl, a, _, 0, _, rfl, rfl, SqT.of ha, rfl, ?_⟩
    refine ⟨_, rfl, rfl, _, rfl, ite2 (fun z => absurd z (no_word (by decide +kernel))) (fun _ => ?_)⟩
    refine ⟨_, rfl, rfl, _, rfl, ite2 (fun z => absurd z (no_word (by decide +kernel))) (fun _ => ?_)⟩
    refine ⟨_, rfl, rfl, _, rfl, ite2 (fun z => absurd z (no_word (by decide +kernel))) (fun _ => ?_)⟩
    refine ⟨_, rfl, rfl, _, rfl, ite2 (fun z => absurd z (no_word (by decide +kernel))) (fun _ => ?_)⟩
    refine ⟨_, rfl, rfl, _, rfl, ite2 (fun _ => ?_) (fun z => absurd (by decide +kernel) z)⟩
    refine ⟨_, rfl, a, _, 1, _, rfl, rfl, SqT.of ha, rfl, _, x, rfl, rfl, szc (by rw [l_for]; omega), _, _, rfl, rfl, szc (by simp only [len_app, l_for, l_from]; omega), _, rfl, a, _, 2, _, rfl, rfl, SqT.of ha, rfl, v3, e, rfl, h3, by omega, z3, z4, fun H1 s1 => ?_⟩
    refine ⟨_, _, rfl, rfl, szc (by simp only [len_app, l_for, l_from, len_S]; omega), _, _, rfl, rfl, szc (by simp only [len_app, l_for, l_from, l_to, len_S]; omega), _, rfl, a, _, 3, _, rfl, rfl, SqT.of (s1 _ _ ha), rfl, v4, f, rfl, h4.to (Imm.same s1), by omega, y3, y4, fun H2 s2 => ?_⟩
    refine ⟨_, _, rfl, rfl, szc (by simp only [len_app, l_for, l_from, l_to, len_S]; omega), ?_⟩
    refine ⟨_, rfl, _, _, rfl, rfl, szc (by simp only [len_app, l_for, l_from, l_to, l_open, len_S]; omega), _, rfl, a, _, 4, _, rfl, rfl, SqT.of ((s1.trans s2) _ _ ha), rfl, v5, b, C, A', sc ++ [x], rfl, h5.to (Imm.same (s1.trans s2)), hB, hs2, hcb, fun H3 s3 => ?_⟩
    refine ⟨_, _, rfl, rfl, szc (by simp only [len_app, l_for, l_from, l_to, l_open, len_S]; omega), _, _, rfl, rfl, szc (by simp only [len_app, l_for, l_from, l_to, l_open, l_shut, len_S]; omega), str_to (Q := Q) (q H3 ((s1.trans s2).trans s3)) ?_⟩
    simp only [tl_app, tl_S]
    rfl
  | test e f b c =>
    obtain ⟨a, v1, v2, v3, v4, v5, rfl, ha, rfl, h2, h3, h4, h5⟩ := rp_t5 hR
    obtain ⟨he, hf, hb, m, rfl, hB, hC⟩ := hT
    have hc2 : 1 + cntB b + cntB c ≤ 1000 := hc
    have lb := body_len hB hs (by omega)
    have lc := plan_size hC hs
    have lb2 := plan_size hB hs
    obtain ⟨z1, z2, z3, z4⟩ := end_small hs he
    obtain ⟨y1, y2, y3, y4⟩ := end_small hs hf
    refine ⟨_, rfl, a, _, 0, _, rfl, rfl, SqT.of ha, rfl, ?_⟩
    refine ⟨_, rfl, rfl, _, rfl, ite2 (fun z => absurd z (no_word (by decide +kernel))) (fun _ => ?_)⟩
    refine ⟨_, rfl, rfl, _, rfl, ite2 (fun z => absurd z (no_word (by decide +kernel))) (fun _ => ?_)⟩
    refine ⟨_, rfl, rfl, _, rfl, ite2 (fun z => absurd z (no_word (by decide +kernel))) (fun _ => ?_)⟩
    refine ⟨_, rfl, rfl, _, rfl, ite2 (fun z => absurd z (no_word (by decide +kernel))) (fun _ => ?_)⟩
    refine ⟨_, rfl, rfl, _, rfl, ite2 (fun z => absurd z (no_word (by decide +kernel))) (fun _ => ?_)⟩
    refine ⟨_, rfl, a, _, 1, _, rfl, rfl, SqT.of ha, rfl, v2, e, rfl, h2, by omega, z3, z4, fun H1 s1 => ?_⟩
    refine ⟨_, _, rfl, rfl, szc (by rw [l_if, len_S]; omega), _, _, rfl, rfl, szc (by simp only [len_app, l_if, l_le, len_S]; omega), _, rfl, a, _, 2, _, rfl, rfl, SqT.of (s1 _ _ ha), rfl, v3, f, rfl, h3.to (Imm.same s1), by omega, y3, y4, fun H2 s2 => ?_⟩
    refine ⟨_, _, rfl, rfl, szc (by simp only [len_app, l_if, l_le, len_S]; omega), _, _, rfl, rfl, szc (by simp only [len_app, l_if, l_le, l_open, len_S]; omega), _, rfl, a, _, 3, _, rfl, rfl, SqT.of ((s1.trans s2) _ _ ha), rfl, v4, b, C, A', sc, rfl, h4.to (Imm.same (s1.trans s2)), hB, hs, by omega, fun H3 s3 => ?_⟩
    refine ⟨_, _, rfl, rfl, szc (by simp only [len_app, l_if, l_le, l_open, len_S]; omega), _, _, rfl, rfl, szc (by simp only [len_app, l_if, l_le, l_open, l_shut, len_S]; omega), ?_⟩
    have s4 := (s1.trans s2).trans s3
    have h5' := h5.to (Imm.same s4)
    obtain ⟨a5, w5, rfl, ha5, hr5⟩ := h5'
    have lw := hr5.length
    rw [encs_length] at lw
    refine ⟨_, rfl, a, _, 4, _, rfl, rfl, SqT.of (s4 _ _ ha), rfl, Nat.zero_le _, fun p np => ?_⟩
    have s5 : Same H3 (upd H3 p (.tup [])) := same_new np
    obtain ⟨e1, e2⟩ := body_eqv hC hs (by omega)
    refine ⟨toPy (.tup (encs c)), .tuple [], rp_dp _ _ (h5.to (Imm.same (s4.trans s5))), .tup (SqT.of upd_same) .nil, e1, by decide +kernel, ?_⟩
    rw [e2]
    cases c with
    | nil =>
      refine ⟨true, rfl, iteT ⟨_, rfl, str_to (Q := Q) (q _ (s4.trans s5)) ?_⟩⟩
      simp only [tl_app, tl_S]
      show _ = tl "if " ++ endL e ++ tl " <= " ++ endL f ++ tl " (" ++ planL b ++ tl ")" ++ []
      rw [List.append_nil]
    | cons c0 cr =>
      refine ⟨false, rfl, iteF ?_⟩
      refine ⟨_, rfl, _, _, rfl, rfl, szc (by simp only [len_app, l_if, l_le, l_open, l_shut, l_else, len_S]; omega), _, rfl, a, _, 4, _, rfl, rfl, SqT.of ((s4.trans s5) _ _ ha), rfl, .ref a5, c0 :: cr, C, A', sc, rfl, h5.to (Imm.same (s4.trans s5)), hC, hs, by omega, fun H6 s6 => ?_⟩
      refine ⟨_, _, rfl, rfl, szc (by simp only [len_app, l_if, l_le, l_open, l_shut, l_else, len_S]; omega), _, _, rfl, rfl, szc (by simp only [len_app, l_if, l_le, l_open, l_shut, l_else, len_S]; omega), str_to (Q := Q) (q _ ((s4.trans s5).trans s6)) ?_⟩
      simp only [tl_app, tl_S]
      show _ = tl "if " ++ endL e ++ tl " <= " ++ endL f ++ tl " (" ++ planL b ++ tl ")" ++ (tl " else (" ++ planL (c0 :: cr) ++ tl ")")
      simp only [List.append_assoc]
theorem ok_written1 (T : Tops w K mg) (n : Nat) (Gl_thing_text : FnOk P w K mg base CX0 (2 * n + 2) T.fl_thing_text T.dl_thing_text ["_law_thing"] (spThingText n)) : FnOk P w K mg base CX0 (2 * n + 3) T.fl_written T.dl_written ["_law_plan"] (spPlanText n) := by
  refine T.Fl_written.ok (k := 2 * n + 2) scl_written (fun vs H Q E h => ?_) (fun cdv A outer s H vs Q E hr h => ?_)
  · obtain ⟨v, ts, C, A', sc, rfl, _⟩ := h
    rfl
  obtain ⟨v, ts, C, A', sc, rfl, hR, hT, hs, hc, q⟩ := h
  refine ⟨_, (pss_one (ps_ret (pe_join pe_str (pe_lc (own := [("_law_thing", 1)]) rfl scl_written.nd (pi_tup (pv 0)) (blkOk_by (N := Nl_written) (sc := defScope sl_written) (by decide +kernel)) (fun _ _ _ _ _ => (pg_name (i := 1) scl_written.nd rfl (Or.inl rfl))) (fun _ _ _ _ _ => pts_nil) (fun _ _ _ _ _ => (pe_call Gl_thing_text (hr.mono (by omega)) (by rfl) T.gl_thing_text T.Fl_thing_text.kp T.bl_thing_text .nil pass0 (pa_cons (pv 1) pa_nil))))))), ?_⟩
  obtain ⟨a, vs, rfl, ha, hr2⟩ := hR
  have lw := hr2.length
  rw [encs_length] at lw
  have hl := cnt_len ts
  refine ⟨⟨_, rfl⟩, _, rfl, a, rfl, ⟨_, SqT.of ha⟩, fun Dn nD => ?_⟩
  refine lc_tup_map (K := K) (ts.map fun t => V.str (S (thingL t))) 1 rfl (fun v => rfl) (by rw [List.length_map]; exact lw.symm) (by omega) ha nD (fun i x y H2 Q2 hx hy sm k => ?_) (fun H' sm hl2 => ?_)
  · obtain ⟨t, ht, hRt⟩ := rpl_things hr2 hx
    have ey : y = .str (S (thingL t)) := by
      rw [List.getElem?_map, ht] at hy
      exact (Option.some.inj hy).symm
    subst ey
    have hm := List.mem_of_getElem? ht
    exact ⟨_, rfl, x, t, C, A', sc, rfl, hRt.to (Imm.same sm), (tsok_iff ts).mp hT t hm, hs, Nat.le_trans (cnt_mem hm) hc, k⟩
  · refine ⟨_, Dn, ts.map fun t => S (thingL t), rfl, rfl, .inl (SqL.of (by rw [hl2, List.map_map]; rfl)), things_sum hT hs hc, ?_⟩
    rw [join_things]
    exact q H' sm
theorem ok_written (T : Tops w K mg) : ∀ n : Nat, n ≤ 20 → FnOk P w K mg base CX0 (2 * n + 3) T.fl_written T.dl_written ["_law_plan"] (spPlanText n)
  | 0, h => ok_written1 T 0 (ok_l_thing_text T 0 h fn_none)
  | n + 1, h => ok_written1 T (n + 1) (ok_l_thing_text T (n + 1) h (ok_written T n (by omega)))
end
end K03

set_option Elab.async false
set_option linter.all false
set_option maxRecDepth 100000
set_option maxHeartbeats 4000000
namespace K03
open PySem PySem.Spec PyProof.Rows L2 OG
open C8 (pss_cut pe_gc)
section
variable {P : Program} {w : World} {K : PySem.W.Frag} {mg : Str → Option Value} {base : Heap}
theorem l_sp : (" " : Str).length = 1 := by decide +kernel
theorem ok_spaced (T : Tops w K mg) : FnOk P w K mg base CX0 2 T.fl_spaced T.dl_spaced ["_law_draw", "_law_text"] spSpaced := by
  have Gl_take : FnOk P w K mg base CX0 1 T.fl_take T.dl_take ["_law_draw", "_law_sides"] spTake := ok_take T
  refine T.Fl_spaced.ok (k := 1) scl_spaced (fun vs H Q E h => ?_) (fun cdv A outer s H vs Q E hr h => ?_)
  · obtain ⟨d, L, z, ts, rfl, _⟩ := h
    rfl
  obtain ⟨d, L, z, ts, rfl, hD, hz, hLx, q⟩ := h
  refine ⟨_, (pss_cons (ps_set (i := 2) scl_spaced.nd rfl (Or.inl rfl) pe_str)
 (pss_cons (ps_for PassesOwn.never rfl (pi_str (pv 1)) (pg_name (i := 3) scl_spaced.nd rfl (Or.inl rfl))
  (pss_cons (ps_if (pt_cmpR op_in_sign (pv 3) pe_str (by rfl))
  (pss_one (ps_set (i := 3) scl_spaced.nd rfl (Or.inl rfl) (pe_op op_add_str (pe_op op_add_str (pe_op op_repS pe_str (pe_call Gl_take (hr.mono (by omega)) (by rfl) T.gl_take T.Fl_take.kp T.bl_take .nil pass0 (pa_cons (pv 0) (pa_cons pe_int pa_nil)))) (pv 3)) (pe_op op_repS pe_str (pe_call Gl_take (hr.mono (by omega)) (by rfl) T.gl_take T.Fl_take.kp T.bl_take .nil pass0 (pa_cons (pv 0) (pa_cons pe_int pa_nil)))))))
  pss_nil)
 (pss_one (ps_set (i := 2) scl_spaced.nd rfl (Or.inl rfl) (pe_op op_add_str (pv 2) (pe_ifExp (pt_cmpR op_ne (pv 3) pe_str (nomark _)) (pv 3) (pe_op op_repS pe_str (pe_op op_add pe_int (pe_call Gl_take (hr.mono (by omega)) (by rfl) T.gl_take T.Fl_take.kp T.bl_take .nil pass0 (pa_cons (pv 0) (pa_cons pe_int pa_nil)))))))))))
 (pss_one (ps_ret (pe_op op_add_str (pe_op op_add_str (pe_op op_repS pe_str (pe_call Gl_take (hr.mono (by omega)) (by rfl) T.gl_take T.Fl_take.kp T.bl_take .nil pass0 (pa_cons (pv 0) (pa_cons pe_int pa_nil)))) (pv 2)) (pe_op op_repS pe_str (pe_call Gl_take (hr.mono (by omega)) (by rfl) T.gl_take T.Fl_take.kp T.bl_take .nil pass0 (pa_cons (pv 0) (pa_cons pe_int pa_nil))))))))), ?_⟩
  have hzl := len_tl z
  have rb : ∀ k : Int, 0 ≤ k → k ≤ 3 → (" " : Str).length * k.toNat ≤ 100000 := fun k h1 h2 => by
    rw [l_sp]
    omega
  have bll : ∀ n, (bl n).length = n := fun n => List.length_replicate
  have bS : ∀ n, (S (bl n)).length = n := fun n => by rw [len_S, bll]
  refine ⟨_, rfl, z, rfl, ?_⟩
  refine for_it walk_str (fun i σ H' => (∃ y x3, σ = [some (.ref d), some (.str z), some (.str y), x3] ∧ Wd ((tl z).take i) (tl y)) ∧ Dr H' d L ∧ Go (· = d) H H') ⟨⟨_, _, rfl, .nil⟩, hD, Go.refl _ _⟩ (fun _ _ _ _ _ => trivial) (fun i x σ H1 H2 hi hP hY => ?_) (fun σ H1 hP => ?_)
  · obtain ⟨rfl, c, hc, rfl⟩ := hY
    obtain ⟨⟨y, x3, rfl, hW⟩, hD1, G1⟩ := hP
    have hyl := len_tl y
    have hc2 : (tl z)[i]? = some c := by
      have q : z.cps.toList[i]? = z.cps[i]? := by simp
      exact q.trans hc
    have hnext : ∀ p, Pd c (tl p) → Wd ((tl z).take (i + 1)) (tl (y ++ p)) := fun p hp => by
      rw [tl_app, List.take_add_one, hc2]
      exact hW.snoc hp
    have hm : y.length ≤ 8000 := by
      have h1 := hW.len
      rw [List.length_take] at h1
      omega
    have tsp : tl (" " : Str) = [32] := by decide +kernel
    refine ⟨_, rfl, c, _, rfl, rfl, _, rfl, ite2 (fun c1 => ?_) (fun c1 => ?_)⟩
    · have hc5 : c ∈ one5 := of_decide_eq_true c1
      refine ⟨_, rfl, d, L, 2, rfl, hD1, by decide, by decide, fun g1 H3 a1 b1 hD3 hB3 => ?_⟩
      refine ⟨_, g1, rfl, rfl, by omega, by omega, rb g1 a1 (by omega), ?_⟩
      rw [rep_bl]
      refine ⟨_, rfl, _, _, rfl, rfl, sz (by rw [bS]; show _ + 1 ≤ _; omega), ?_⟩
      refine ⟨_, rfl, d, L, 3, rfl, hD3, by decide, by decide, fun g2 H4 a2 b2 hD4 hB4 => ?_⟩
      refine ⟨_, g2, rfl, rfl, by omega, by omega, rb g2 a2 (by omega), ?_⟩
      rw [rep_bl]
      refine ⟨_, _, rfl, rfl, sz (by rw [len_app, bS, bS]; show _ + 1 + _ ≤ _; omega), ?_⟩
      have e1 : (S (bl g1.toNat) ++ S [c] ++ S (bl g2.toNat) : Str) = S (bl g1.toNat ++ c :: bl g2.toNat) := str_ext (by simp only [tl_app, tl_S, List.append_assoc, List.singleton_append])
      have hne : ¬ (S (bl g1.toNat) ++ S [c] ++ S (bl g2.toNat) : Str) = " " := fun e => by
        rw [e1] at e
        have e2 := congrArg tl e
        rw [tl_S, tsp] at e2
        have : c ∈ ([32] : List Nat) := by
          rw [← e2]
          simp
        exact (one_facts c hc5).2.2.1 (List.mem_singleton.mp this)
      refine ⟨_, rfl, _, rfl, rfl, _, rfl, ite2 (fun c2 => ?_) (fun c2 => ?_)⟩
      · refine ⟨_, rfl, _, _, rfl, rfl, sz (by rw [len_app, len_app, bS, bS]; show _ + (_ + 1 + _) ≤ _; omega), ?_⟩
        refine ⟨⟨_, _, rfl, hnext _ (.inl ⟨hc5, g1.toNat, g2.toNat, ?_, by omega, by omega⟩)⟩, hD4, (G1.trans (Go.but hD1 hB3 rfl)).trans (Go.but hD3 hB4 rfl)⟩
        exact congrArg tl e1
      · exact absurd (by simpa using hne) c2
    · have hc5 : c ∉ one5 := fun z => c1 (decide_eq_true z)
      refine ⟨_, rfl, _, rfl, rfl, _, rfl, ite2 (fun c2 => ?_) (fun c2 => ?_)⟩
      · have hne : c ≠ 32 := fun e => by
          subst e
          revert c2
          decide +kernel
        refine ⟨_, rfl, _, _, rfl, rfl, sz (by show _ + 1 ≤ _; omega), ?_⟩
        exact ⟨⟨_, _, rfl, hnext _ (.inr (.inr ⟨hc5, hne, rfl⟩))⟩, hD1, G1⟩
      · have he : c = 32 := by
          by_cases e : c = 32
          · exact e
          · refine absurd ?_ c2
            have : ¬ (⟨#[c]⟩ : Str) = " " := fun e2 => by
              have e3 := congrArg tl e2
              rw [tsp] at e3
              exact e (List.cons.inj e3).1
            simpa using this
        refine ⟨_, rfl, d, L, 2, rfl, hD1, by decide, by decide, fun g1 H3 a1 b1 hD3 hB3 => ?_⟩
        refine ⟨_, _, rfl, rfl, _, _, rfl, rfl, by omega, by omega, rb _ (by omega) (by omega), ?_⟩
        rw [rep_bl]
        refine ⟨_, _, rfl, rfl, sz (by rw [bS]; omega), ?_⟩
        refine ⟨⟨_, _, rfl, hnext _ (.inr (.inl ⟨he, g1.toNat, ?_, by omega⟩))⟩, hD3, G1.trans (Go.but hD1 hB3 rfl)⟩
        rw [tl_S, show (1 + g1).toNat = g1.toNat + 1 by omega]
  · obtain ⟨⟨y, x3, rfl, hW⟩, hD1, G1⟩ := hP
    have hyl := len_tl y
    have el : z.cps.size = (tl z).length := by simp [tl]
    rw [el, List.take_length] at hW
    have hm := hW.len
    refine ⟨_, rfl, d, L, 2, rfl, hD1, by decide, by decide, fun g1 H3 a1 b1 hD3 hB3 => ?_⟩
    refine ⟨_, g1, rfl, rfl, by omega, by omega, rb g1 a1 (by omega), ?_⟩
    rw [rep_bl]
    refine ⟨_, rfl, _, _, rfl, rfl, sz (by rw [bS]; omega), ?_⟩
    refine ⟨_, rfl, d, L, 3, rfl, hD3, by decide, by decide, fun g2 H4 a2 b2 hD4 hB4 => ?_⟩
    refine ⟨_, g2, rfl, rfl, by omega, by omega, rb g2 a2 (by omega), ?_⟩
    rw [rep_bl]
    refine ⟨_, _, rfl, rfl, sz (by rw [len_app, bS, bS]; omega), ?_⟩
    refine q _ H4 ?_ ?_ hD4 ((G1.trans (Go.but hD1 hB3 rfl)).trans (Go.but hD3 hB4 rfl))
    · rw [len_app, len_app, bS, bS]
      omega
    · simp only [tl_app, tl_S]
      rw [List.append_assoc]
      exact lx_bl _ ((wd_lx hLx hW).tail _)
end
end K03

set_option Elab.async false
set_option linter.all false
set_option maxRecDepth 100000
set_option maxHeartbeats 4000000
namespace K03
open PySem PySem.Spec PyProof.Rows L2 OG
open C8 (pss_cut pe_gc)
section
variable {P : Program} {w : World} {K : PySem.W.Frag} {mg : Str → Option Value} {base : Heap}
theorem ok_loose (T : Tops w K mg) (hnk : PySem.W.nsIn K cStatics sharingNotToldKey = some none) : FnOk P w K mg base CX0 12 T.fl_loose T.dl_loose ["_law_draw", "_law_plan"] spLoose := by
  have Gl_take : FnOk P w K mg base CX0 1 T.fl_take T.dl_take ["_law_draw", "_law_sides"] spTake := ok_take T
  have Gl_spaced : FnOk P w K mg base CX0 2 T.fl_spaced T.dl_spaced ["_law_draw", "_law_text"] spSpaced := ok_spaced T
  have Gl_written : FnOk P w K mg base CX0 11 T.fl_written T.dl_written ["_law_plan"] (spPlanText 4) := ok_written T 4 (by decide)
  refine okT T.Fl_loose (k := 11) scl_loose (by decide +kernel) (by decide) (fun vs H Q E h => ?_) (fun cdv A outer s H vs Q E hr h => ?_)
  · obtain ⟨d, L, v, ts, C, A', sc, rfl, _⟩ := h
    rfl
  obtain ⟨d, L, v, ts, C, A', sc, rfl, hD, hR, hT, hs, hc, q⟩ := h
  refine ⟨_, psst_cons (PST.of (ps_set (i := 2) scl_loose.nd rfl (Or.inl rfl) (pe_call Gl_spaced (hr.mono (by omega)) (by rfl) T.gl_spaced T.Fl_spaced.kp T.bl_spaced .nil pass0 (pa_cons (pv 0) (pa_cons (pe_call Gl_written (hr.mono (by omega)) (by rfl) T.gl_written T.Fl_written.kp T.bl_written .nil pass0 (pa_cons (pv 1) pa_nil)) pa_nil))))) (CwR.psst_one (CwR.pst_ret (pet_replIx (pv 2) (pe_call Gl_take (hr.mono (by omega)) (by rfl) T.gl_take T.Fl_take.kp T.bl_take .nil pass0 (pa_cons (pv 0) (pa_cons pe_int pa_nil))) (fun _ _ => rfl) hnk))), ?_⟩
  have hp := plan_size hT hs
  refine ⟨_, rfl, _, rfl, v, ts, C, A', sc, rfl, hR, hT, hs, by omega, fun H1 s1 => ?_⟩
  refine ⟨d, L, _, tokB ts, rfl, hD.same s1, by rw [len_S]; omega, lx_plan hT hs, fun x H2 hx hLx hD2 G2 => ?_⟩
  refine ⟨_, rfl, x, rfl, by omega, by decide +kernel, by decide +kernel, by decide +kernel, fun p o np => ?_⟩
  refine ⟨_, rfl, d, L, 3, rfl, hD2.new np, by decide, by decide, fun g H3 a b hD3 hB3 => ?_⟩
  refine ⟨g, rfl, a, b, ?_, fun z hz => ?_⟩
  · rw [hB3 p (hD2.neNew np).1]
    exact upd_same
  · have hz2 : z = "<=" ∨ z = " <= " ∨ z = "<= " := by
      rcases List.mem_cons.mp hz with e | hz
      · exact .inl e
      rcases List.mem_cons.mp hz with e | hz
      · exact .inr (.inl e)
      · exact .inr (.inr (List.mem_singleton.mp hz))
    have hzl : z.length ≤ 4 := by
      rcases hz2 with rfl | rfl | rfl
      · decide +kernel
      · decide +kernel
      · decide +kernel
    have hl := TK.replace_len x " <= " z
    have hl2 : (x.length + 1) * z.length ≤ 10001 * 4 := Nat.mul_le_mul (by omega) hzl
    exact q _ H3 (by omega) (lx_repl hLx hz2) hD3 (((Go.same s1).trans G2).new np |>.trans (Go.but (hD2.new np) hB3 rfl))
end
end K03

set_option Elab.async false
set_option linter.all false
set_option maxRecDepth 100000
set_option maxHeartbeats 4000000
namespace K03
open PySem PySem.Spec PyProof.Rows L2 OG
open C8 (pss_cut pe_gc)
section
variable {P : Program} {w : World} {K : PySem.W.Frag} {mg : Str → Option Value} {base : Heap}
theorem lx_as {a l : List Nat} {ts us : List Str} (h : Pc a ts) (e1 : a = l) (e2 : ts = us) : Lx l us := by
  subst e1
  subst e2
  have := h [] [] brk_nil .nil
  rw [List.append_nil, List.append_nil] at this
  exact this
def lastL : List Thing := [.loop "i" ("", 0) ("n", -1) [.step 2], .again 1 "less"]
theorem last_lx : Lx (tl "for i from 0 to n-1(step 2);again 1 on less") (tokB lastL) := by
  have A := ((((((pf_for.catC (pc_name (x := "i") (.inl (by decide +kernel)))).catF pf_from (bk_s (by decide +kernel))).catC (pc_num (k := 0) (by decide) (by decide))).catF pf_to (bk_s (by decide +kernel))).catC (pc_name (x := "n") (.inr rfl))).catF (pf_one (c := 45) (by decide +kernel)) (bk_one (by decide +kernel) _)).catC (pc_num (k := 1) (by decide) (by decide))
  have B := ((((A.catF (pf_one (c := 40) (by decide +kernel)) (bk_one (by decide +kernel) _)).catF pf_step).catC (pc_num (k := 2) (by decide) (by decide))).catF (pf_one (c := 41) (by decide +kernel)) (bk_one (by decide +kernel) _)).catF (pf_one (c := 59) (by decide +kernel))
  have D := (((B.catF pf_again).catC (pc_num (k := 1) (by decide) (by decide))).catF pf_on (bk_s (by decide +kernel))).catC (pc_word2 (w := "less") (by decide +kernel))
  exact lx_as D (by decide +kernel) (by decide +kernel)
theorem last_ok : TsOk C0 True ["n"] 4 lastL := by
  refine ⟨⟨by decide +kernel, by decide +kernel, .inl ⟨rfl, by decide, by decide⟩, .inr ⟨by simp, by decide, by decide⟩, by simp, 3, rfl, ⟨⟨by decide, by decide⟩, trivial⟩⟩, ⟨trivial, by decide, by decide, .inr (.inr rfl)⟩, trivial⟩
theorem ok_law (T : Tops w K mg) (hnk : PySem.W.nsIn K cStatics sharingNotToldKey = some none) : FnOk P w K mg base CX0 40 T.flaw T.dlaw ["_law_script"] (spLaw K) := by
  have Gl_begin : FnOk P w K mg base CX0 1 T.fl_begin T.dl_begin ["_law_script"] (spBegin K) := ok_begin T
  have Gl_take : FnOk P w K mg base CX0 1 T.fl_take T.dl_take ["_law_draw", "_law_sides"] spTake := ok_take T
  have Gl_pick : FnOk P w K mg base CX0 2 T.fl_pick T.dl_pick ["_law_draw", "_law_row"] (spPick K) := ok_pick T
  have Gl_drawn : FnOk P w K mg base CX0 15 T.fl_drawn T.dl_drawn ["_law_draw", "_law_room", "_law_figures", "_law_wide"] spDrawn := ok_drawn T
  have Gl_same : FnOk P w K mg base CX0 21 T.fl_same T.dl_same ["_law_found", "_law_due"] (spSame 20) := ok_same T 20
  have Gl_loose : FnOk P w K mg base CX0 12 T.fl_loose T.dl_loose ["_law_draw", "_law_plan"] spLoose := ok_loose T hnk
  have Gread_plan : FnOk P w K mg base CX0 24 T.fread_plan T.dread_plan ["text"] (spReadPlan 4) := ok_read_plan T 4
  refine T.Flaw.ok (k := 39) sclaw (fun vs H Q E h => ?_) (fun cdv A outer s H vs Q E hr h => ?_)
  · obtain ⟨a, ns, rfl, _⟩ := h
    rfl
  obtain ⟨a, ns, rfl, hS, hlen, q⟩ := h
  refine ⟨_, (pss_cons (ps_set (i := 1) sclaw.nd rfl (Or.inl rfl) (pe_call Gl_begin (hr.mono (by omega)) (by rfl) T.gl_begin T.Fl_begin.kp T.bl_begin .nil pass0 (pa_cons (pv 0) pa_nil)))
 (pss_cons (ps_for PassesOwn.never rfl (pi_range1 (by rfl) T.mrange (pa_cons pe_int pa_nil)) (pg_name (i := 2) sclaw.nd rfl (Or.inl rfl))
  (pss_cons (ps_set (i := 3) sclaw.nd rfl (Or.inl rfl) (pe_call Gl_drawn (hr.mono (by omega)) (by rfl) T.gl_drawn T.Fl_drawn.kp T.bl_drawn .nil pass0 (pa_cons (pv 1) (pa_cons pe_int (pa_cons pe_bl (pa_cons pe_bl pa_nil))))))
 (pss_cut (ps_if (pt_cmpR op_eq (pe_call Gl_take (hr.mono (by omega)) (by rfl) T.gl_take T.Fl_take.kp T.bl_take .nil pass0 (pa_cons (pv 1) (pa_cons pe_int pa_nil))) pe_int (nomark _))
  (pss_one (ps_set (i := 3) sclaw.nd rfl (Or.inl rfl) (pe_op op_catA (pv 3) (pe_tup (pa_cons (pe_tup (pa_cons pe_str (pa_cons (pe_op op_add pe_int (pe_call Gl_take (hr.mono (by omega)) (by rfl) T.gl_take T.Fl_take.kp T.bl_take .nil pass0 (pa_cons (pv 1) (pa_cons pe_int pa_nil)))) (pa_cons (pe_call Gl_pick (hr.mono (by omega)) (by rfl) T.gl_pick T.Fl_pick.kp T.bl_pick .nil pass0 (pa_cons (pv 1) (pa_cons (pe_lst (pa_cons pe_str (pa_cons pe_str (pa_cons pe_str pa_nil)))) pa_nil))) pa_nil)))) pa_nil)))))
  pss_nil)
 (pss_cons (ps_set (i := 4) sclaw.nd rfl (Or.inl rfl) (pe_call Gread_plan (hr.mono (by omega)) (by rfl) T.gread_plan T.Fread_plan.kp T.bread_plan .nil pass0 (pa_cons (pe_call Gl_loose (hr.mono (by omega)) (by rfl) T.gl_loose T.Fl_loose.kp T.bl_loose .nil pass0 (pa_cons (pv 1) (pa_cons (pv 3) pa_nil))) pa_nil)))
 (pss_one (ps_if (pt_not (pt_val (pe_call Gl_same (hr.mono (by omega)) (by rfl) T.gl_same T.Fl_same.kp T.bl_same .nil pass0 (pa_cons (pv 4) (pa_cons (pv 3) pa_nil)))))
  (pss_one (ps_ret pe_bl))
  pss_nil))))))
 (pss_one (ps_ret (pe_call Gl_same (hr.mono (by omega)) (by rfl) T.gl_same T.Fl_same.kp T.bl_same .nil pass0 (pa_cons (pe_ix ix_tup (pe_call Gread_plan (hr.mono (by omega)) (by rfl) T.gread_plan T.Fread_plan.kp T.bread_plan .nil pass0 (pa_cons pe_str pa_nil)) pe_int (fun _ _ => rfl)) (pa_cons (pe_tup (pa_cons pe_str (pa_cons pe_int (pa_cons pe_str pa_nil)))) pa_nil))))))), ?_⟩
  refine ⟨_, rfl, a, ns, rfl, hS, fun d L H1 sm nd nL hD => ?_⟩
  refine ⟨6, rfl, by decide, by decide, ?_⟩
  refine for_range (n := 6) (fun i σ H' => (∃ x2 x3 x4, σ = [some (.ref a), some (.ref d), x2, x3, x4]) ∧ Dr H' d L) ⟨⟨_, _, _, rfl⟩, hD⟩ (fun i σ H2 hi hP => ?_) (fun σ H2 hP => ?_)
  · obtain ⟨⟨x2, x3, x4, rfl⟩, hD2⟩ := hP
    refine ⟨_, rfl, d, L, 11, true, true, rfl, hD2, by decide, by decide, fun v ts H3 hts hR hT hc hD3 G3 => ?_⟩
    have hT' : TsOk C0 True ["n"] 4 ts := tsok_mono (fun _ h => h) (fun h => h.elim) ts _ _ hT
    refine ⟨fun σ' H' => (∃ y2 y4 u us, σ' = [some (.ref a), some (.ref d), y2, some u, y4] ∧ Rp H' u (.tup (encs us)) ∧ us ≠ [] ∧ TsOk C0 True ["n"] 4 us ∧ cntB us ≤ 12) ∧ Dr H' d L, ?_, ?_⟩
    · refine ⟨_, rfl, d, L, 3, rfl, hD3, by decide, by decide, fun g4 H4 a4 b4 hD4 hB4 => ?_⟩
      have i4 := hD3.imm hB4
      refine ⟨rfl, _, rfl, ite2 (fun c1 => ?_) (fun c1 => ?_)⟩
      · refine ⟨_, rfl, _, rfl, d, L, 9, rfl, hD4, by decide, by decide, fun g5 H5 a5 b5 hD5 hB5 => ?_⟩
        have i5 := i4.trans (hD4.imm hB5)
        refine ⟨1, g5, rfl, rfl, _, rfl, (by show 3 ≤ sizeLine; decide), fun l nl => ?_⟩
        refine ⟨d, L, _, 3, rfl, hD5.new nl, by decide, by decide, .inr ⟨l, _, rfl, (hD5.neNew nl).1, SqL.of upd_same, rfl, fun y H6 hy hD6 hB6 => ?_⟩⟩
        have i6 := (i5.trans (Imm.same (same_new nl))).trans ((hD5.new nl).imm hB6)
        refine ⟨(by show 3 ≤ sizeLine; decide), fun p np => ?_⟩
        refine ⟨(by show 1 ≤ sizeLine; decide), fun p2 np2 => ?_⟩
        have i7 := (i6.trans (Imm.same (same_new np))).trans (Imm.same (same_new (o := .tup [.ref p]) np2))
        have hy2 : ∃ z : Str, y = .str z ∧ (z = "halves" ∨ z = "thirds" ∨ z = "less") := by
          rcases List.mem_cons.mp hy with e | hy
          · exact ⟨_, e, .inl rfl⟩
          rcases List.mem_cons.mp hy with e | hy
          · exact ⟨_, e, .inr (.inl rfl)⟩
          · exact ⟨_, List.mem_singleton.mp hy, .inr (.inr rfl)⟩
        obtain ⟨z, rfl, hz⟩ := hy2
        have hRn : Rp (upd (upd H6 p (.tup [.str "again", .int (1 + g5), .str z])) p2 (.tup [.ref p])) (.ref p2) (.tup (encs [.again (1 + g5) z])) :=
          rp_tup upd_same (rpl_cons (rp_tup (same_new np2 _ _ upd_same) (rpl_cons rfl (rpl_cons rfl (rpl_cons rfl rpl_nil)))) rpl_nil)
        have hl := cnt_len ts
        have hTn : TsOk C0 True ["n"] 4 [.again (1 + g5) z] := ⟨⟨trivial, by omega, by omega, hz⟩, trivial⟩
        refine cat_rp (hR.to i7) hRn (by rw [encs_length, encs_length]; show _ + 1 ≤ _; omega) fun v' H8 s8 hR8 => ?_
        refine ⟨⟨_, _, v', ts ++ [.again (1 + g5) z], rfl, ?_, by simp, tsok_append hT' hTn, ?_⟩, (((hD6.new np).new np2).same s8)⟩
        · rw [encs_append]
          exact hR8
        · rw [cntB_append]
          show cntB ts + (1 + 0) ≤ 12
          omega
      · exact ⟨⟨_, _, v, ts, rfl, hR.to i4, hts, hT', by omega⟩, hD4⟩
    · rintro σ' H4 ⟨⟨y2, y4, u, us, rfl, hRu, hus, hTu, hcu⟩, hD4⟩
      refine ⟨_, rfl, _, rfl, d, L, u, us, C0, True, ["n"], rfl, hD4, hRu, hTu, scOk_n, hcu, fun x H5 hx hLx hD5 G5 => ?_⟩
      refine ⟨x, us, C0, True, ["n"], rfl, hx, hLx, hus, hTu, scOk_n, hcu, by decide, fun v6 H6 hR6 s6 => ?_⟩
      have hRu6 := (hRu.to G5.im).to (Imm.same s6)
      have hE : Eq2 H6 20 v6 u := eq2_of 20 _ _ _ hR6 hRu6 (plan_dep hTu (by decide)) (plan_fit hTu (by omega))
      refine ⟨_, rfl, _, rfl, v6, u, rfl, hE, fun H7 s7 => ?_⟩
      exact ⟨true, rfl, iteF ⟨⟨_, _, _, rfl⟩, (hD5.same s6).same s7⟩⟩
  · refine ⟨_, lastL, C0, True, ["n"], rfl, by decide +kernel, last_lx, by simp [lastL], last_ok, scOk_n, by decide +kernel, by decide, fun v3 H3 hR3 s3 => ?_⟩
    obtain ⟨b, v1, v2, rfl, hb, _, h2⟩ := rp_t2 hR3
    refine ⟨b, _, 1, _, rfl, rfl, SqT.of hb, rfl, ?_⟩
    refine ⟨(by show 3 ≤ sizeLine; decide), fun p np => ?_⟩
    have hp : Rp (upd H3 p (.tup [.str "again", .int 1, .str "less"])) (.ref p) (enc (.again 1 "less")) := rp_tup upd_same (rpl_cons rfl (rpl_cons rfl (rpl_cons rfl rpl_nil)))
    have hE : Eq2 (upd H3 p (.tup [.str "again", .int 1, .str "less"])) 20 v2 (.ref p) := eq2_of 20 _ _ _ (h2.to (Imm.same (same_new np))) hp (by decide) (thing_fit _ (by decide))
    exact ⟨v2, .ref p, rfl, hE, fun H4 s4 => q H4⟩
end
theorem all_mk {w : World} {K : PySem.W.Frag} {h : Heap} {mg : Str → Option Value} {fa : Addr} (X : K.In h) (G : h.Ns mainGlobals mg) (hfa : mg "law" = some (.ref fa))
    {f1 : Addr} {od1 an1 : Option Addr} {sl1 : Array (Option Value)} {oc1 kV1 dc1 pm1 cd1 ct1 : Value}
    {f2 : Addr} {od2 an2 : Option Addr} {sl2 : Array (Option Value)} {oc2 kV2 dc2 pm2 cd2 ct2 : Value}
    {f3 : Addr} {od3 an3 : Option Addr} {sl3 : Array (Option Value)} {oc3 kV3 dc3 pm3 cd3 ct3 : Value}
    {f4 : Addr} {od4 an4 : Option Addr} {sl4 : Array (Option Value)} {oc4 kV4 dc4 pm4 cd4 ct4 : Value}
    {f5 : Addr} {od5 an5 : Option Addr} {sl5 : Array (Option Value)} {oc5 kV5 dc5 pm5 cd5 ct5 : Value}
    {f6 : Addr} {od6 an6 : Option Addr} {sl6 : Array (Option Value)} {oc6 kV6 dc6 pm6 cd6 ct6 : Value}
    {CReader : Addr}
    {f7 : Addr} {od7 an7 : Option Addr} {sl7 : Array (Option Value)} {oc7 kV7 dc7 pm7 cd7 ct7 : Value}
    {f8 : Addr} {od8 an8 : Option Addr} {sl8 : Array (Option Value)} {oc8 kV8 dc8 pm8 cd8 ct8 : Value}
    {f9 : Addr} {od9 an9 : Option Addr} {sl9 : Array (Option Value)} {oc9 kV9 dc9 pm9 cd9 ct9 : Value}
    {f10 : Addr} {od10 an10 : Option Addr} {sl10 : Array (Option Value)} {oc10 kV10 dc10 pm10 cd10 ct10 : Value}
    {f11 : Addr} {od11 an11 : Option Addr} {sl11 : Array (Option Value)} {oc11 kV11 dc11 pm11 cd11 ct11 : Value}
    {f12 : Addr} {od12 an12 : Option Addr} {sl12 : Array (Option Value)} {oc12 kV12 dc12 pm12 cd12 ct12 : Value}
    {f13 : Addr} {od13 an13 : Option Addr} {sl13 : Array (Option Value)} {oc13 kV13 dc13 pm13 cd13 ct13 : Value}
    {f14 : Addr} {od14 an14 : Option Addr} {sl14 : Array (Option Value)} {oc14 kV14 dc14 pm14 cd14 ct14 : Value}
    {f15 : Addr} {od15 an15 : Option Addr} {sl15 : Array (Option Value)} {oc15 kV15 dc15 pm15 cd15 ct15 : Value}
    {f16 : Addr} {od16 an16 : Option Addr} {sl16 : Array (Option Value)} {oc16 kV16 dc16 pm16 cd16 ct16 : Value}
    {f17 : Addr} {od17 an17 : Option Addr} {sl17 : Array (Option Value)} {oc17 kV17 dc17 pm17 cd17 ct17 : Value}
    {f18 : Addr} {od18 an18 : Option Addr} {sl18 : Array (Option Value)} {oc18 kV18 dc18 pm18 cd18 ct18 : Value}
    {f19 : Addr} {od19 an19 : Option Addr} {sl19 : Array (Option Value)} {oc19 kV19 dc19 pm19 cd19 ct19 : Value}
    {f20 : Addr} {od20 an20 : Option Addr} {sl20 : Array (Option Value)} {oc20 kV20 dc20 pm20 cd20 ct20 : Value}
    {f21 : Addr} {od21 an21 : Option Addr} {sl21 : Array (Option Value)} {oc21 kV21 dc21 pm21 cd21 ct21 : Value}
    {f22 : Addr} {od22 an22 : Option Addr} {sl22 : Array (Option Value)} {oc22 kV22 dc22 pm22 cd22 ct22 : Value}
    {f23 : Addr} {od23 an23 : Option Addr} {sl23 : Array (Option Value)} {oc23 kV23 dc23 pm23 cd23 ct23 : Value}
    {f24 : Addr} {od24 an24 : Option Addr} {sl24 : Array (Option Value)} {oc24 kV24 dc24 pm24 cd24 ct24 : Value}
    {f25 : Addr} {od25 an25 : Option Addr} {sl25 : Array (Option Value)} {oc25 kV25 dc25 pm25 cd25 ct25 : Value}
    {f26 : Addr} {od26 an26 : Option Addr} {sl26 : Array (Option Value)} {oc26 kV26 dc26 pm26 cd26 ct26 : Value}
    {f27 : Addr} {od27 an27 : Option Addr} {sl27 : Array (Option Value)} {oc27 kV27 dc27 pm27 cd27 ct27 : Value}
    {f28 : Addr} {od28 an28 : Option Addr} {sl28 : Array (Option Value)} {oc28 kV28 dc28 pm28 cd28 ct28 : Value}
    {f29 : Addr} {od29 an29 : Option Addr} {sl29 : Array (Option Value)} {oc29 kV29 dc29 pm29 cd29 ct29 : Value}
    {f30 : Addr} {od30 an30 : Option Addr} {sl30 : Array (Option Value)} {oc30 kV30 dc30 pm30 cd30 ct30 : Value}
    {f31 : Addr} {od31 an31 : Option Addr} {sl31 : Array (Option Value)} {oc31 kV31 dc31 pm31 cd31 ct31 : Value}
    {f32 : Addr} {od32 an32 : Option Addr} {sl32 : Array (Option Value)} {oc32 kV32 dc32 pm32 cd32 ct32 : Value}
    {f33 : Addr} {od33 an33 : Option Addr} {sl33 : Array (Option Value)} {oc33 kV33 dc33 pm33 cd33 ct33 : Value}
    {f34 : Addr} {od34 an34 : Option Addr} {sl34 : Array (Option Value)} {oc34 kV34 dc34 pm34 cd34 ct34 : Value}
    {f35 : Addr} {od35 an35 : Option Addr} {sl35 : Array (Option Value)} {oc35 kV35 dc35 pm35 cd35 ct35 : Value}
    {f36 : Addr} {od36 an36 : Option Addr} {sl36 : Array (Option Value)} {oc36 kV36 dc36 pm36 cd36 ct36 : Value}
    {f37 : Addr} {od37 an37 : Option Addr} {sl37 : Array (Option Value)} {oc37 kV37 dc37 pm37 cd37 ct37 : Value}
    {f38 : Addr} {od38 an38 : Option Addr} {sl38 : Array (Option Value)} {oc38 kV38 dc38 pm38 cd38 ct38 : Value}
    {f39 : Addr} {od39 an39 : Option Addr} {sl39 : Array (Option Value)} {oc39 kV39 dc39 pm39 cd39 ct39 : Value}
    {f40 : Addr} {od40 an40 : Option Addr} {sl40 : Array (Option Value)} {oc40 kV40 dc40 pm40 cd40 ct40 : Value}
    {f41 : Addr} {od41 an41 : Option Addr} {sl41 : Array (Option Value)} {oc41 kV41 dc41 pm41 cd41 ct41 : Value}
    {vt1 : Tok}
    {vt2 : Tok}
    {vt3 : Tok}
    {vt4 : Tok}
    {vt5 : Tok}
    {vt6 : Tok}
    {vt7 : Tok}
    {vt8 : Tok}
    {va9 : Addr} {vd9 : Option Addr} {vn9 : Nat} {vs9 : Array (Option Value)} {vt9_0 vt9_1 vt9_2 vt9_3 vt9_4 vt9_5 vt9_6 vt9_7 vt9_8 vt9_9 vt9_10 vt9_11 vt9_12 vt9_13 vt9_14 : Tok}
    {vt10 : Tok}
    (a1 : PySem.W.nsIn K mainGlobals "is_name" = some (some (.ref f1))) (l1 : K.lookup f1 = some ⟨oc1, od1, .func (PySem.W.fnOf "is_name" "is_name" (defArgs sis_name) (defBody sis_name) (defScope sis_name) .none kV1 dc1 pm1 an1 cd1 ct1), sl1⟩) (c1 : PySem.W.codeIn K cd1 "is_name" = true) (k1 : PySem.W.keepIn K (.ref f1) = true)
    (a2 : PySem.W.nsIn K mainGlobals "run_end" = some (some (.ref f2))) (l2 : K.lookup f2 = some ⟨oc2, od2, .func (PySem.W.fnOf "run_end" "run_end" (defArgs srun_end) (defBody srun_end) (defScope srun_end) .none kV2 dc2 pm2 an2 cd2 ct2), sl2⟩) (c2 : PySem.W.codeIn K cd2 "run_end" = true) (k2 : PySem.W.keepIn K (.ref f2) = true)
    (a3 : PySem.W.nsIn K mainGlobals "word_end" = some (some (.ref f3))) (l3 : K.lookup f3 = some ⟨oc3, od3, .func (PySem.W.fnOf "word_end" "word_end" (defArgs sword_end) (defBody sword_end) (defScope sword_end) .none kV3 dc3 pm3 an3 cd3 ct3), sl3⟩) (c3 : PySem.W.codeIn K cd3 "word_end" = true) (k3 : PySem.W.keepIn K (.ref f3) = true)
    (a4 : PySem.W.nsIn K mainGlobals "number_end" = some (some (.ref f4))) (l4 : K.lookup f4 = some ⟨oc4, od4, .func (PySem.W.fnOf "number_end" "number_end" (defArgs snumber_end) (defBody snumber_end) (defScope snumber_end) .none kV4 dc4 pm4 an4 cd4 ct4), sl4⟩) (c4 : PySem.W.codeIn K cd4 "number_end" = true) (k4 : PySem.W.keepIn K (.ref f4) = true)
    (a5 : PySem.W.nsIn K mainGlobals "sign_end" = some (some (.ref f5))) (l5 : K.lookup f5 = some ⟨oc5, od5, .func (PySem.W.fnOf "sign_end" "sign_end" (defArgs ssign_end) (defBody ssign_end) (defScope ssign_end) .none kV5 dc5 pm5 an5 cd5 ct5), sl5⟩) (c5 : PySem.W.codeIn K cd5 "sign_end" = true) (k5 : PySem.W.keepIn K (.ref f5) = true)
    (a6 : PySem.W.nsIn K mainGlobals "signs_of" = some (some (.ref f6))) (l6 : K.lookup f6 = some ⟨oc6, od6, .func (PySem.W.fnOf "signs_of" "signs_of" (defArgs ssigns_of) (defBody ssigns_of) (defScope ssigns_of) .none kV6 dc6 pm6 an6 cd6 ct6), sl6⟩) (c6 : PySem.W.codeIn K cd6 "signs_of" = true) (k6 : PySem.W.keepIn K (.ref f6) = true)
    (aCReader : PySem.W.nsIn K mainGlobals "Reader" = some (some (.ref CReader))) (pgReader : PySem.W.plainGet K CReader Str.empty = true) (hdReader : PySem.W.hasDictIn K CReader = true) (poReader : PySem.W.plainOver K CReader = true) (saReader : PySem.W.findIn K (.ref CReader) "__setattr__" = some (some (.builtin "object.__setattr__"))) (mkReader : PySem.W.makesIn K CReader = true) (kcReader : PySem.W.keepIn K (.ref CReader) = true)
    (naReader_0 : PySem.W.findIn K (.ref CReader) "signs" = some none)
    (naReader_1 : PySem.W.findIn K (.ref CReader) "place" = some none)
    (naReader_2 : PySem.W.findIn K (.ref CReader) "things" = some none)
    (naReader_3 : PySem.W.findIn K (.ref CReader) "depth" = some none)
    (a7 : PySem.W.findIn K (.ref CReader) "__init__" = some (some (.ref f7))) (i7 : PySem.W.isFn K (.ref f7) = true) (l7 : K.lookup f7 = some ⟨oc7, od7, .func (PySem.W.fnOf "__init__" "Reader.__init__" (defArgs sReader___init__) (defBody sReader___init__) (defScope sReader___init__) .none kV7 dc7 pm7 an7 cd7 ct7), sl7⟩) (c7 : PySem.W.codeIn K cd7 "Reader.__init__" = true) (k7 : PySem.W.keepIn K (.ref f7) = true)
    (a8 : PySem.W.findIn K (.ref CReader) "sign" = some (some (.ref f8))) (i8 : PySem.W.isFn K (.ref f8) = true) (l8 : K.lookup f8 = some ⟨oc8, od8, .func (PySem.W.fnOf "sign" "Reader.sign" (defArgs sReader_sign) (defBody sReader_sign) (defScope sReader_sign) .none kV8 dc8 pm8 an8 cd8 ct8), sl8⟩) (c8 : PySem.W.codeIn K cd8 "Reader.sign" = true) (k8 : PySem.W.keepIn K (.ref f8) = true)
    (a9 : PySem.W.findIn K (.ref CReader) "spot" = some (some (.ref f9))) (i9 : PySem.W.isFn K (.ref f9) = true) (l9 : K.lookup f9 = some ⟨oc9, od9, .func (PySem.W.fnOf "spot" "Reader.spot" (defArgs sReader_spot) (defBody sReader_spot) (defScope sReader_spot) .none kV9 dc9 pm9 an9 cd9 ct9), sl9⟩) (c9 : PySem.W.codeIn K cd9 "Reader.spot" = true) (k9 : PySem.W.keepIn K (.ref f9) = true)
    (a10 : PySem.W.findIn K (.ref CReader) "take_if" = some (some (.ref f10))) (i10 : PySem.W.isFn K (.ref f10) = true) (l10 : K.lookup f10 = some ⟨oc10, od10, .func (PySem.W.fnOf "take_if" "Reader.take_if" (defArgs sReader_take_if) (defBody sReader_take_if) (defScope sReader_take_if) .none kV10 dc10 pm10 an10 cd10 ct10), sl10⟩) (c10 : PySem.W.codeIn K cd10 "Reader.take_if" = true) (k10 : PySem.W.keepIn K (.ref f10) = true)
    (a11 : PySem.W.findIn K (.ref CReader) "take" = some (some (.ref f11))) (i11 : PySem.W.isFn K (.ref f11) = true) (l11 : K.lookup f11 = some ⟨oc11, od11, .func (PySem.W.fnOf "take" "Reader.take" (defArgs sReader_take) (defBody sReader_take) (defScope sReader_take) .none kV11 dc11 pm11 an11 cd11 ct11), sl11⟩) (c11 : PySem.W.codeIn K cd11 "Reader.take" = true) (k11 : PySem.W.keepIn K (.ref f11) = true)
    (a12 : PySem.W.findIn K (.ref CReader) "take_name" = some (some (.ref f12))) (i12 : PySem.W.isFn K (.ref f12) = true) (l12 : K.lookup f12 = some ⟨oc12, od12, .func (PySem.W.fnOf "take_name" "Reader.take_name" (defArgs sReader_take_name) (defBody sReader_take_name) (defScope sReader_take_name) .none kV12 dc12 pm12 an12 cd12 ct12), sl12⟩) (c12 : PySem.W.codeIn K cd12 "Reader.take_name" = true) (k12 : PySem.W.keepIn K (.ref f12) = true)
    (a13 : PySem.W.findIn K (.ref CReader) "take_number" = some (some (.ref f13))) (i13 : PySem.W.isFn K (.ref f13) = true) (l13 : K.lookup f13 = some ⟨oc13, od13, .func (PySem.W.fnOf "take_number" "Reader.take_number" (defArgs sReader_take_number) (defBody sReader_take_number) (defScope sReader_take_number) .none kV13 dc13 pm13 an13 cd13 ct13), sl13⟩) (c13 : PySem.W.codeIn K cd13 "Reader.take_number" = true) (k13 : PySem.W.keepIn K (.ref f13) = true)
    (a14 : PySem.W.nsIn K mainGlobals "read_plan" = some (some (.ref f14))) (l14 : K.lookup f14 = some ⟨oc14, od14, .func (PySem.W.fnOf "read_plan" "read_plan" (defArgs sread_plan) (defBody sread_plan) (defScope sread_plan) .none kV14 dc14 pm14 an14 cd14 ct14), sl14⟩) (c14 : PySem.W.codeIn K cd14 "read_plan" = true) (k14 : PySem.W.keepIn K (.ref f14) = true)
    (a15 : PySem.W.nsIn K mainGlobals "read_body" = some (some (.ref f15))) (l15 : K.lookup f15 = some ⟨oc15, od15, .func (PySem.W.fnOf "read_body" "read_body" (defArgs sread_body) (defBody sread_body) (defScope sread_body) .none kV15 dc15 pm15 an15 cd15 ct15), sl15⟩) (c15 : PySem.W.codeIn K cd15 "read_body" = true) (k15 : PySem.W.keepIn K (.ref f15) = true)
    (a16 : PySem.W.nsIn K mainGlobals "read_thing" = some (some (.ref f16))) (l16 : K.lookup f16 = some ⟨oc16, od16, .func (PySem.W.fnOf "read_thing" "read_thing" (defArgs sread_thing) (defBody sread_thing) (defScope sread_thing) .none kV16 dc16 pm16 an16 cd16 ct16), sl16⟩) (c16 : PySem.W.codeIn K cd16 "read_thing" = true) (k16 : PySem.W.keepIn K (.ref f16) = true)
    (a17 : PySem.W.nsIn K mainGlobals "read_bracket" = some (some (.ref f17))) (l17 : K.lookup f17 = some ⟨oc17, od17, .func (PySem.W.fnOf "read_bracket" "read_bracket" (defArgs sread_bracket) (defBody sread_bracket) (defScope sread_bracket) .none kV17 dc17 pm17 an17 cd17 ct17), sl17⟩) (c17 : PySem.W.codeIn K cd17 "read_bracket" = true) (k17 : PySem.W.keepIn K (.ref f17) = true)
    (a18 : PySem.W.nsIn K mainGlobals "read_end" = some (some (.ref f18))) (l18 : K.lookup f18 = some ⟨oc18, od18, .func (PySem.W.fnOf "read_end" "read_end" (defArgs sread_end) (defBody sread_end) (defScope sread_end) .none kV18 dc18 pm18 an18 cd18 ct18), sl18⟩) (c18 : PySem.W.codeIn K cd18 "read_end" = true) (k18 : PySem.W.keepIn K (.ref f18) = true)
    (a19 : PySem.W.nsIn K mainGlobals "read_step" = some (some (.ref f19))) (l19 : K.lookup f19 = some ⟨oc19, od19, .func (PySem.W.fnOf "read_step" "read_step" (defArgs sread_step) (defBody sread_step) (defScope sread_step) .none kV19 dc19 pm19 an19 cd19 ct19), sl19⟩) (c19 : PySem.W.codeIn K cd19 "read_step" = true) (k19 : PySem.W.keepIn K (.ref f19) = true)
    (a20 : PySem.W.nsIn K mainGlobals "read_for" = some (some (.ref f20))) (l20 : K.lookup f20 = some ⟨oc20, od20, .func (PySem.W.fnOf "read_for" "read_for" (defArgs sread_for) (defBody sread_for) (defScope sread_for) .none kV20 dc20 pm20 an20 cd20 ct20), sl20⟩) (c20 : PySem.W.codeIn K cd20 "read_for" = true) (k20 : PySem.W.keepIn K (.ref f20) = true)
    (a21 : PySem.W.nsIn K mainGlobals "read_if" = some (some (.ref f21))) (l21 : K.lookup f21 = some ⟨oc21, od21, .func (PySem.W.fnOf "read_if" "read_if" (defArgs sread_if) (defBody sread_if) (defScope sread_if) .none kV21 dc21 pm21 an21 cd21 ct21), sl21⟩) (c21 : PySem.W.codeIn K cd21 "read_if" = true) (k21 : PySem.W.keepIn K (.ref f21) = true)
    (a22 : PySem.W.nsIn K mainGlobals "read_double" = some (some (.ref f22))) (l22 : K.lookup f22 = some ⟨oc22, od22, .func (PySem.W.fnOf "read_double" "read_double" (defArgs sread_double) (defBody sread_double) (defScope sread_double) .none kV22 dc22 pm22 an22 cd22 ct22), sl22⟩) (c22 : PySem.W.codeIn K cd22 "read_double" = true) (k22 : PySem.W.keepIn K (.ref f22) = true)
    (a23 : PySem.W.nsIn K mainGlobals "read_call" = some (some (.ref f23))) (l23 : K.lookup f23 = some ⟨oc23, od23, .func (PySem.W.fnOf "read_call" "read_call" (defArgs sread_call) (defBody sread_call) (defScope sread_call) .none kV23 dc23 pm23 an23 cd23 ct23), sl23⟩) (c23 : PySem.W.codeIn K cd23 "read_call" = true) (k23 : PySem.W.keepIn K (.ref f23) = true)
    (a24 : PySem.W.nsIn K mainGlobals "read_again" = some (some (.ref f24))) (l24 : K.lookup f24 = some ⟨oc24, od24, .func (PySem.W.fnOf "read_again" "read_again" (defArgs sread_again) (defBody sread_again) (defScope sread_again) .none kV24 dc24 pm24 an24 cd24 ct24), sl24⟩) (c24 : PySem.W.codeIn K cd24 "read_again" = true) (k24 : PySem.W.keepIn K (.ref f24) = true)
    (a25 : PySem.W.nsIn K mainGlobals "_law_begin" = some (some (.ref f25))) (l25 : K.lookup f25 = some ⟨oc25, od25, .func (PySem.W.fnOf "_law_begin" "_law_begin" (defArgs sl_begin) (defBody sl_begin) (defScope sl_begin) .none kV25 dc25 pm25 an25 cd25 ct25), sl25⟩) (c25 : PySem.W.codeIn K cd25 "_law_begin" = true) (k25 : PySem.W.keepIn K (.ref f25) = true)
    (a26 : PySem.W.nsIn K mainGlobals "_law_take" = some (some (.ref f26))) (l26 : K.lookup f26 = some ⟨oc26, od26, .func (PySem.W.fnOf "_law_take" "_law_take" (defArgs sl_take) (defBody sl_take) (defScope sl_take) .none kV26 dc26 pm26 an26 cd26 ct26), sl26⟩) (c26 : PySem.W.codeIn K cd26 "_law_take" = true) (k26 : PySem.W.keepIn K (.ref f26) = true)
    (a27 : PySem.W.nsIn K mainGlobals "_law_pick" = some (some (.ref f27))) (l27 : K.lookup f27 = some ⟨oc27, od27, .func (PySem.W.fnOf "_law_pick" "_law_pick" (defArgs sl_pick) (defBody sl_pick) (defScope sl_pick) .none kV27 dc27 pm27 an27 cd27 ct27), sl27⟩) (c27 : PySem.W.codeIn K cd27 "_law_pick" = true) (k27 : PySem.W.keepIn K (.ref f27) = true)
    (a28 : PySem.W.nsIn K mainGlobals "_law_some_end" = some (some (.ref f28))) (l28 : K.lookup f28 = some ⟨oc28, od28, .func (PySem.W.fnOf "_law_some_end" "_law_some_end" (defArgs sl_some_end) (defBody sl_some_end) (defScope sl_some_end) .none kV28 dc28 pm28 an28 cd28 ct28), sl28⟩) (c28 : PySem.W.codeIn K cd28 "_law_some_end" = true) (k28 : PySem.W.keepIn K (.ref f28) = true)
    (a29 : PySem.W.nsIn K mainGlobals "_law_leaf" = some (some (.ref f29))) (l29 : K.lookup f29 = some ⟨oc29, od29, .func (PySem.W.fnOf "_law_leaf" "_law_leaf" (defArgs sl_leaf) (defBody sl_leaf) (defScope sl_leaf) .none kV29 dc29 pm29 an29 cd29 ct29), sl29⟩) (c29 : PySem.W.codeIn K cd29 "_law_leaf" = true) (k29 : PySem.W.keepIn K (.ref f29) = true)
    (a30 : PySem.W.nsIn K mainGlobals "_law_kept_words" = some (some (.ref f30))) (l30 : K.lookup f30 = some ⟨oc30, od30, .func (PySem.W.fnOf "_law_kept_words" "_law_kept_words" (defArgs sl_kept_words) (defBody sl_kept_words) (defScope sl_kept_words) .none kV30 dc30 pm30 an30 cd30 ct30), sl30⟩) (c30 : PySem.W.codeIn K cd30 "_law_kept_words" = true) (k30 : PySem.W.keepIn K (.ref f30) = true)
    (a31 : PySem.W.nsIn K mainGlobals "_law_fresh" = some (some (.ref f31))) (l31 : K.lookup f31 = some ⟨oc31, od31, .func (PySem.W.fnOf "_law_fresh" "_law_fresh" (defArgs sl_fresh) (defBody sl_fresh) (defScope sl_fresh) .none kV31 dc31 pm31 an31 cd31 ct31), sl31⟩) (c31 : PySem.W.codeIn K cd31 "_law_fresh" = true) (k31 : PySem.W.keepIn K (.ref f31) = true)
    (a32 : PySem.W.nsIn K mainGlobals "_law_drawn_thing" = some (some (.ref f32))) (l32 : K.lookup f32 = some ⟨oc32, od32, .func (PySem.W.fnOf "_law_drawn_thing" "_law_drawn_thing" (defArgs sl_drawn_thing) (defBody sl_drawn_thing) (defScope sl_drawn_thing) .none kV32 dc32 pm32 an32 cd32 ct32), sl32⟩) (c32 : PySem.W.codeIn K cd32 "_law_drawn_thing" = true) (k32 : PySem.W.keepIn K (.ref f32) = true)
    (a33 : PySem.W.nsIn K mainGlobals "_law_drawn_body" = some (some (.ref f33))) (l33 : K.lookup f33 = some ⟨oc33, od33, .func (PySem.W.fnOf "_law_drawn_body" "_law_drawn_body" (defArgs sl_drawn_body) (defBody sl_drawn_body) (defScope sl_drawn_body) .none kV33 dc33 pm33 an33 cd33 ct33), sl33⟩) (c33 : PySem.W.codeIn K cd33 "_law_drawn_body" = true) (k33 : PySem.W.keepIn K (.ref f33) = true)
    (a34 : PySem.W.nsIn K mainGlobals "_law_drawn" = some (some (.ref f34))) (l34 : K.lookup f34 = some ⟨oc34, od34, .func (PySem.W.fnOf "_law_drawn" "_law_drawn" (defArgs sl_drawn) (defBody sl_drawn) (defScope sl_drawn) .none kV34 dc34 pm34 an34 cd34 ct34), sl34⟩) (c34 : PySem.W.codeIn K cd34 "_law_drawn" = true) (k34 : PySem.W.keepIn K (.ref f34) = true)
    (a35 : PySem.W.nsIn K mainGlobals "_law_spaced" = some (some (.ref f35))) (l35 : K.lookup f35 = some ⟨oc35, od35, .func (PySem.W.fnOf "_law_spaced" "_law_spaced" (defArgs sl_spaced) (defBody sl_spaced) (defScope sl_spaced) .none kV35 dc35 pm35 an35 cd35 ct35), sl35⟩) (c35 : PySem.W.codeIn K cd35 "_law_spaced" = true) (k35 : PySem.W.keepIn K (.ref f35) = true)
    (a36 : PySem.W.nsIn K mainGlobals "_law_end_text" = some (some (.ref f36))) (l36 : K.lookup f36 = some ⟨oc36, od36, .func (PySem.W.fnOf "_law_end_text" "_law_end_text" (defArgs sl_end_text) (defBody sl_end_text) (defScope sl_end_text) .none kV36 dc36 pm36 an36 cd36 ct36), sl36⟩) (c36 : PySem.W.codeIn K cd36 "_law_end_text" = true) (k36 : PySem.W.keepIn K (.ref f36) = true)
    (a37 : PySem.W.nsIn K mainGlobals "_law_thing_text" = some (some (.ref f37))) (l37 : K.lookup f37 = some ⟨oc37, od37, .func (PySem.W.fnOf "_law_thing_text" "_law_thing_text" (defArgs sl_thing_text) (defBody sl_thing_text) (defScope sl_thing_text) .none kV37 dc37 pm37 an37 cd37 ct37), sl37⟩) (c37 : PySem.W.codeIn K cd37 "_law_thing_text" = true) (k37 : PySem.W.keepIn K (.ref f37) = true)
    (a38 : PySem.W.nsIn K mainGlobals "_law_written" = some (some (.ref f38))) (l38 : K.lookup f38 = some ⟨oc38, od38, .func (PySem.W.fnOf "_law_written" "_law_written" (defArgs sl_written) (defBody sl_written) (defScope sl_written) .none kV38 dc38 pm38 an38 cd38 ct38), sl38⟩) (c38 : PySem.W.codeIn K cd38 "_law_written" = true) (k38 : PySem.W.keepIn K (.ref f38) = true)
    (a39 : PySem.W.nsIn K mainGlobals "_law_loose" = some (some (.ref f39))) (l39 : K.lookup f39 = some ⟨oc39, od39, .func (PySem.W.fnOf "_law_loose" "_law_loose" (defArgs sl_loose) (defBody sl_loose) (defScope sl_loose) .none kV39 dc39 pm39 an39 cd39 ct39), sl39⟩) (c39 : PySem.W.codeIn K cd39 "_law_loose" = true) (k39 : PySem.W.keepIn K (.ref f39) = true)
    (a40 : PySem.W.nsIn K mainGlobals "_law_same" = some (some (.ref f40))) (l40 : K.lookup f40 = some ⟨oc40, od40, .func (PySem.W.fnOf "_law_same" "_law_same" (defArgs sl_same) (defBody sl_same) (defScope sl_same) .none kV40 dc40 pm40 an40 cd40 ct40), sl40⟩) (c40 : PySem.W.codeIn K cd40 "_law_same" = true) (k40 : PySem.W.keepIn K (.ref f40) = true)
    (a41 : PySem.W.nsIn K mainGlobals "law" = some (some (.ref f41))) (l41 : K.lookup f41 = some ⟨oc41, od41, .func (PySem.W.fnOf "law" "law" (defArgs slaw) (defBody slaw) (defScope slaw) .none kV41 dc41 pm41 an41 cd41 ct41), sl41⟩) (c41 : PySem.W.codeIn K cd41 "law" = true) (k41 : PySem.W.keepIn K (.ref f41) = true)
    (z1 : PySem.W.nsIn K mainGlobals "abs" = some none)
    (z2 : PySem.W.nsIn K mainGlobals "all" = some none)
    (z3 : PySem.W.nsIn K mainGlobals "bool" = some none)
    (z4 : PySem.W.nsIn K mainGlobals "int" = some none)
    (z5 : PySem.W.nsIn K mainGlobals "isinstance" = some none)
    (z6 : PySem.W.nsIn K mainGlobals "len" = some none)
    (z7 : PySem.W.nsIn K mainGlobals "list" = some none)
    (z8 : PySem.W.nsIn K mainGlobals "range" = some none)
    (z9 : PySem.W.nsIn K mainGlobals "read_rest" = some none)
    (z10 : PySem.W.nsIn K mainGlobals "sorted" = some none)
    (z11 : PySem.W.nsIn K mainGlobals "str" = some none)
    (z12 : PySem.W.nsIn K mainGlobals "tuple" = some none)
    (z13 : PySem.W.nsIn K mainGlobals "zip" = some none)
    (v1 : PySem.W.nsIn K mainGlobals "MOST_LETTERS" = some (some (.int 8 vt1)))
    (v2 : PySem.W.nsIn K mainGlobals "MOST_NUMBER_FIGURES" = some (some (.int 2 vt2)))
    (v3 : PySem.W.nsIn K mainGlobals "MOST_NUMBER" = some (some (.int 99 vt3)))
    (v4 : PySem.W.nsIn K mainGlobals "MOST_AGAIN" = some (some (.int 9 vt4)))
    (v5 : PySem.W.nsIn K mainGlobals "MOST_THINGS" = some (some (.int 12 vt5)))
    (v6 : PySem.W.nsIn K mainGlobals "MOST_BRACKETS" = some (some (.int 4 vt6)))
    (v7 : PySem.W.nsIn K mainGlobals "LETTERS" = some (some (.str "abcdefghijklmnopqrstuvwxyz" vt7)))
    (v8 : PySem.W.nsIn K mainGlobals "FIGURES" = some (some (.str "0123456789" vt8)))
    (v9 : PySem.W.nsIn K mainGlobals "NO_NAMES" = some (some (.ref va9))) (w9 : K.lookup va9 = some ⟨.type "tuple", vd9, .seq #[.str "step" vt9_0, .str "for" vt9_1, .str "from" vt9_2, .str "to" vt9_3, .str "if" vt9_4, .str "else" vt9_5, .str "double" vt9_6, .str "call" vt9_7, .str "with" vt9_8, .str "again" vt9_9, .str "on" vt9_10, .str "halves" vt9_11, .str "thirds" vt9_12, .str "less" vt9_13, .str "n" vt9_14] vn9, vs9⟩)
    (v10 : PySem.W.nsIn K mainGlobals "SINGLE_SIGNS" = some (some (.str "();+-" vt10)))
    {da1 : Addr} {de1 : Array DictEntry} {dn1 : Nat} (dv1 : PySem.W.nsIn K mainGlobals "READERS" = some (some (.ref da1))) (dl1 : K.lookup da1 = some ⟨.type "dict", none, .dict de1 dn1, #[]⟩) (dk1 : PySem.W.KeysLit w.params de1.toList) (dw1 : (da1 == sysModules) = false)
    (dx1_0 : PySem.W.nsIn K da1 "step" = some (some (.ref f19)))
    (dx1_1 : PySem.W.nsIn K da1 "for" = some (some (.ref f20)))
    (dx1_2 : PySem.W.nsIn K da1 "if" = some (some (.ref f21)))
    (dx1_3 : PySem.W.nsIn K da1 "double" = some (some (.ref f22)))
    (dx1_4 : PySem.W.nsIn K da1 "call" = some (some (.ref f23)))
    (dx1_5 : PySem.W.nsIn K da1 "again" = some (some (.ref f24))) :
    ∃ T : Tops w K mg, T.flaw = fa := by
  have e := hfa.symm.trans (PySem.W.mg_of X G a41)
  refine ⟨{ fis_name := f1, dis_name := _, Fis_name := (fun_mk (st := sis_name) l1 c1 k1), gis_name := (PySem.W.mg_of X G a1), frun_end := f2, drun_end := _, Frun_end := (fun_mk (st := srun_end) l2 c2 k2), grun_end := (PySem.W.mg_of X G a2), fword_end := f3, dword_end := _, Fword_end := (fun_mk (st := sword_end) l3 c3 k3), gword_end := (PySem.W.mg_of X G a3), fnumber_end := f4, dnumber_end := _, Fnumber_end := (fun_mk (st := snumber_end) l4 c4 k4), gnumber_end := (PySem.W.mg_of X G a4), fsign_end := f5, dsign_end := _, Fsign_end := (fun_mk (st := ssign_end) l5 c5 k5), gsign_end := (PySem.W.mg_of X G a5), fsigns_of := f6, dsigns_of := _, Fsigns_of := (fun_mk (st := ssigns_of) l6 c6 k6), gsigns_of := (PySem.W.mg_of X G a6), CReader := CReader, clReader := ⟨pgReader, hdReader, poReader, saReader⟩, gReader := (PySem.W.mg_of X G aCReader), naReader_signs := naReader_0, naReader_place := naReader_1, naReader_things := naReader_2, naReader_depth := naReader_3, fReader___init__ := f7, dReader___init__ := _, FReader___init__ := (fun_mk (st := sReader___init__) l7 c7 k7), mkReader := ⟨mkReader, a7, i7, kcReader⟩, fReader_sign := f8, dReader_sign := _, FReader_sign := (fun_mk (st := sReader_sign) l8 c8 k8), mtReader_sign := ⟨a8, i8, k8⟩, fReader_spot := f9, dReader_spot := _, FReader_spot := (fun_mk (st := sReader_spot) l9 c9 k9), mtReader_spot := ⟨a9, i9, k9⟩, fReader_take_if := f10, dReader_take_if := _, FReader_take_if := (fun_mk (st := sReader_take_if) l10 c10 k10), mtReader_take_if := ⟨a10, i10, k10⟩, fReader_take := f11, dReader_take := _, FReader_take := (fun_mk (st := sReader_take) l11 c11 k11), mtReader_take := ⟨a11, i11, k11⟩, fReader_take_name := f12, dReader_take_name := _, FReader_take_name := (fun_mk (st := sReader_take_name) l12 c12 k12), mtReader_take_name := ⟨a12, i12, k12⟩, fReader_take_number := f13, dReader_take_number := _, FReader_take_number := (fun_mk (st := sReader_take_number) l13 c13 k13), mtReader_take_number := ⟨a13, i13, k13⟩, fread_plan := f14, dread_plan := _, Fread_plan := (fun_mk (st := sread_plan) l14 c14 k14), gread_plan := (PySem.W.mg_of X G a14), fread_body := f15, dread_body := _, Fread_body := (fun_mk (st := sread_body) l15 c15 k15), gread_body := (PySem.W.mg_of X G a15), fread_thing := f16, dread_thing := _, Fread_thing := (fun_mk (st := sread_thing) l16 c16 k16), gread_thing := (PySem.W.mg_of X G a16), fread_bracket := f17, dread_bracket := _, Fread_bracket := (fun_mk (st := sread_bracket) l17 c17 k17), gread_bracket := (PySem.W.mg_of X G a17), fread_end := f18, dread_end := _, Fread_end := (fun_mk (st := sread_end) l18 c18 k18), gread_end := (PySem.W.mg_of X G a18), fread_step := f19, dread_step := _, Fread_step := (fun_mk (st := sread_step) l19 c19 k19), gread_step := (PySem.W.mg_of X G a19), fread_for := f20, dread_for := _, Fread_for := (fun_mk (st := sread_for) l20 c20 k20), gread_for := (PySem.W.mg_of X G a20), fread_if := f21, dread_if := _, Fread_if := (fun_mk (st := sread_if) l21 c21 k21), gread_if := (PySem.W.mg_of X G a21), fread_double := f22, dread_double := _, Fread_double := (fun_mk (st := sread_double) l22 c22 k22), gread_double := (PySem.W.mg_of X G a22), fread_call := f23, dread_call := _, Fread_call := (fun_mk (st := sread_call) l23 c23 k23), gread_call := (PySem.W.mg_of X G a23), fread_again := f24, dread_again := _, Fread_again := (fun_mk (st := sread_again) l24 c24 k24), gread_again := (PySem.W.mg_of X G a24), fl_begin := f25, dl_begin := _, Fl_begin := (fun_mk (st := sl_begin) l25 c25 k25), gl_begin := (PySem.W.mg_of X G a25), fl_take := f26, dl_take := _, Fl_take := (fun_mk (st := sl_take) l26 c26 k26), gl_take := (PySem.W.mg_of X G a26), fl_pick := f27, dl_pick := _, Fl_pick := (fun_mk (st := sl_pick) l27 c27 k27), gl_pick := (PySem.W.mg_of X G a27), fl_some_end := f28, dl_some_end := _, Fl_some_end := (fun_mk (st := sl_some_end) l28 c28 k28), gl_some_end := (PySem.W.mg_of X G a28), fl_leaf := f29, dl_leaf := _, Fl_leaf := (fun_mk (st := sl_leaf) l29 c29 k29), gl_leaf := (PySem.W.mg_of X G a29), fl_kept_words := f30, dl_kept_words := _, Fl_kept_words := (fun_mk (st := sl_kept_words) l30 c30 k30), gl_kept_words := (PySem.W.mg_of X G a30), fl_fresh := f31, dl_fresh := _, Fl_fresh := (fun_mk (st := sl_fresh) l31 c31 k31), gl_fresh := (PySem.W.mg_of X G a31), fl_drawn_thing := f32, dl_drawn_thing := _, Fl_drawn_thing := (fun_mk (st := sl_drawn_thing) l32 c32 k32), gl_drawn_thing := (PySem.W.mg_of X G a32), fl_drawn_body := f33, dl_drawn_body := _, Fl_drawn_body := (fun_mk (st := sl_drawn_body) l33 c33 k33), gl_drawn_body := (PySem.W.mg_of X G a33), fl_drawn := f34, dl_drawn := _, Fl_drawn := (fun_mk (st := sl_drawn) l34 c34 k34), gl_drawn := (PySem.W.mg_of X G a34), fl_spaced := f35, dl_spaced := _, Fl_spaced := (fun_mk (st := sl_spaced) l35 c35 k35), gl_spaced := (PySem.W.mg_of X G a35), fl_end_text := f36, dl_end_text := _, Fl_end_text := (fun_mk (st := sl_end_text) l36 c36 k36), gl_end_text := (PySem.W.mg_of X G a36), fl_thing_text := f37, dl_thing_text := _, Fl_thing_text := (fun_mk (st := sl_thing_text) l37 c37 k37), gl_thing_text := (PySem.W.mg_of X G a37), fl_written := f38, dl_written := _, Fl_written := (fun_mk (st := sl_written) l38 c38 k38), gl_written := (PySem.W.mg_of X G a38), fl_loose := f39, dl_loose := _, Fl_loose := (fun_mk (st := sl_loose) l39 c39 k39), gl_loose := (PySem.W.mg_of X G a39), fl_same := f40, dl_same := _, Fl_same := (fun_mk (st := sl_same) l40 c40 k40), gl_same := (PySem.W.mg_of X G a40), flaw := f41, dlaw := _, Flaw := (fun_mk (st := slaw) l41 c41 k41), glaw := (PySem.W.mg_of X G a41), mabs := PySem.W.mg_none_of X G z1, mall := PySem.W.mg_none_of X G z2, mbool := PySem.W.mg_none_of X G z3, mint := PySem.W.mg_none_of X G z4, misinstance := PySem.W.mg_none_of X G z5, mlen := PySem.W.mg_none_of X G z6, mlist := PySem.W.mg_none_of X G z7, mrange := PySem.W.mg_none_of X G z8, mread_rest := PySem.W.mg_none_of X G z9, msorted := PySem.W.mg_none_of X G z10, mstr := PySem.W.mg_none_of X G z11, mtuple := PySem.W.mg_none_of X G z12, mzip := PySem.W.mg_none_of X G z13, cMOST_LETTERS := ⟨_, PySem.W.mg_of X G v1, ⟨_, rfl⟩⟩, cMOST_NUMBER_FIGURES := ⟨_, PySem.W.mg_of X G v2, ⟨_, rfl⟩⟩, cMOST_NUMBER := ⟨_, PySem.W.mg_of X G v3, ⟨_, rfl⟩⟩, cMOST_AGAIN := ⟨_, PySem.W.mg_of X G v4, ⟨_, rfl⟩⟩, cMOST_THINGS := ⟨_, PySem.W.mg_of X G v5, ⟨_, rfl⟩⟩, cMOST_BRACKETS := ⟨_, PySem.W.mg_of X G v6, ⟨_, rfl⟩⟩, cLETTERS := ⟨_, PySem.W.mg_of X G v7, ⟨_, rfl⟩⟩, cFIGURES := ⟨_, PySem.W.mg_of X G v8, ⟨_, rfl⟩⟩, aNO_NAMES := va9, cNO_NAMES := ⟨_, PySem.W.mg_of X G v9, rfl⟩, tNO_NAMES := fun H => .inr ⟨_, _, _, w9, rfl, rfl, (by show 15 ≤ sizeLine; decide), (.cons ⟨_, rfl⟩ (.cons ⟨_, rfl⟩ (.cons ⟨_, rfl⟩ (.cons ⟨_, rfl⟩ (.cons ⟨_, rfl⟩ (.cons ⟨_, rfl⟩ (.cons ⟨_, rfl⟩ (.cons ⟨_, rfl⟩ (.cons ⟨_, rfl⟩ (.cons ⟨_, rfl⟩ (.cons ⟨_, rfl⟩ (.cons ⟨_, rfl⟩ (.cons ⟨_, rfl⟩ (.cons ⟨_, rfl⟩ (.cons ⟨_, rfl⟩ .nil)))))))))))))))⟩, cSINGLE_SIGNS := ⟨_, PySem.W.mg_of X G v10, ⟨_, rfl⟩⟩, aREADERS := da1, cREADERS := ⟨_, PySem.W.mg_of X G dv1, rfl⟩, eREADERS := de1, nREADERS := dn1, DREADERS := ⟨dl1, dk1, dw1⟩, kREADERS_step := ⟨_, _, _, dl1, dk1, dx1_0, rfl⟩, sREADERS_step := dx1_0, kREADERS_for := ⟨_, _, _, dl1, dk1, dx1_1, rfl⟩, sREADERS_for := dx1_1, kREADERS_if := ⟨_, _, _, dl1, dk1, dx1_2, rfl⟩, sREADERS_if := dx1_2, kREADERS_double := ⟨_, _, _, dl1, dk1, dx1_3, rfl⟩, sREADERS_double := dx1_3, kREADERS_call := ⟨_, _, _, dl1, dk1, dx1_4, rfl⟩, sREADERS_call := dx1_4, kREADERS_again := ⟨_, _, _, dl1, dk1, dx1_5, rfl⟩, sREADERS_again := dx1_5 }, ?_⟩
  cases e
  rfl
end K03
open PySem PySem.W PyProof.Rows
set_option maxRecDepth 100000 in
set_option maxHeartbeats 0 in
theorem PySem.Challenge.cw_outgrow_k03_plans_read_holds : PySem.Challenge.rw_outgrow_k03_plans_read.Holds := by
  w_on; o_law; k_head; (case hw => w_witness2)
  k_fill
  refine L2.walk_of (l := PySem.Challenge.rw_outgrow_k03_plans_read) (n := 63) (k := 40) (x := "_law_script") (CX := fun _ => L2.CX0) (sp := fun w => OG.spLaw _) rfl (by decide) rfl ⟨rfl, by decide, by decide⟩ (fun w h Y => PySem.W.kIn_of Y) ?F (fun _ _ a ns hl _ hS => ⟨a, ns, rfl, hS, hl, fun _ => rfl⟩) (fun _ _ _ _ _ h => h)
  case F =>
    intro w mg fa h KX G hmg
    have hT := K03.all_mk (w := w) KX G hmg (by k_is) (by k_is) (by k_is) (by k_is) (by k_is) (by k_is) (by k_is) (by k_is) (by k_is) (by k_is) (by k_is) (by k_is) (by k_is) (by k_is) (by k_is) (by k_is) (by k_is) (by k_is) (by k_is) (by k_is) (by k_is) (by k_is) (by k_is) (by k_is) (by k_is) (by k_is) (by k_is) (by k_is) (by k_is) (by k_is) (by k_is) (by k_is) (by k_is) (by k_is) (by k_is) (by k_is) (by k_is) (by k_is) (by k_is) (by k_is) (by k_is) (by k_is) (by k_is) (by k_is) (by k_is) (by k_is) (by k_is) (by k_is) (by k_is) (by k_is) (by k_is) (by k_is) (by k_is) (by k_is) (by k_is) (by k_is) (by k_is) (by k_is) (by k_is) (by k_is) (by k_is) (by k_is) (by k_is) (by k_is) (by k_is) (by k_is) (by k_is) (by k_is) (by k_is) (by k_is) (by k_is) (by k_is) (by k_is) (by k_is) (by k_is) (by k_is) (by k_is) (by k_is) (by k_is) (by k_is) (by k_is) (by k_is) (by k_is) (by k_is) (by k_is) (by k_is) (by k_is) (by k_is) (by k_is) (by k_is) (by k_is) (by k_is) (by k_is) (by k_is) (by k_is) (by k_is) (by k_is) (by k_is) (by k_is) (by k_is) (by k_is) (by k_is) (by k_is) (by k_is) (by k_is) (by k_is) (by k_is) (by k_is) (by k_is) (by k_is) (by k_is) (by k_is) (by k_is) (by k_is) (by k_is) (by k_is) (by k_is) (by k_is) (by k_is) (by k_is) (by k_is) (by k_is) (by k_is) (by k_is) (by k_is) (by k_is) (by k_is) (by k_is) (by k_is) (by k_is) (by k_is) (by k_is) (by k_is) (by k_is) (by k_is) (by k_is) (by k_is) (by k_is) (by k_is) (by k_is) (by k_is) (by k_is) (by k_is) (by k_is) (by k_is) (by k_is) (by k_is) (by k_is) (by k_is) (by k_is) (by k_is) (by k_is) (by k_is) (by k_is) (by k_is) (by k_is) (by k_is) (by k_is) (by k_is) (by k_is) (by k_is) (by k_is) (by k_is) (by k_is) (by k_is) (by k_is) (by k_is) (by k_is) (by k_is) (by k_is) (by k_is) (by k_is) (by k_is) (by k_is) (by k_is) (by k_is) (by k_is) (by k_is) (by k_is) (by k_is) (by k_is) (by k_is) (by k_is) (by k_is) (by k_is) (by k_is) (by k_is) (by k_is) (by k_is) (by k_is) (by k_is) (by k_is) (by k_is) (by k_is) (by k_is) (by k_is) (by k_is) (by k_is) (by k_is) (by k_is) (by k_is) (by k_is) (by k_is) (by k_is) (by k_is) (by k_is) (by k_is) (by k_is) (by exact ⟨⟨_, _, rfl, rfl⟩, ⟨_, _, rfl, rfl⟩, ⟨_, _, rfl, rfl⟩, ⟨_, _, rfl, rfl⟩, ⟨_, _, rfl, rfl⟩, ⟨_, _, rfl, rfl⟩, trivial⟩) (by rfl) (by k_is) (by k_is) (by k_is) (by k_is) (by k_is) (by k_is)
    obtain ⟨T, rfl⟩ := hT
    exact ⟨T.dlaw, T.blaw, fun base _ _ => K03.ok_law T (by k_is)⟩
