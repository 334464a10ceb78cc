import PyProof.Rows.All
import Wide.All
import OpenK.AllK
import Wide.FinOn
import HandS.ForMost
import HandS.Walk
import HandS.Codes
import HandS.IsInst
import HandS.Style
import PySem.Challenge.RW_outgrow_k01_names_that_are_names
set_option Elab.async false
set_option linter.all false
set_option maxRecDepth 100000
set_option maxHeartbeats 4000000
namespace OG
open PySem PySem.Spec PyProof.Rows L2
open C8 (pss_cut pe_gc)

/-! ### heaps -/
theorem same_new {H : Hp} {p : Addr} {o : HO} (h : H p = none) : Same H (upd H p o) := fun b u e => by
  rw [upd_ne (ne_of_none e h)]
  exact e
/-- only the object at d may differ -/
def But (d : Addr) (H H' : Hp) : Prop := ∀ b, b ≠ d → H' b = H b
theorem But.refl (d : Addr) (H : Hp) : But d H H := fun _ _ => rfl
theorem But.trans {d : Addr} {H H1 H2 : Hp} (a : But d H H1) (b : But d H1 H2) : But d H H2 := fun x h => (b x h).trans (a x h)
theorem but_upd {d : Addr} {H : Hp} {o : HO} : But d H (upd H d o) := fun _ h => upd_ne h
/-- all that was tracked stands as it was, but for what M tells -/
def Sx (M : Addr → Prop) (H H' : Hp) : Prop := ∀ b u, ¬ M b → H b = some u → H' b = some u
theorem Sx.refl (M : Addr → Prop) (H : Hp) : Sx M H H := fun _ _ _ h => h
theorem Sx.trans {M : Addr → Prop} {H H1 H2 : Hp} (a : Sx M H H1) (b : Sx M H1 H2) : Sx M H H2 := fun c u n h => b c u n (a c u n h)
theorem Sx.of_same {M : Addr → Prop} {H H' : Hp} (a : Same H H') : Sx M H H' := fun b u _ h => a b u h
theorem Sx.of_but {M : Addr → Prop} {d : Addr} {H H' : Hp} (a : But d H H') (m : M d) : Sx M H H' := fun b u n h => by
  rw [a b (fun e => n (e ▸ m))]
  exact h
theorem Sx.mono {M N : Addr → Prop} {H H' : Hp} (a : Sx M H H') (h : ∀ b, M b → N b) : Sx N H H' := fun b u n e => a b u (fun m => n (h b m)) e
theorem Sx.upd_in {M : Addr → Prop} {H H' : Hp} {p : Addr} {o : HO} (a : Sx M H H') (m : M p) : Sx M H (upd H' p o) := fun b u n e => by
  have z : b ≠ p := fun z => n (by rw [z]; exact m)
  rw [upd_ne z]
  exact a b u n e
/-- what was not tracked ahead may be written -/
theorem Sx.upd_new {M : Addr → Prop} {H H' : Hp} {p : Addr} {o : HO} (a : Sx M H H') (h : H p = none) : Sx M H (upd H' p o) := fun b u n e => by
  rw [upd_ne (ne_of_none e h)]
  exact a b u n e
theorem Same.upd_new {H H' : Hp} {p : Addr} {o : HO} (a : Same H H') (h : H p = none) : Same H (upd H' p o) := fun b u e => by
  rw [upd_ne (ne_of_none e h)]
  exact a b u e
theorem but_none {d : Addr} {H H' : Hp} (a : But d H H') {p : Addr} (h : H' p = none) (hd : ∃ u, H' d = some u) : H p = none := by
  by_cases e : p = d
  · subst e
    obtain ⟨u, q⟩ := hd
    rw [q] at h
    cases h
  · rw [← a p e]
    exact h
theorem sz {n : Nat} (h : n ≤ 100000) : n ≤ sizeLine := Nat.le_trans h (by decide)
theorem szl {n : Nat} (h : n < 100000) : n < sizeLine := Nat.lt_of_lt_of_le h (by decide)

/-! ### texts -/
abbrev S (l : List Nat) : Str := ⟨l.toArray⟩
abbrev tl (x : Str) : List Nat := x.cps.toList
theorem S_tl (x : Str) : S (tl x) = x := by cases x; rfl
theorem len_tl (x : Str) : x.length = (tl x).length := by simp [Str.length, tl]
theorem len_S (l : List Nat) : (S l).length = l.length := by simp [Str.length, S]
theorem tl_S (l : List Nat) : tl (S l) = l := rfl

/-! ### the drawing -/
/-- the drawing's own list at d: the script's copy at L, a place, a rest, a seed -/
def Dr (H : Hp) (d L : Addr) : Prop := ∃ (ns : List Int) (i r s : Int), H d = some (.lst [.ref L, .int i, .int r, .int s]) ∧ H L = some (.lst (ns.map V.int)) ∧ 0 ≤ i ∧ 0 ≤ r ∧ 0 ≤ s ∧ s < 2147483647
theorem Dr.ne {H : Hp} {d L : Addr} (h : Dr H d L) : L ≠ d := by
  obtain ⟨ns, i, r, s, hd, hL, _⟩ := h
  refine ne_of hL hd fun z => ?_
  have z2 := HO.lst.inj z
  cases ns with
  | nil => cases z2
  | cons n r =>
    have z3 := (List.cons.inj z2).1
    cases z3
theorem Dr.some {H : Hp} {d L : Addr} (h : Dr H d L) : ∃ u, H d = some u := by
  obtain ⟨ns, i, r, s, hd, _⟩ := h
  exact ⟨_, hd⟩
theorem Dr.someL {H : Hp} {d L : Addr} (h : Dr H d L) : ∃ u, H L = Option.some u := by
  obtain ⟨ns, i, r, s, hd, hL, _⟩ := h
  exact ⟨_, hL⟩
theorem Dr.same {H H' : Hp} {d L : Addr} (h : Dr H d L) (a : Same H H') : Dr H' d L := by
  obtain ⟨ns, i, r, s, hd, hL, q⟩ := h
  exact ⟨ns, i, r, s, a _ _ hd, a _ _ hL, q⟩
theorem Dr.at {H H' : Hp} {d L : Addr} (h : Dr H d L) (a : H' d = H d) (b : H' L = H L) : Dr H' d L := by
  obtain ⟨ns, i, r, s, hd, hL, q⟩ := h
  exact ⟨ns, i, r, s, a.trans hd, b.trans hL, q⟩
theorem Dr.upd {H : Hp} {d L p : Addr} {o : HO} (h : Dr H d L) (n1 : p ≠ d) (n2 : p ≠ L) : Dr (upd H p o) d L := h.at (upd_ne n1.symm) (upd_ne n2.symm)
theorem Dr.new {H : Hp} {d L p : Addr} {o : HO} (h : Dr H d L) (n : H p = none) : Dr (L2.upd H p o) d L := h.same (same_new n)
theorem Dr.neNew {H : Hp} {d L p : Addr} (h : Dr H d L) (n : H p = none) : p ≠ d ∧ p ≠ L := by
  obtain ⟨u, q⟩ := h.some
  obtain ⟨u2, q2⟩ := h.someL
  exact ⟨(ne_of_none q n).symm, (ne_of_none q2 n).symm⟩
theorem dr_set {H : Hp} {d L : Addr} {ns : List Int} {i r s : Int} (hL : H L = some (.lst (ns.map V.int))) (ne : L ≠ d) (h1 : 0 ≤ i) (h2 : 0 ≤ r) (h3 : 0 ≤ s) (h4 : s < 2147483647) :
    Dr (upd H d (.lst [.ref L, .int i, .int r, .int s])) d L := ⟨ns, i, r, s, upd_same, by rw [upd_ne ne]; exact hL, h1, h2, h3, h4⟩
/-- _law_take(draw, sides) -/
def spTake : Sp := fun vs H Q _ => ∃ (d L : Addr) (k : Int), vs = [.ref d, .int k] ∧ Dr H d L ∧ 1 ≤ k ∧ k < 1073741824 ∧
  ∀ (g : Int) (H' : Hp), 0 ≤ g → g < k → Dr H' d L → But d H H' → Q (.int g) H'
/-- _law_begin(script) -/
def spBegin (K : PySem.W.Frag) : Sp := fun vs H Q _ => ∃ (a : Addr) (ns : List Int), vs = [.ref a] ∧ SqL K H a (ns.map V.int) ∧
  ∀ (d L : Addr) (H' : Hp), Same H H' → H d = none → H L = none → Dr H' d L → Q (.ref d) H'
/-- _law_pick(draw, row), row a text | a list of texts -/
def spPick (K : PySem.W.Frag) : Sp := fun vs H Q _ => ∃ (d L : Addr) (x : V) (n : Nat), vs = [.ref d, x] ∧ Dr H d L ∧ 0 < n ∧ n < 100000 ∧
  ((∃ z : Str, x = .str z ∧ z.length = n ∧ ∀ (c : Nat) (H' : Hp), c ∈ tl z → Dr H' d L → But d H H' → Q (.str ⟨#[c]⟩) H') ∨
   (∃ (a : Addr) (xs : List V), x = .ref a ∧ a ≠ d ∧ SqL K H a xs ∧ xs.length = n ∧ ∀ (y : V) (H' : Hp), y ∈ xs → Dr H' d L → But d H H' → Q y H'))
/-- what a SqL tells stays where its place is not written -/
theorem SqL.but {K : PySem.W.Frag} {H H' : Hp} {d a : Addr} {xs : List V} (h : SqL K H a xs) (b : But d H H') (n : a ≠ d) : SqL K H' a xs := by
  rcases h with (h | ⟨o, h⟩) | h
  · exact .inl (.inl (by rw [b a n]; exact h))
  · exact .inl (.inr ⟨o, by rw [b a n]; exact h⟩)
  · exact .inr h
theorem SqL.sx {K : PySem.W.Frag} {M : Addr → Prop} {H H' : Hp} {a : Addr} {xs : List V} (h : SqL K H a xs) (b : Sx M H H') (n : ¬ M a) : SqL K H' a xs := by
  rcases h with (h | ⟨o, h⟩) | h
  · exact .inl (.inl (b _ _ n h))
  · exact .inl (.inr ⟨o, b _ _ n h⟩)
  · exact .inr h

theorem mod_lt {a k : Int} (h : 1 ≤ k) : 0 ≤ a % k ∧ a % k < k := ⟨Int.emod_nonneg _ (by omega), Int.emod_lt_of_pos _ (by omega)⟩
theorem atI_lt {α : Type} {xs : List α} {g : Int} (h0 : 0 ≤ g) (h1 : g < (xs.length : Int)) : ∃ v, atI xs g = some v ∧ v ∈ xs := by
  have hk : g.toNat < xs.length := by omega
  have e : g = ((g.toNat : Nat) : Int) := by omega
  refine ⟨xs[g.toNat], ?_, List.getElem_mem hk⟩
  have q : atI xs ((g.toNat : Nat) : Int) = some xs[g.toNat] := atI_nat (List.getElem?_eq_getElem hk)
  rw [← e] at q
  exact q
theorem cut_len (xs : List V) (lo hi : Option Int) : (cutV xs lo hi).length ≤ xs.length := cutV_length xs lo hi
theorem cut_map (ns : List Int) (lo hi : Option Int) : ∃ ms : List Int, cutV (ns.map V.int) lo hi = ms.map V.int := by
  refine ⟨(ns.drop (HT.sIx ns.length 0 lo)).take (HT.sIx ns.length ns.length hi - HT.sIx ns.length 0 lo), ?_⟩
  unfold cutV
  rw [List.length_map, List.map_take, List.map_drop]
/-! ### a comprehension over a text's signs, its element of a plain value -/
theorem lc_str_val {z : Str} {g : TG} {te : TE} {vs : List Nat} {σ : L2.St} {H1 : Hp} {D : Addr} {Qd : Hp → Prop} (f : Nat → V) (i0 : Nat) (hg : g = gName i0) (hw : ∀ v, wipe ((wipe σ vs).set i0 v) vs = wipe σ vs) (hz : z.length < 100000) (hD : H1 D = none)
    (he : ∀ c ∈ tl z, ∀ (H2 : Hp) (Q : VK), Same H1 H2 → Q (f c) H2 → te ((wipe σ vs).set i0 (some (.str ⟨#[c]⟩))) H2 Q)
    (hd : ∀ H', Same H1 H' → H' D = some (.lst ((tl z).map f)) → Qd H') :
    ∃ W : Nat → Nat → Hp → Prop, (∃ m, W 0 m (upd H1 D (.lst []))) ∧ ∀ i m H, W i m H →
      ((Its z).stop i H ∧ Qd H) ∨ ((Its z).go i H ∧ ∃ Nx : Hp → Prop, (∀ H', Nx H' → ∃ m', m' < m ∧ W (i + 1) m' H') ∧ ∀ x H', (Its z).yld i H x H' → g x (wipe σ vs) H' fun σ2 H2 => wipe σ2 vs = wipe σ vs ∧ tYes σ2 H2 fun b H3 =>
        if b = true then te σ2 H3 fun y H4 => ∃ acc, H4 D = some (.lst acc) ∧ acc.length < sizeLine ∧ Nx (upd H4 D (.lst (acc ++ [y]))) else Nx H3) := by
  subst hg
  have el : z.cps.size = (tl z).length := by simp [tl]
  refine lc_it walk_str (fun i H' => Same H1 H' ∧ H' D = some (.lst (((tl z).take i).map f))) ⟨same_new hD, by rw [upd_same]; rfl⟩ (fun _ _ _ _ => trivial) (fun i x H H' hi hP hY => ?_) (fun H' hP => ?_)
  · obtain ⟨rfl, c, hc, rfl⟩ := hY
    obtain ⟨sm, hl⟩ := hP
    have hc2 : (tl z)[i]? = some c := by
      have q : z.cps.toList[i]? = z.cps[i]? := by simp
      exact q.trans hc
    refine ⟨hw _, ?_⟩
    dsimp only [tYes]
    rw [if_pos rfl]
    refine he c (List.mem_of_getElem? hc2) _ _ sm ?_
    refine ⟨_, hl, ?_, ?_, ?_⟩
    · rw [List.length_map, List.length_take]
      have := len_tl z
      exact szl (by omega)
    · exact Same.upd_new sm hD
    · rw [upd_same, List.take_add_one, hc2, List.map_append]
      rfl
  · obtain ⟨sm, hl⟩ := hP
    refine hd H' sm ?_
    rw [el, List.take_length] at hl
    exact hl
theorem yes_go {σ : L2.St} {H : Hp} {A B : Hp → Prop} (h : A H) : tYes σ H (fun b H3 => if b = true then A H3 else B H3) := h
theorem len_app (a b : Str) : (a ++ b).length = a.length + b.length := PySem.Str.length_append a b
theorem join1_len : ∀ cs : List Nat, (TL.joinL [] (cs.map fun c => [c])) = cs
  | [] => rfl
  | [c] => rfl
  | c :: e :: r => by
    have ih := join1_len (e :: r)
    show [c] ++ ([] ++ TL.joinL [] ((e :: r).map fun c => [c])) = c :: e :: r
    rw [ih]
    rfl
/-- ''.join of signs -/
theorem join_signs (cs : List Nat) : Txt.join "" (cs.map fun c => S [c]) = S cs := by
  have e := SX.join_S [] (cs.map fun c => [c])
  rw [join1_len, List.map_map] at e
  exact e
theorem sum_ones : ∀ cs : List Nat, ((cs.map fun c => S [c]).map (·.length)).sum = cs.length
  | [] => rfl
  | c :: r => by
    rw [List.map_cons, List.map_cons, List.sum_cons, sum_ones r, len_S, List.length_cons, List.length_cons]
    simp
    omega
theorem cutS_len (z : Str) (lo hi : Option Int) : (cutS z lo hi).length ≤ z.length := by
  unfold cutS
  rw [len_S, List.length_take, List.length_drop]
  have := len_tl z
  unfold tl at this
  omega
end OG

set_option Elab.async false
set_option linter.all false
set_option maxRecDepth 100000
set_option maxHeartbeats 4000000
namespace K01
open PySem PySem.Spec PyProof.Rows L2 OG
open C8 (pss_cut pe_gc)
def topS (i : Nat) : Stmt := PySem.Challenge.pw_outgrow_k01_names_that_are_names.main.body.getD i (.Pass ⟨0, 0, 0, 0⟩)
abbrev sis_name : Stmt := topS 4
abbrev Nis_name : List Str := ["text", "letter"]
theorem scis_name : FnScope Nis_name ["text"] (defScope sis_name) := ⟨rfl, rfl, rfl, by decide +kernel, rfl, by decide +kernel, by decide +kernel⟩

abbrev sl_begin : Stmt := topS 6
abbrev Nl_begin : List Str := ["_law_script"]
theorem scl_begin : FnScope Nl_begin ["_law_script"] (defScope sl_begin) := ⟨rfl, rfl, rfl, by decide +kernel, rfl, by decide +kernel, by decide +kernel⟩

abbrev sl_take : Stmt := topS 7
abbrev Nl_take : List Str := ["_law_draw", "_law_sides", "_law_cell", "_law_got"]
theorem scl_take : FnScope Nl_take ["_law_draw", "_law_sides"] (defScope sl_take) := ⟨rfl, rfl, rfl, by decide +kernel, rfl, by decide +kernel, by decide +kernel⟩

abbrev sl_pick : Stmt := topS 8
abbrev Nl_pick : List Str := ["_law_draw", "_law_row"]
theorem scl_pick : FnScope Nl_pick ["_law_draw", "_law_row"] (defScope sl_pick) := ⟨rfl, rfl, rfl, by decide +kernel, rfl, by decide +kernel, by decide +kernel⟩

abbrev sl_kept_words : Stmt := topS 9
abbrev Nl_kept_words : List Str := []
theorem scl_kept_words : FnScope Nl_kept_words [] (defScope sl_kept_words) := ⟨rfl, rfl, rfl, by decide +kernel, rfl, by decide +kernel, by decide +kernel⟩

abbrev sl_same : Stmt := topS 10
abbrev Nl_same : List Str := ["_law_found", "_law_due", "_law_one", "_law_other"]
theorem scl_same : FnScope Nl_same ["_law_found", "_law_due"] (defScope sl_same) := ⟨rfl, rfl, rfl, by decide +kernel, rfl, by decide +kernel, by decide +kernel⟩

abbrev sl_is_name : Stmt := topS 11
abbrev Nl_is_name : List Str := ["_law_word", "_law_good", "_law_sign"]
theorem scl_is_name : FnScope Nl_is_name ["_law_word"] (defScope sl_is_name) := ⟨rfl, rfl, rfl, by decide +kernel, rfl, by decide +kernel, by decide +kernel⟩

abbrev slaw : Stmt := topS 12
abbrev Nlaw : List Str := ["_law_script", "_law_draw", "_law_turn", "_law_text", "_law_fork", "_law_at", "_law_k"]
theorem sclaw : FnScope Nlaw ["_law_script"] (defScope slaw) := ⟨rfl, rfl, rfl, by decide +kernel, rfl, by decide +kernel, by decide +kernel⟩

structure Tops (K : PySem.W.Frag) (mg : Str → Option Value) where
  fis_name : Addr
  dis_name : FuncData
  Fis_name : Fun K "is_name" "is_name" sis_name fis_name dis_name
  gis_name : mg "is_name" = some (.ref fis_name)
  fl_begin : Addr
  dl_begin : FuncData
  Fl_begin : Fun K "_law_begin" "_law_begin" sl_begin fl_begin dl_begin
  gl_begin : mg "_law_begin" = some (.ref fl_begin)
  fl_take : Addr
  dl_take : FuncData
  Fl_take : Fun K "_law_take" "_law_take" sl_take fl_take dl_take
  gl_take : mg "_law_take" = some (.ref fl_take)
  fl_pick : Addr
  dl_pick : FuncData
  Fl_pick : Fun K "_law_pick" "_law_pick" sl_pick fl_pick dl_pick
  gl_pick : mg "_law_pick" = some (.ref fl_pick)
  fl_kept_words : Addr
  dl_kept_words : FuncData
  Fl_kept_words : Fun K "_law_kept_words" "_law_kept_words" sl_kept_words fl_kept_words dl_kept_words
  gl_kept_words : mg "_law_kept_words" = some (.ref fl_kept_words)
  fl_same : Addr
  dl_same : FuncData
  Fl_same : Fun K "_law_same" "_law_same" sl_same fl_same dl_same
  gl_same : mg "_law_same" = some (.ref fl_same)
  fl_is_name : Addr
  dl_is_name : FuncData
  Fl_is_name : Fun K "_law_is_name" "_law_is_name" sl_is_name fl_is_name dl_is_name
  gl_is_name : mg "_law_is_name" = some (.ref fl_is_name)
  flaw : Addr
  dlaw : FuncData
  Flaw : Fun K "law" "law" slaw flaw dlaw
  glaw : mg "law" = some (.ref flaw)
  mabs : mg "abs" = none
  mall : mg "all" = none
  mbool : mg "bool" = none
  mint : mg "int" = none
  misinstance : mg "isinstance" = none
  mlen : mg "len" = none
  mlist : mg "list" = none
  mrange : mg "range" = none
  mstr : mg "str" = none
  mtuple : mg "tuple" = none
  mzip : mg "zip" = none
  cMOST_LETTERS : ∃ u, mg "MOST_LETTERS" = some u ∧ RelV (.int 8) u
  cLETTERS : ∃ u, mg "LETTERS" = some u ∧ RelV (.str "abcdefghijklmnopqrstuvwxyz") u
  aNO_NAMES : Addr
  cNO_NAMES : ∃ u, mg "NO_NAMES" = some u ∧ RelV (.ref aNO_NAMES) u
  tNO_NAMES : ∀ H : Hp, SqT K H aNO_NAMES [.str "step", .str "for", .str "from", .str "to", .str "if", .str "else", .str "double", .str "call", .str "with", .str "again", .str "on", .str "halves", .str "thirds", .str "less", .str "n"]
theorem Tops.bis_name {K : PySem.W.Frag} {mg : Str → Option Value} (T : Tops K mg) : Binds K T.dis_name ["text"] [] := T.Fis_name.binds (ps := ["text"]) fun _ _ _ _ _ _ us hl => match us, hl with | [_], _ => rfl
theorem Tops.bl_begin {K : PySem.W.Frag} {mg : Str → Option Value} (T : Tops K mg) : Binds K T.dl_begin ["_law_script"] [] := T.Fl_begin.binds (ps := ["_law_script"]) fun _ _ _ _ _ _ us hl => match us, hl with | [_], _ => rfl
theorem Tops.bl_take {K : PySem.W.Frag} {mg : Str → Option Value} (T : Tops K mg) : Binds K T.dl_take ["_law_draw", "_law_sides"] [] := T.Fl_take.binds (ps := ["_law_draw", "_law_sides"]) fun _ _ _ _ _ _ us hl => match us, hl with | [_, _], _ => rfl
theorem Tops.bl_pick {K : PySem.W.Frag} {mg : Str → Option Value} (T : Tops K mg) : Binds K T.dl_pick ["_law_draw", "_law_row"] [] := T.Fl_pick.binds (ps := ["_law_draw", "_law_row"]) fun _ _ _ _ _ _ us hl => match us, hl with | [_, _], _ => rfl
theorem Tops.bl_kept_words {K : PySem.W.Frag} {mg : Str → Option Value} (T : Tops K mg) : Binds K T.dl_kept_words [] [] := T.Fl_kept_words.binds (ps := []) fun _ _ _ _ _ _ us hl => match us, hl with | [], _ => rfl
theorem Tops.bl_same {K : PySem.W.Frag} {mg : Str → Option Value} (T : Tops K mg) : Binds K T.dl_same ["_law_found", "_law_due"] [] := T.Fl_same.binds (ps := ["_law_found", "_law_due"]) fun _ _ _ _ _ _ us hl => match us, hl with | [_, _], _ => rfl
theorem Tops.bl_is_name {K : PySem.W.Frag} {mg : Str → Option Value} (T : Tops K mg) : Binds K T.dl_is_name ["_law_word"] [] := T.Fl_is_name.binds (ps := ["_law_word"]) fun _ _ _ _ _ _ us hl => match us, hl with | [_], _ => rfl
theorem Tops.blaw {K : PySem.W.Frag} {mg : Str → Option Value} (T : Tops K mg) : ∀ (s : Shared) (v : Value), BindsTo s T.dlaw ⟨[v], []⟩ [("_law_script", v)] := by
  obtain ⟨oc, od, kV, doc, pm, an, cdv, ct, osl, e, lk, hcd⟩ := T.Flaw.ex
  intro s v
  rw [e]
  exact .of_eq rfl
/-- _law_kept_words() -/
def kept : List Str := ["step", "for", "from", "to", "if", "else", "double", "call", "with", "again", "on", "halves", "thirds", "less", "n"]
theorem kept_split : (Txt.split "step for from to if else double call with again on halves thirds less n" " ") = kept := by decide +kernel
def spKept : Sp := fun vs H Q _ => vs = [] ∧ ∀ (p : Addr) (H' : Hp), H p = none → H' = upd H p (.lst (kept.map V.str)) → Q (.ref p) H'
/-- whether a text is a name -/
def nameB (z : Str) : Bool := (!inV (.str z) (kept.map V.str) && (decide ((1 : Int) ≤ (z.length : Int)) && decide ((z.length : Int) ≤ 8))) && ((tl z).map (fun c => decide (c ∈ tl "abcdefghijklmnopqrstuvwxyz"))).all id
def spName : Sp := fun vs H Q _ => ∃ z : Str, vs = [.str z] ∧ z.length < 100000 ∧ ∀ H', Same H H' → Q (.bl (nameB z)) H'
section
variable {P : Program} {w : World} {K : PySem.W.Frag} {mg : Str → Option Value} {base : Heap}
theorem ok_begin (T : Tops K mg) : FnOk P w K mg base CX0 1 T.fl_begin T.dl_begin ["_law_script"] (spBegin K) := by
  refine T.Fl_begin.ok scl_begin (fun vs H Q E h => ?_) (fun cdv A outer s H vs Q E hr h => ?_)
  · obtain ⟨a, ns, rfl, _⟩ := h
    rfl
  obtain ⟨a, ns, rfl, hS, q⟩ := h
  refine ⟨_, (pss_one (ps_ret (pe_lst (pa_cons (pe_callTy call_list_of (by rfl) T.mlist (by decide +kernel) (pa_cons (pe_slice sl_list (pv 0) po_none (po_some pe_int)) pa_nil)) (pa_cons pe_int (pa_cons pe_int (pa_cons pe_int pa_nil))))))), ?_⟩
  refine ⟨_, rfl, 63, rfl, a, _, rfl, hS, fun p np => ?_⟩
  obtain ⟨ms, hms⟩ := cut_map ns none (some 63)
  refine ⟨p, _, rfl, .inl (SqL.of upd_same), fun L nL => ?_⟩
  refine ⟨(by show 4 ≤ sizeLine; decide), fun d nd => ?_⟩
  have nL0 : H L = none := (same_new np).free nL
  have s3 : Same H (upd (upd (upd H p (.lst (cutV (ns.map V.int) none (some 63)))) L (.lst (cutV (ns.map V.int) none (some 63)))) d (.lst [.ref L, .int 0, .int 0, .int 37])) :=
    ((same_new np).trans (same_new nL)).trans (same_new nd)
  have nd0 : H d = none := ((same_new np).trans (same_new nL)).free nd
  refine q d L _ s3 nd0 nL0 ⟨ms, 0, 0, 37, upd_same, ?_, by decide, by decide, by decide, by decide⟩
  rw [upd_ne (ne_of_none (upd_same) nd), upd_same, hms]
theorem ok_take (T : Tops K mg) : FnOk P w K mg base CX0 1 T.fl_take T.dl_take ["_law_draw", "_law_sides"] spTake := by
  refine T.Fl_take.ok scl_take (fun vs H Q E h => ?_) (fun cdv A outer s H vs Q E hr h => ?_)
  · obtain ⟨d, L, k, rfl, _⟩ := h
    rfl
  obtain ⟨d, L, k, rfl, hD, k1, k2, q⟩ := h
  refine ⟨_, (pss_cut (ps_if (PW.pt (pw_and (pt_cmpR op_lt (pe_ix ix_list (pv 0) pe_int (fun _ _ => rfl)) (pv 1) (nomark _)) (pw_and1 (pt_cmpR op_lt (pe_ix ix_list (pv 0) pe_int (fun _ _ => rfl)) (pe_callB call_len_seq (by rfl) T.mlen PySem.boot_len (pa_cons (pe_ix ix_list (pv 0) pe_int (fun _ _ => rfl)) pa_nil)) (nomark _)))))
  (pss_cons (ps_set (i := 2) scl_take.nd rfl (Or.inl rfl) (pe_ix ix_list (pe_ix ix_list (pv 0) pe_int (fun _ _ => rfl)) (pe_ix ix_list (pv 0) pe_int (fun _ _ => rfl)) (fun _ _ => rfl)))
 (pss_cons (ps_asg (pe_op op_add (pe_ix ix_list (pv 0) pe_int (fun _ _ => rfl)) pe_int) (pg_sub (pv 0) pe_int set_list))
 (pss_cons (ps_asg pe_int (pg_sub (pv 0) pe_int set_list))
 (pss_one (ps_if (pt_cmpR op_ge (pe_callB call_abs (by rfl) T.mabs (by decide +kernel) (pa_cons (pv 2) pa_nil)) (pe_op op_pow pe_int pe_int) (nomark _))
  (pss_one (ps_asg (pe_callB call_abs (by rfl) T.mabs (by decide +kernel) (pa_cons (pv 2) pa_nil)) (pg_sub (pv 0) pe_int set_list)))
  (pss_one (ps_asg (pe_op op_mod (pe_op op_add (pe_op op_add (pe_op op_mul (pe_ix ix_list (pv 0) pe_int (fun _ _ => rfl)) pe_int) (pe_op op_mul (pe_op op_mod (pv 2) pe_int) pe_int)) pe_int) pe_int) (pg_sub (pv 0) pe_int set_list))))))))
  pss_nil)
 (pss_cons (ps_if (pt_cmpR op_ge (pe_ix ix_list (pv 0) pe_int (fun _ _ => rfl)) (pv 1) (nomark _))
  (pss_cons (ps_set (i := 3) scl_take.nd rfl (Or.inl rfl) (pe_op op_mod (pe_ix ix_list (pv 0) pe_int (fun _ _ => rfl)) (pv 1)))
 (pss_cons (ps_asg (pe_op op_fdiv (pe_ix ix_list (pv 0) pe_int (fun _ _ => rfl)) (pv 1)) (pg_sub (pv 0) pe_int set_list))
 (pss_one (ps_ret (pv 3)))))
  pss_nil)
 (pss_cons (ps_asg (pe_op op_mod (pe_op op_add (pe_op op_add (pe_op op_mul (pe_op op_mod (pe_op op_mul (pe_ix ix_list (pv 0) pe_int (fun _ _ => rfl)) (pe_ix ix_list (pv 0) pe_int (fun _ _ => rfl))) pe_int) pe_int) (pe_op op_mul (pe_ix ix_list (pv 0) pe_int (fun _ _ => rfl)) pe_int)) pe_int) pe_int) (pg_sub (pv 0) pe_int set_list))
 (pss_one (ps_ret (pe_op op_mod (pe_op op_add (pe_op op_fdiv (pe_ix ix_list (pv 0) pe_int (fun _ _ => rfl)) pe_int) (pe_op op_mul (pe_op op_mod (pe_ix ix_list (pv 0) pe_int (fun _ _ => rfl)) pe_int) pe_int)) (pv 1))))))), ?_⟩
  have hne := hD.ne
  refine ⟨fun σ' H' => (∃ x y, σ' = [some (.ref d), some (.int k), x, y]) ∧ Dr H' d L ∧ But d H H', ?_, ?_⟩
  · obtain ⟨ns, i, r, s, hd, hL, i0, r0, s0, s1⟩ := id hD
    refine ⟨_, rfl, d, _, 2, _, rfl, rfl, SqL.of hd, rfl, _, rfl, r, k, rfl, rfl, _, rfl, ite2 (fun c1 => ?_) (fun c1 => ?_)⟩
    · refine ⟨_, rfl, d, _, 1, _, rfl, rfl, SqL.of hd, rfl, _, rfl, d, _, 0, _, rfl, rfl, SqL.of hd, rfl, L, _, rfl, .inl (SqL.of hL), i, _, rfl, rfl, _, rfl, ite2 (fun c2 => ?_) (fun c2 => ?_)⟩
      · have c3 : i < ((ns.map V.int).length : Int) := of_decide_eq_true c2
        obtain ⟨v, hv, hm⟩ := atI_lt (xs := ns.map V.int) i0 c3
        obtain ⟨n, _, rfl⟩ := List.mem_map.mp hm
        refine ⟨_, rfl, d, _, 0, _, rfl, rfl, SqL.of hd, rfl, _, rfl, d, _, 1, _, rfl, rfl, SqL.of hd, rfl, L, _, i, _, rfl, rfl, SqL.of hL, hv, ?_⟩
        refine ⟨_, rfl, d, _, 1, _, rfl, rfl, SqL.of hd, rfl, i, 1, rfl, rfl, _, rfl, d, _, 1, 1, rfl, rfl, hd, rfl, ?_⟩
        refine ⟨_, rfl, d, _, 2, 2, rfl, rfl, upd_same, rfl, ?_⟩
        rw [upd_upd]
        refine ⟨_, rfl, n, rfl, 10, 18, rfl, rfl, ⟨by decide, by decide, by decide⟩, _, _, rfl, rfl, _, rfl, ite2 (fun c4 => ?_) (fun c4 => ?_)⟩
        · refine ⟨_, rfl, n, rfl, _, rfl, d, _, 2, 2, rfl, rfl, upd_same, rfl, ?_⟩
          rw [upd_upd]
          exact ⟨⟨_, _, rfl⟩, dr_set hL hne (by omega) (by split <;> omega) s0 s1, but_upd⟩
        · refine ⟨_, rfl, d, _, 3, _, rfl, rfl, SqL.of upd_same, rfl, s, 48271, rfl, rfl, .inr ⟨by decide, by decide⟩, _, rfl, n, 2147483629, rfl, rfl, (show (0 : Int) < 2147483629 by decide), _, 69621, rfl, rfl, .inr ⟨by decide, by decide⟩, _, _, rfl, rfl, _, 12345, rfl, rfl, _, 2147483647, rfl, rfl, (show (0 : Int) < 2147483647 by decide), _, rfl, d, _, 3, 3, rfl, rfl, upd_same, rfl, ?_⟩
          rw [upd_upd]
          have z := mod_lt (a := s * 48271 + n % 2147483629 * 69621 + 12345) (k := 2147483647) (by decide)
          exact ⟨⟨_, _, rfl⟩, dr_set hL hne (by omega) (Int.le_refl 0) z.1 z.2, but_upd⟩
      · exact ⟨⟨_, _, rfl⟩, hD, But.refl d H⟩
    · exact ⟨⟨_, _, rfl⟩, hD, But.refl d H⟩
  · rintro σ' H' ⟨⟨x, y, rfl⟩, hD', hB⟩
    obtain ⟨ns, i, r, s, hd, hL, i0, r0, s0, s1⟩ := id hD'
    refine ⟨_, rfl, d, _, 2, _, rfl, rfl, SqL.of hd, rfl, _, rfl, r, k, rfl, rfl, _, rfl, ite2 (fun c1 => ?_) (fun c1 => ?_)⟩
    · refine ⟨_, rfl, d, _, 2, _, rfl, rfl, SqL.of hd, rfl, _, rfl, r, k, rfl, rfl, (show (0 : Int) < k by omega), ?_⟩
      refine ⟨_, rfl, d, _, 2, _, rfl, rfl, SqL.of hd, rfl, _, rfl, r, k, rfl, rfl, ⟨by omega, k2⟩, _, rfl, d, _, 2, 2, rfl, rfl, hd, rfl, ?_⟩
      have z := mod_lt (a := r) k1
      refine ⟨_, rfl, q _ _ z.1 z.2 (dr_set hL hne i0 (Int.ediv_nonneg r0 (by omega)) s0 s1) (hB.trans but_upd)⟩
    · refine ⟨_, rfl, d, _, 3, _, rfl, rfl, SqL.of hd, rfl, _, rfl, d, _, 3, _, rfl, rfl, SqL.of hd, rfl, s, s, rfl, rfl, .inl ⟨by omega, by omega⟩, _, 2147483629, rfl, rfl, (show (0 : Int) < 2147483629 by decide), _, 5, rfl, rfl, .inr ⟨by decide, by decide⟩,
        _, rfl, d, _, 3, _, rfl, rfl, SqL.of hd, rfl, s, 16811, rfl, rfl, .inr ⟨by decide, by decide⟩, _, _, rfl, rfl, _, 2531011, rfl, rfl, _, 2147483647, rfl, rfl, (show (0 : Int) < 2147483647 by decide), _, rfl, d, _, 3, 3, rfl, rfl, hd, rfl, ?_⟩
      have z := mod_lt (a := s * s % 2147483629 * 5 + s * 16811 + 2531011) (k := 2147483647) (by decide)
      refine ⟨_, rfl, d, _, 3, _, rfl, rfl, SqL.of upd_same, rfl, _, 61, rfl, rfl, ⟨by decide, by decide⟩, _, rfl, d, _, 3, _, rfl, rfl, SqL.of upd_same, rfl, _, 8191, rfl, rfl, (show (0 : Int) < 8191 by decide), _, 31, rfl, rfl, .inr ⟨by decide, by decide⟩, _, _, rfl, rfl, _, rfl, _, k, rfl, rfl, (show (0 : Int) < k by omega), ?_⟩
      exact q _ _ (mod_lt k1).1 (mod_lt k1).2 (dr_set hL hne i0 r0 z.1 z.2) (hB.trans but_upd)
theorem ok_pick (T : Tops K mg) : FnOk P w K mg base CX0 2 T.fl_pick T.dl_pick ["_law_draw", "_law_row"] (spPick K) := by
  have Gl_take : FnOk P w K mg base CX0 1 T.fl_take T.dl_take ["_law_draw", "_law_sides"] spTake := ok_take T
  refine T.Fl_pick.ok scl_pick (fun vs H Q E h => ?_) (fun cdv A outer s H vs Q E hr h => ?_)
  · obtain ⟨d, L, x, n, rfl, _⟩ := h
    rfl
  obtain ⟨d, L, x, n, rfl, hD, n0, n1, q⟩ := h
  refine ⟨_, (pss_one (ps_ret (pe_ix ix_seq (pv 1) (pe_call Gl_take (hr.mono (by decide)) (by rfl) T.gl_take T.Fl_take.kp T.bl_take .nil pass0 (pa_cons (pv 0) (pa_cons (pe_callB call_len (by rfl) T.mlen PySem.boot_len (pa_cons (pv 1) pa_nil)) pa_nil))) (fun _ _ => rfl)))), ?_⟩
  rcases q with ⟨z, rfl, rfl, q⟩ | ⟨a, xs, rfl, na, hS, rfl, q⟩
  · refine ⟨_, rfl, _, rfl, _, rfl, .str z, z.length, rfl, ⟨sz (by omega), rfl⟩, d, L, (z.length : Int), rfl, hD, by omega, by omega, fun g H' g0 g1 hD' hB => ?_⟩
    have e := len_tl z
    obtain ⟨c, hc, hm⟩ := atI_lt (xs := tl z) g0 (by omega)
    exact .inr (.inr ⟨z, g, c, rfl, rfl, sz (by omega), hc, q c H' hm hD' hB⟩)
  · refine ⟨_, rfl, _, rfl, _, rfl, .ref a, xs.length, rfl, .inl ⟨xs, hS, rfl⟩, d, L, (xs.length : Int), rfl, hD, by omega, by omega, fun g H' g0 g1 hD' hB => ?_⟩
    obtain ⟨v, hv, hm⟩ := atI_lt (xs := xs) g0 (by omega)
    exact .inl ⟨a, xs, g, v, rfl, rfl, SqL.but hS hB na, hv, q v H' hm hD' hB⟩
theorem ok_kept (T : Tops K mg) : FnOk P w K mg base CX0 1 T.fl_kept_words T.dl_kept_words [] spKept := by
  refine T.Fl_kept_words.ok scl_kept_words (fun vs H Q E h => ?_) (fun cdv A outer s H vs Q E hr h => ?_)
  · obtain ⟨rfl, _⟩ := h
    rfl
  obtain ⟨rfl, q⟩ := h
  refine ⟨_, (pss_one (ps_ret (pe_split pe_str pe_str))), ?_⟩
  refine ⟨⟨_, rfl⟩, _, _, rfl, rfl, by decide +kernel, by decide +kernel, fun p np => ?_⟩
  refine q p _ np ?_
  rw [kept_split]
/-- two truth values that are one -/
def spSameB : Sp := fun vs H Q _ => ∃ b : Bool, vs = [.bl b, .bl b] ∧ ∀ H', Same H H' → Q (.bl true) H'
theorem ok_sameB (T : Tops K mg) : FnOk P w K mg base CX0 1 T.fl_same T.dl_same ["_law_found", "_law_due"] spSameB := by
  refine T.Fl_same.ok scl_same (fun vs H Q E h => ?_) (fun cdv A outer s H vs Q E hr h => ?_)
  · obtain ⟨b, rfl, _⟩ := h
    rfl
  obtain ⟨b, rfl, q⟩ := h
  refine ⟨_, (pss_cons (ps_if (pt_val (pe_callB call_isiT (by rfl) T.misinstance (by decide +kernel) (pa_cons (pv 1) (pa_cons (pe_tup (pa_cons (pe_bltn (v := .ty "list") (by rfl) T.mlist (by decide +kernel) rfl) (pa_cons (pe_bltn (v := .ty "tuple") (by rfl) T.mtuple (by decide +kernel) rfl) pa_nil))) pa_nil))))
  pss_never
  pss_nil)
 (pss_cons (ps_if (pt_cmpR op_isN (pv 1) pe_non (nomark _))
  (pss_one (ps_ret (pe_cmpR op_isN (pv 0) pe_non (nomark _))))
  pss_nil)
 (pss_cons (ps_if (PW.pt (pw_or (pt_cmpR op_ne (pe_callB call_isi (by rfl) T.misinstance (by decide +kernel) (pa_cons (pv 0) (pa_cons (pe_bltn (v := .ty "bool") (by rfl) T.mbool (by decide +kernel) rfl) pa_nil))) (pe_callB call_isi (by rfl) T.misinstance (by decide +kernel) (pa_cons (pv 1) (pa_cons (pe_bltn (v := .ty "bool") (by rfl) T.mbool (by decide +kernel) rfl) pa_nil))) (nomark _)) (pw_or1 (pt_cmpR op_ne (pe_callB call_isi (by rfl) T.misinstance (by decide +kernel) (pa_cons (pv 0) (pa_cons (pe_bltn (v := .ty "int") (by rfl) T.mint (by decide +kernel) rfl) pa_nil))) (pe_callB call_isi (by rfl) T.misinstance (by decide +kernel) (pa_cons (pv 1) (pa_cons (pe_bltn (v := .ty "int") (by rfl) T.mint (by decide +kernel) rfl) pa_nil))) (nomark _)))))
  (pss_one (ps_ret pe_bl))
  pss_nil)
 (pss_one (ps_ret (pe_and (pe_cmpR op_eq (pe_callB call_isi (by rfl) T.misinstance (by decide +kernel) (pa_cons (pv 0) (pa_cons (pe_bltn (v := .ty "str") (by rfl) T.mstr (by decide +kernel) rfl) pa_nil))) (pe_callB call_isi (by rfl) T.misinstance (by decide +kernel) (pa_cons (pv 1) (pa_cons (pe_bltn (v := .ty "str") (by rfl) T.mstr (by decide +kernel) rfl) pa_nil))) (nomark _)) (pe_one (pe_cmpR op_eq (pv 0) (pv 1) (nomark _))))))))), ?_⟩
  have kI : ∀ (c : String) (r : Bool), kitB "bool" c = some r → PySem.W.kitOne K (.type "bool") (.type c) = some r := fun c r h => kit_ty h
  refine ⟨_, rfl, (by show 2 ≤ sizeLine; decide), fun p np => ?_⟩
  refine ⟨.bl b, p, [.ty "list", .ty "tuple"], .type "bool", [.type "list", .type "tuple"], false, rfl, upd_same, .cons (.ty _) (.cons (.ty _) .nil), .base (.bl b),
    kitAny_cons (kI "list" false (by decide +kernel)) (fun _ => kitAny_cons (kI "tuple" false (by decide +kernel)) (fun _ => rfl) (fun z => nomatch z)) (fun z => nomatch z), false, rfl, iteF ?_⟩
  refine ⟨_, rfl, rfl, _, rfl, iteF ?_⟩
  refine ⟨_, rfl, .bl b, .ty "bool", .type "bool", _, true, rfl, .ty _, .base (.bl b), kI "bool" true (by decide +kernel), _, rfl, .bl b, .ty "bool", .type "bool", _, true, rfl, .ty _, .base (.bl b), kI "bool" true (by decide +kernel), rfl, _, rfl, iteF ?_⟩
  refine ⟨_, rfl, .bl b, .ty "int", .type "bool", _, true, rfl, .ty _, .base (.bl b), kI "int" true (by decide +kernel), _, rfl, .bl b, .ty "int", .type "bool", _, true, rfl, .ty _, .base (.bl b), kI "int" true (by decide +kernel), rfl, _, rfl, iteF ?_⟩
  refine ⟨_, rfl, .bl b, .ty "str", .type "bool", _, false, rfl, .ty _, .base (.bl b), kI "str" false (by decide +kernel), _, rfl, .bl b, .ty "str", .type "bool", _, false, rfl, .ty _, .base (.bl b), kI "str" false (by decide +kernel), rfl, _, rfl, iteT ?_⟩
  refine ⟨_, rfl, _, rfl, by cases b <;> rfl, ?_⟩
  rw [decide_eq_true rfl]
  exact q _ (same_new np)
theorem ok_is_name (T : Tops K mg) : FnOk P w K mg base CX0 1 T.fis_name T.dis_name ["text"] spName := by
  refine T.Fis_name.ok scis_name (fun vs H Q E h => ?_) (fun cdv A outer s H vs Q E hr h => ?_)
  · obtain ⟨z, rfl, _⟩ := h
    rfl
  obtain ⟨z, rfl, hz, q⟩ := h
  refine ⟨_, (pss_cons (ps_if (PW.pt (pw_or (pt_cmpR op_in_seq (pv 0) (pe_gc (by rfl) T.cNO_NAMES) (by rfl)) (pw_or1 (pt_not (pt_chain op_le op_le pe_int (pe_callB call_len_str (by rfl) T.mlen PySem.boot_len (pa_cons (pv 0) pa_nil)) (pe_gc (by rfl) T.cMOST_LETTERS))))))
  (pss_one (ps_ret pe_bl))
  pss_nil)
 (pss_one (ps_ret (pe_callB (cr_all rfl) (by rfl) T.mall (by decide +kernel) (pa_cons (pe_lc (own := [("letter", 1)]) rfl scis_name.nd (pi_str (pv 0)) (blkOk_by (N := Nis_name) (sc := defScope sis_name) (by decide +kernel)) (fun _ _ _ _ _ => (pg_name (i := 1) scis_name.nd rfl (Or.inl rfl))) (fun _ _ _ _ _ => pts_nil) (fun _ _ _ _ _ => (pe_cmpR op_in_sign (pv 1) (pe_gc (by rfl) T.cLETTERS) (by rfl)))) pa_nil))))), ?_⟩
  refine ⟨_, rfl, T.aNO_NAMES, _, rfl, .inr (T.tNO_NAMES H), rfl, rfl, _, rfl, ite2 (fun c1 => ?_) (fun c1 => ?_)⟩
  · have e : nameB z = false := by
      unfold nameB
      have c2 : inV (.str z) (kept.map V.str) = true := c1
      rw [c2]
      rfl
    have q2 := q H (Same.refl H)
    rw [e] at q2
    exact iteT q2
  · have c2 : inV (.str z) (kept.map V.str) = false := by
      cases h : inV (.str z) (kept.map V.str) with
      | false => rfl
      | true => exact absurd h c1
    refine ⟨_, rfl, z, rfl, sz (by omega), 1, _, rfl, rfl, _, rfl, ite2 (fun c3 => ?_) (fun c3 => ?_)⟩
    · refine ⟨_, 8, rfl, rfl, _, rfl, ite2 (fun c4 => ?_) (fun c4 => ?_)⟩
      · have e : nameB z = false := by
          unfold nameB
          have c5 : ¬ ((z.length : Int) ≤ 8) := fun h => by
            rw [decide_eq_true h] at c4
            cases c4
          rw [decide_eq_false c5, Bool.and_false, Bool.and_false, Bool.false_and]
        have q2 := q H (Same.refl H)
        rw [e] at q2
        exact q2
      · have c5 : (z.length : Int) ≤ 8 := by
          by_cases h : (z.length : Int) ≤ 8
          · exact h
          · rw [decide_eq_false h] at c4
            exact absurd rfl c4
        refine ⟨_, rfl, z, rfl, fun D nD => ?_⟩
        refine lc_str_val (fun c => .bl (decide (c ∈ tl "abcdefghijklmnopqrstuvwxyz"))) 1 rfl (fun v => rfl) hz nD (fun c _ H2 Q2 _ h => ⟨_, rfl, c, _, rfl, rfl, h⟩) (fun H' sm hl => ?_)
        refine ⟨D, (tl z).map (fun c => decide (c ∈ tl "abcdefghijklmnopqrstuvwxyz")), rfl, SqL.of (by rw [List.map_map]; exact hl), ?_⟩
        have e : nameB z = ((tl z).map (fun c => decide (c ∈ tl "abcdefghijklmnopqrstuvwxyz"))).all id := by
          unfold nameB
          rw [c2, decide_eq_true (of_decide_eq_true c3), decide_eq_true c5]
          rfl
        rw [← e]
        exact q H' sm
    · have e : nameB z = false := by
        unfold nameB
        have c5 : ¬ ((1 : Int) ≤ (z.length : Int)) := fun h => c3 (decide_eq_true h)
        rw [decide_eq_false c5, Bool.false_and, Bool.and_false, Bool.false_and]
      have q2 := q H (Same.refl H)
      rw [e] at q2
      exact ⟨_, rfl, iteT q2⟩
theorem ok_l_is_name (T : Tops K mg) : FnOk P w K mg base CX0 2 T.fl_is_name T.dl_is_name ["_law_word"] spName := by
  have Gl_kept_words : FnOk P w K mg base CX0 1 T.fl_kept_words T.dl_kept_words [] spKept := ok_kept T
  refine T.Fl_is_name.ok scl_is_name (fun vs H Q E h => ?_) (fun cdv A outer s H vs Q E hr h => ?_)
  · obtain ⟨z, rfl, _⟩ := h
    rfl
  obtain ⟨z, rfl, hz, q⟩ := h
  refine ⟨_, (pss_cut (ps_set (i := 1) scl_is_name.nd rfl (Or.inl rfl) (pe_and (pe_chain op_le op_le pe_int (pe_callB call_len_str (by rfl) T.mlen PySem.boot_len (pa_cons (pv 0) pa_nil)) pe_int) (pe_one (pe_cmpR op_notIn_seq (pv 0) (pe_call0 Gl_kept_words (hr.mono (by decide)) (by rfl) T.gl_kept_words T.Fl_kept_words.kp T.bl_kept_words .nil pass0) (by rfl)))))
 (pss_one (ps_ret (pe_and (pv 1) (pe_one (pe_callB (cr_all rfl) (by rfl) T.mall (by decide +kernel) (pa_cons (pe_lc (own := [("_law_sign", 2)]) rfl scl_is_name.nd (pi_str (pv 0)) (blkOk_by (N := Nl_is_name) (sc := defScope sl_is_name) (by decide +kernel)) (fun _ _ _ _ _ => (pg_name (i := 2) scl_is_name.nd rfl (Or.inl rfl))) (fun _ _ _ _ _ => pts_nil) (fun _ _ _ _ _ => (pe_cmpR op_in_sign (pv 2) pe_str (by rfl)))) pa_nil))))))), ?_⟩
  refine ⟨fun σ' H' => σ' = [some (.str z), some (.bl (!inV (.str z) (kept.map V.str) && (decide ((1 : Int) ≤ (z.length : Int)) && decide ((z.length : Int) ≤ 8)))), none] ∧ Same H H', ?_, ?_⟩
  · refine ⟨_, rfl, z, rfl, sz (by omega), 1, _, rfl, rfl, _, rfl, ite2 (fun c3 => ?_) (fun c3 => ?_)⟩
    · refine ⟨_, 8, rfl, rfl, _, rfl, ite2 (fun c4 => ?_) (fun c4 => ?_)⟩
      · refine ⟨_, rfl, rfl, fun p H' np e => ?_⟩
        subst e
        refine ⟨p, _, rfl, .inl (SqL.of upd_same), rfl, rfl, ?_⟩
        rw [c3, c4]
        refine ⟨?_, same_new np⟩
        cases inV (.str z) (kept.map V.str) <;> rfl
      · have c5 : decide ((z.length : Int) ≤ 8) = false := Bool.eq_false_iff.mpr c4
        rw [c5, Bool.and_false, Bool.and_false]
        exact ⟨rfl, Same.refl H⟩
    · have c5 : decide ((1 : Int) ≤ (z.length : Int)) = false := Bool.eq_false_iff.mpr c3
      refine ⟨_, rfl, iteF ?_⟩
      rw [c5, Bool.false_and, Bool.and_false]
      exact ⟨rfl, Same.refl H⟩
  · rintro σ' H' ⟨rfl, sm⟩
    refine ⟨_, rfl, _, rfl, ite2 (fun c1 => ?_) (fun c1 => ?_)⟩
    · refine ⟨_, rfl, z, rfl, fun D nD => ?_⟩
      refine lc_str_val (fun c => .bl (decide (c ∈ tl "abcdefghijklmnopqrstuvwxyz"))) 2 rfl (fun v => rfl) hz nD (fun c _ H2 Q2 _ h => ⟨_, rfl, c, _, rfl, rfl, h⟩) (fun H2 sm2 hl => ?_)
      refine ⟨D, (tl z).map (fun c => decide (c ∈ tl "abcdefghijklmnopqrstuvwxyz")), rfl, SqL.of (by rw [List.map_map]; exact hl), ?_⟩
      have e : nameB z = ((tl z).map (fun c => decide (c ∈ tl "abcdefghijklmnopqrstuvwxyz"))).all id := by
        unfold nameB
        rw [c1, Bool.true_and]
      rw [← e]
      exact q H2 (sm.trans sm2)
    · have c2 := Bool.eq_false_iff.mpr c1
      have e : nameB z = false := by
        unfold nameB
        rw [c2, Bool.false_and]
      have q2 := q H' sm
      rw [e] at q2
      exact q2
def spLaw (K : PySem.W.Frag) : Sp := fun vs H Q _ => ∃ (a : Addr) (ns : List Int), vs = [.ref a] ∧ SqL K H a (ns.map V.int) ∧ ns.length ≤ 63 ∧ ∀ H', Q (.bl true) H'
theorem kept_short : ∀ y ∈ kept.map V.str, ∃ z : Str, y = .str z ∧ z.length ≤ 8 := by
  intro y hy
  obtain ⟨z, hz, rfl⟩ := List.mem_map.mp hy
  refine ⟨z, rfl, ?_⟩
  have h : kept.all (fun z => decide (z.length ≤ 8)) = true := by decide +kernel
  exact of_decide_eq_true (List.all_eq_true.mp h z hz)
theorem ok_law (T : Tops K mg) : FnOk P w K mg base CX0 5 T.flaw T.dlaw ["_law_script"] (spLaw K) := by
  have Gl_kept_words : FnOk P w K mg base CX0 1 T.fl_kept_words T.dl_kept_words [] spKept := ok_kept T
  have Gl_begin : FnOk P w K mg base CX0 1 T.fl_begin T.dl_begin ["_law_script"] (spBegin K) := ok_begin T
  have Gl_take : FnOk P w K mg base CX0 1 T.fl_take T.dl_take ["_law_draw", "_law_sides"] spTake := ok_take T
  have Gl_pick : FnOk P w K mg base CX0 2 T.fl_pick T.dl_pick ["_law_draw", "_law_row"] (spPick K) := ok_pick T
  have Gl_same : FnOk P w K mg base CX0 1 T.fl_same T.dl_same ["_law_found", "_law_due"] spSameB := ok_sameB T
  have Gis_name : FnOk P w K mg base CX0 1 T.fis_name T.dis_name ["text"] spName := ok_is_name T
  have Gl_is_name : FnOk P w K mg base CX0 2 T.fl_is_name T.dl_is_name ["_law_word"] spName := ok_l_is_name T
  refine T.Flaw.ok (k := 4) sclaw (fun vs H Q E h => ?_) (fun cdv A outer s H vs Q E hr h => ?_)
  · obtain ⟨a, ns, rfl, _⟩ := h
    rfl
  obtain ⟨a, ns, rfl, hS, hlen, q⟩ := h
  refine ⟨_, (pss_cons (ps_set (i := 1) sclaw.nd rfl (Or.inr rfl) (pe_call Gl_begin (hr.mono (by decide)) (by rfl) T.gl_begin T.Fl_begin.kp T.bl_begin .nil pass0 (pa_cons (pv 0) pa_nil)))
 (pss_cons (ps_for PassesOwn.never rfl (pi_range1 (by rfl) T.mrange (pa_cons pe_int pa_nil)) (pg_name (i := 2) sclaw.nd rfl (Or.inl rfl))
  (pss_cons (ps_set (i := 3) sclaw.nd rfl (Or.inl rfl) (pe_join pe_str (pe_lc (own := [("_law_k", 6)]) rfl sclaw.nd (pi_range1 (by rfl) T.mrange (pa_cons (pe_call Gl_take (hr.mono (by decide)) (by rfl) T.gl_take T.Fl_take.kp T.bl_take .nil pass0 (pa_cons (pv 1) (pa_cons pe_int pa_nil))) pa_nil)) (blkOk_by (N := Nlaw) (sc := defScope slaw) (by decide +kernel)) (fun _ _ _ _ _ => (pg_name (i := 6) sclaw.nd rfl (Or.inl rfl))) (fun _ _ _ _ _ => pts_nil) (fun _ _ _ _ _ => (pe_call Gl_pick (hr.mono (by decide)) (by rfl) T.gl_pick T.Fl_pick.kp T.bl_pick .nil pass0 (pa_cons (pv 1) (pa_cons pe_str pa_nil)))))))
 (pss_cons (ps_set (i := 4) sclaw.nd rfl (Or.inl rfl) (pe_call Gl_take (hr.mono (by decide)) (by rfl) T.gl_take T.Fl_take.kp T.bl_take .nil pass0 (pa_cons (pv 1) (pa_cons pe_int pa_nil))))
 (pss_cut (ps_if (pt_cmpR op_eq (pv 4) pe_int (nomark _))
  (pss_one (ps_set (i := 3) sclaw.nd rfl (Or.inl rfl) (pe_op op_add_str (pe_call Gl_pick (hr.mono (by decide)) (by rfl) T.gl_pick T.Fl_pick.kp T.bl_pick .nil pass0 (pa_cons (pv 1) (pa_cons (pe_call0 Gl_kept_words (hr.mono (by decide)) (by rfl) T.gl_kept_words T.Fl_kept_words.kp T.bl_kept_words .nil pass0) pa_nil))) (pe_ix ix_list (pe_lst (pa_cons pe_str (pa_cons pe_str (pa_cons pe_str pa_nil)))) (pe_call Gl_take (hr.mono (by decide)) (by rfl) T.gl_take T.Fl_take.kp T.bl_take .nil pass0 (pa_cons (pv 1) (pa_cons pe_int pa_nil))) (fun _ _ => rfl)))))
  pss_nil)
 (pss_cut (ps_if (pt_cmpR op_eq (pv 4) pe_int (nomark _))
  (pss_cons (ps_set (i := 5) sclaw.nd rfl (Or.inl rfl) (pe_call Gl_take (hr.mono (by decide)) (by rfl) T.gl_take T.Fl_take.kp T.bl_take .nil pass0 (pa_cons (pv 1) (pa_cons (pe_op op_add (pe_callB call_len_str (by rfl) T.mlen PySem.boot_len (pa_cons (pv 3) pa_nil)) pe_int) pa_nil))))
 (pss_one (ps_set (i := 3) sclaw.nd rfl (Or.inl rfl) (pe_op op_add_str (pe_op op_add_str (pe_slice sl_str (pv 3) po_none (po_some (pv 5))) (pe_call Gl_pick (hr.mono (by decide)) (by rfl) T.gl_pick T.Fl_pick.kp T.bl_pick .nil pass0 (pa_cons (pv 1) (pa_cons pe_str pa_nil)))) (pe_slice sl_str (pv 3) (po_some (pe_op op_add (pv 5) (pe_call Gl_take (hr.mono (by decide)) (by rfl) T.gl_take T.Fl_take.kp T.bl_take .nil pass0 (pa_cons (pv 1) (pa_cons pe_int pa_nil))))) po_none)))))
  pss_nil)
 (pss_one (ps_if (pt_not (pt_val (pe_call Gl_same (hr.mono (by decide)) (by rfl) T.gl_same T.Fl_same.kp T.bl_same .nil pass0 (pa_cons (pe_call Gis_name (hr.mono (by decide)) (by rfl) T.gis_name T.Fis_name.kp T.bis_name .nil pass0 (pa_cons (pv 3) pa_nil)) (pa_cons (pe_call Gl_is_name (hr.mono (by decide)) (by rfl) T.gl_is_name T.Fl_is_name.kp T.bl_is_name .nil pass0 (pa_cons (pv 3) pa_nil)) pa_nil)))))
  (pss_one (ps_ret pe_bl))
  pss_nil)))))))
 (pss_one (ps_ret (pe_and (pe_cmpR op_isBl (pe_call Gis_name (hr.mono (by decide)) (by rfl) T.gis_name T.Fis_name.kp T.bis_name .nil pass0 (pa_cons pe_str pa_nil)) pe_bl (nomark _)) (pe_and (pe_cmpR op_isBl (pe_call Gis_name (hr.mono (by decide)) (by rfl) T.gis_name T.Fis_name.kp T.bis_name .nil pass0 (pa_cons pe_str pa_nil)) pe_bl (nomark _)) (pe_one (pe_cmpR op_isBl (pe_call Gis_name (hr.mono (by decide)) (by rfl) T.gis_name T.Fis_name.kp T.bis_name .nil pass0 (pa_cons pe_str pa_nil)) pe_bl (nomark _))))))))), ?_⟩
  -- draw = begin(script)
  refine ⟨_, rfl, a, ns, rfl, hS, fun d L H1 sm nd nL hD => ?_⟩
  refine ⟨12, rfl, by decide, by decide, ?_⟩
  refine for_range (n := 12) (fun i σ H' => (∃ x2 x3 x4 x5 x6, σ = [some (.ref a), some (.ref d), x2, x3, x4, x5, x6]) ∧ Dr H' d L) ⟨⟨_, _, _, _, _, rfl⟩, hD⟩ (fun i σ H2 hi hP => ?_) (fun σ H2 hP => ?_)
  · obtain ⟨⟨x2, x3, x4, x5, x6, rfl⟩, hD2⟩ := hP
    -- text = ''.join(..)
    refine ⟨⟨_, rfl⟩, _, rfl, d, L, 11, rfl, hD2, by decide, by decide, fun g H3 g0 g1 hD3 hB3 => ?_⟩
    refine ⟨g, rfl, by omega, by omega, fun D nD => ?_⟩
    refine lc_range (lo := 0) (n := g.toNat) (fun i H' => Dr H' d L ∧ ∃ cs : List Nat, cs.length = i ∧ H' D = some (.lst ((cs.map fun c => S [c]).map V.str))) ⟨hD3.new nD, [], rfl, upd_same⟩ (fun j H4 hj hP => ?_) (fun H4 hP => ?_)
    · obtain ⟨hD4, cs, hcs, hl⟩ := hP
      refine ⟨rfl, yes_go ?_⟩
      refine ⟨_, rfl, d, L, _, 26, rfl, hD4, by decide, by decide, .inl ⟨_, rfl, by decide +kernel, fun c H5 _ hD5 hB5 => ?_⟩⟩
      have nDd := hD3.neNew nD
      have hl5 : H5 D = some (.lst ((cs.map fun c => S [c]).map V.str)) := by
        rw [hB5 D nDd.1]
        exact hl
      refine ⟨_, hl5, ?_, hD5.upd nDd.1 nDd.2, cs ++ [c], ?_, ?_⟩
      · rw [List.length_map, List.length_map]
        exact szl (by omega)
      · rw [List.length_append, hcs]
        rfl
      · rw [upd_same, List.map_append, List.map_append]
        rfl
    · obtain ⟨hD4, cs, hcs, hl⟩ := hP
      refine ⟨_, D, cs.map fun c => S [c], rfl, rfl, .inl (SqL.of hl), ?_, ?_⟩
      · rw [sum_ones, List.length_map]
        have : ("" : Str).length = 0 := by decide +kernel
        rw [this]
        omega
      rw [join_signs]
      have hz : (S cs).length ≤ 100 := by
        rw [len_S]
        omega
      -- fork
      refine ⟨_, rfl, d, L, 5, rfl, hD4, by decide, by decide, fun f H5 f0 f1 hD5 hB5 => ?_⟩
      refine ⟨fun σ' H' => (∃ x2 x5 x6 z, σ' = [some (.ref a), some (.ref d), x2, some (.str z), some (.int f), x5, x6] ∧ z.length ≤ 100) ∧ Dr H' d L, ?_, ?_⟩
      · refine ⟨_, rfl, rfl, _, rfl, ite2 (fun c1 => ?_) (fun c1 => ?_)⟩
        · refine ⟨_, rfl, rfl, fun p H6 np e6 => ?_⟩
          subst e6
          have hD6 : Dr (upd H5 p (.lst (kept.map V.str))) d L := hD5.new np
          refine ⟨d, L, _, 15, rfl, hD6, by decide, by decide, .inr ⟨p, _, rfl, (hD5.neNew np).1, SqL.of upd_same, by decide +kernel, fun y H7 hy hD7 hB7 => ?_⟩⟩
          obtain ⟨z, rfl, hz2⟩ := kept_short y hy
          refine ⟨(by show 3 ≤ sizeLine; decide), fun l nl => ?_⟩
          refine ⟨_, rfl, d, L, 3, rfl, hD7.new nl, by decide, by decide, fun g2 H8 h0 h1 hD8 hB8 => ?_⟩
          have hl8 : H8 l = some (.lst [.str "", .str "", .str "s"]) := by
            rw [hB8 l (hD7.neNew nl).1]
            exact upd_same
          obtain ⟨v, hv, hm⟩ := atI_lt (xs := [V.str "", .str "", .str "s"]) h0 h1
          have hv2 : ∃ t : Str, v = .str t ∧ t.length ≤ 1 := by
            rcases List.mem_cons.mp hm with rfl | hm
            · exact ⟨_, rfl, by decide +kernel⟩
            rcases List.mem_cons.mp hm with rfl | hm
            · exact ⟨_, rfl, by decide +kernel⟩
            rcases List.mem_cons.mp hm with rfl | hm
            · exact ⟨_, rfl, by decide +kernel⟩
            · cases hm
          obtain ⟨t, rfl, ht⟩ := hv2
          refine ⟨l, _, g2, _, rfl, rfl, SqL.of hl8, hv, z, t, rfl, rfl, sz (by omega), ?_⟩
          exact ⟨⟨_, _, _, _, rfl, by rw [len_app]; omega⟩, hD8⟩
        · exact ⟨⟨_, _, _, _, rfl, hz⟩, hD5⟩
      · rintro σ' H6 ⟨⟨y2, y5, y6, z, rfl, hz2⟩, hD6⟩
        refine ⟨fun σ' H' => (∃ x2 x4 x5 x6 z, σ' = [some (.ref a), some (.ref d), x2, some (.str z), x4, x5, x6] ∧ z.length ≤ 1000) ∧ Dr H' d L, ?_, ?_⟩
        · refine ⟨_, rfl, rfl, _, rfl, ite2 (fun c1 => ?_) (fun c1 => ?_)⟩
          · refine ⟨_, rfl, _, rfl, z, rfl, sz (by omega), _, 1, rfl, rfl, d, L, _, rfl, hD6, by omega, by omega, fun at1 H7 h0 h1 hD7 hB7 => ?_⟩
            refine ⟨_, rfl, _, rfl, at1, rfl, z, rfl, sz (by omega), _, rfl, d, L, _, 6, rfl, hD7, by decide, by decide, .inl ⟨_, rfl, by decide +kernel, fun c H8 hc hD8 hB8 => ?_⟩⟩
            have l1 := cutS_len z none (some at1)
            have l3 : (⟨#[c]⟩ : Str).length = 1 := rfl
            refine ⟨_, _, rfl, rfl, sz (by omega), _, rfl, _, rfl, _, rfl, d, L, 2, rfl, hD8, by decide, by decide, fun g2 H9 k0 k1 hD9 hB9 => ?_⟩
            refine ⟨at1, g2, rfl, rfl, _, rfl, z, rfl, sz (by omega), ?_⟩
            have l2 := cutS_len z (some (at1 + g2)) none
            refine ⟨_, _, rfl, rfl, sz (by rw [len_app]; omega), ?_⟩
            exact ⟨⟨_, _, _, _, _, rfl, by rw [len_app, len_app]; omega⟩, hD9⟩
          · exact ⟨⟨_, _, _, _, _, rfl, by omega⟩, hD6⟩
        · rintro σ' H7 ⟨⟨y2, y4, y5, y6, z, rfl, hz2⟩, hD7⟩
          refine ⟨_, rfl, z, rfl, by omega, fun H8 s8 => ?_⟩
          refine ⟨_, rfl, z, rfl, by omega, fun H9 s9 => ?_⟩
          refine ⟨_, rfl, fun H10 s10 => ?_⟩
          refine ⟨true, rfl, iteF ?_⟩
          exact ⟨⟨_, _, _, _, _, rfl⟩, ((hD7.same s8).same s9).same s10⟩
  · refine ⟨_, rfl, by decide +kernel, fun H3 s3 => ?_⟩
    have e1 : nameB "n" = false := by decide +kernel
    have e2 : nameB "nn" = true := by decide +kernel
    have e3 : nameB "" = false := by decide +kernel
    rw [e1]
    refine ⟨_, _, rfl, rfl, true, rfl, iteT ?_⟩
    refine ⟨_, rfl, by decide +kernel, fun H4 s4 => ?_⟩
    rw [e2]
    refine ⟨_, _, rfl, rfl, true, rfl, iteT ?_⟩
    refine ⟨_, rfl, by decide +kernel, fun H5 s5 => ?_⟩
    rw [e3]
    refine ⟨_, _, rfl, rfl, ?_⟩
    exact q H5
end
theorem all_mk {K : PySem.W.Frag} {h : Heap} {mg : Str → Option Value} {fa : Addr} (X : K.In h) (G : h.Ns mainGlobals mg) (hfa : mg "law" = some (.ref fa))
    {f1 : Addr} {od1 an1 : Option Addr} {sl1 : Array (Option Value)} {oc1 kV1 dc1 pm1 cd1 ct1 : Value}
    {f2 : Addr} {od2 an2 : Option Addr} {sl2 : Array (Option Value)} {oc2 kV2 dc2 pm2 cd2 ct2 : Value}
    {f3 : Addr} {od3 an3 : Option Addr} {sl3 : Array (Option Value)} {oc3 kV3 dc3 pm3 cd3 ct3 : Value}
    {f4 : Addr} {od4 an4 : Option Addr} {sl4 : Array (Option Value)} {oc4 kV4 dc4 pm4 cd4 ct4 : Value}
    {f5 : Addr} {od5 an5 : Option Addr} {sl5 : Array (Option Value)} {oc5 kV5 dc5 pm5 cd5 ct5 : Value}
    {f6 : Addr} {od6 an6 : Option Addr} {sl6 : Array (Option Value)} {oc6 kV6 dc6 pm6 cd6 ct6 : Value}
    {f7 : Addr} {od7 an7 : Option Addr} {sl7 : Array (Option Value)} {oc7 kV7 dc7 pm7 cd7 ct7 : Value}
    {f8 : Addr} {od8 an8 : Option Addr} {sl8 : Array (Option Value)} {oc8 kV8 dc8 pm8 cd8 ct8 : Value}
    {vt1 : Tok}
    {vt2 : Tok}
    {va3 : Addr} {vd3 : Option Addr} {vn3 : Nat} {vs3 : Array (Option Value)} {vt3_0 vt3_1 vt3_2 vt3_3 vt3_4 vt3_5 vt3_6 vt3_7 vt3_8 vt3_9 vt3_10 vt3_11 vt3_12 vt3_13 vt3_14 : Tok}
    (a1 : PySem.W.nsIn K mainGlobals "is_name" = some (some (.ref f1))) (l1 : K.lookup f1 = some ⟨oc1, od1, .func (PySem.W.fnOf "is_name" "is_name" (defArgs sis_name) (defBody sis_name) (defScope sis_name) .none kV1 dc1 pm1 an1 cd1 ct1), sl1⟩) (c1 : PySem.W.codeIn K cd1 "is_name" = true) (k1 : PySem.W.keepIn K (.ref f1) = true)
    (a2 : PySem.W.nsIn K mainGlobals "_law_begin" = some (some (.ref f2))) (l2 : K.lookup f2 = some ⟨oc2, od2, .func (PySem.W.fnOf "_law_begin" "_law_begin" (defArgs sl_begin) (defBody sl_begin) (defScope sl_begin) .none kV2 dc2 pm2 an2 cd2 ct2), sl2⟩) (c2 : PySem.W.codeIn K cd2 "_law_begin" = true) (k2 : PySem.W.keepIn K (.ref f2) = true)
    (a3 : PySem.W.nsIn K mainGlobals "_law_take" = some (some (.ref f3))) (l3 : K.lookup f3 = some ⟨oc3, od3, .func (PySem.W.fnOf "_law_take" "_law_take" (defArgs sl_take) (defBody sl_take) (defScope sl_take) .none kV3 dc3 pm3 an3 cd3 ct3), sl3⟩) (c3 : PySem.W.codeIn K cd3 "_law_take" = true) (k3 : PySem.W.keepIn K (.ref f3) = true)
    (a4 : PySem.W.nsIn K mainGlobals "_law_pick" = some (some (.ref f4))) (l4 : K.lookup f4 = some ⟨oc4, od4, .func (PySem.W.fnOf "_law_pick" "_law_pick" (defArgs sl_pick) (defBody sl_pick) (defScope sl_pick) .none kV4 dc4 pm4 an4 cd4 ct4), sl4⟩) (c4 : PySem.W.codeIn K cd4 "_law_pick" = true) (k4 : PySem.W.keepIn K (.ref f4) = true)
    (a5 : PySem.W.nsIn K mainGlobals "_law_kept_words" = some (some (.ref f5))) (l5 : K.lookup f5 = some ⟨oc5, od5, .func (PySem.W.fnOf "_law_kept_words" "_law_kept_words" (defArgs sl_kept_words) (defBody sl_kept_words) (defScope sl_kept_words) .none kV5 dc5 pm5 an5 cd5 ct5), sl5⟩) (c5 : PySem.W.codeIn K cd5 "_law_kept_words" = true) (k5 : PySem.W.keepIn K (.ref f5) = true)
    (a6 : PySem.W.nsIn K mainGlobals "_law_same" = some (some (.ref f6))) (l6 : K.lookup f6 = some ⟨oc6, od6, .func (PySem.W.fnOf "_law_same" "_law_same" (defArgs sl_same) (defBody sl_same) (defScope sl_same) .none kV6 dc6 pm6 an6 cd6 ct6), sl6⟩) (c6 : PySem.W.codeIn K cd6 "_law_same" = true) (k6 : PySem.W.keepIn K (.ref f6) = true)
    (a7 : PySem.W.nsIn K mainGlobals "_law_is_name" = some (some (.ref f7))) (l7 : K.lookup f7 = some ⟨oc7, od7, .func (PySem.W.fnOf "_law_is_name" "_law_is_name" (defArgs sl_is_name) (defBody sl_is_name) (defScope sl_is_name) .none kV7 dc7 pm7 an7 cd7 ct7), sl7⟩) (c7 : PySem.W.codeIn K cd7 "_law_is_name" = true) (k7 : PySem.W.keepIn K (.ref f7) = true)
    (a8 : PySem.W.nsIn K mainGlobals "law" = some (some (.ref f8))) (l8 : K.lookup f8 = some ⟨oc8, od8, .func (PySem.W.fnOf "law" "law" (defArgs slaw) (defBody slaw) (defScope slaw) .none kV8 dc8 pm8 an8 cd8 ct8), sl8⟩) (c8 : PySem.W.codeIn K cd8 "law" = true) (k8 : PySem.W.keepIn K (.ref f8) = true)
    (z1 : PySem.W.nsIn K mainGlobals "abs" = some none)
    (z2 : PySem.W.nsIn K mainGlobals "all" = some none)
    (z3 : PySem.W.nsIn K mainGlobals "bool" = some none)
    (z4 : PySem.W.nsIn K mainGlobals "int" = some none)
    (z5 : PySem.W.nsIn K mainGlobals "isinstance" = some none)
    (z6 : PySem.W.nsIn K mainGlobals "len" = some none)
    (z7 : PySem.W.nsIn K mainGlobals "list" = some none)
    (z8 : PySem.W.nsIn K mainGlobals "range" = some none)
    (z9 : PySem.W.nsIn K mainGlobals "str" = some none)
    (z10 : PySem.W.nsIn K mainGlobals "tuple" = some none)
    (z11 : PySem.W.nsIn K mainGlobals "zip" = some none)
    (v1 : PySem.W.nsIn K mainGlobals "MOST_LETTERS" = some (some (.int 8 vt1)))
    (v2 : PySem.W.nsIn K mainGlobals "LETTERS" = some (some (.str "abcdefghijklmnopqrstuvwxyz" vt2)))
    (v3 : PySem.W.nsIn K mainGlobals "NO_NAMES" = some (some (.ref va3))) (w3 : K.lookup va3 = some ⟨.type "tuple", vd3, .seq #[.str "step" vt3_0, .str "for" vt3_1, .str "from" vt3_2, .str "to" vt3_3, .str "if" vt3_4, .str "else" vt3_5, .str "double" vt3_6, .str "call" vt3_7, .str "with" vt3_8, .str "again" vt3_9, .str "on" vt3_10, .str "halves" vt3_11, .str "thirds" vt3_12, .str "less" vt3_13, .str "n" vt3_14] vn3, vs3⟩) :
    ∃ T : Tops K mg, T.flaw = fa := by
  have e := hfa.symm.trans (PySem.W.mg_of X G a8)
  refine ⟨{ fis_name := f1, dis_name := _, Fis_name := (fun_mk (st := sis_name) l1 c1 k1), gis_name := (PySem.W.mg_of X G a1), fl_begin := f2, dl_begin := _, Fl_begin := (fun_mk (st := sl_begin) l2 c2 k2), gl_begin := (PySem.W.mg_of X G a2), fl_take := f3, dl_take := _, Fl_take := (fun_mk (st := sl_take) l3 c3 k3), gl_take := (PySem.W.mg_of X G a3), fl_pick := f4, dl_pick := _, Fl_pick := (fun_mk (st := sl_pick) l4 c4 k4), gl_pick := (PySem.W.mg_of X G a4), fl_kept_words := f5, dl_kept_words := _, Fl_kept_words := (fun_mk (st := sl_kept_words) l5 c5 k5), gl_kept_words := (PySem.W.mg_of X G a5), fl_same := f6, dl_same := _, Fl_same := (fun_mk (st := sl_same) l6 c6 k6), gl_same := (PySem.W.mg_of X G a6), fl_is_name := f7, dl_is_name := _, Fl_is_name := (fun_mk (st := sl_is_name) l7 c7 k7), gl_is_name := (PySem.W.mg_of X G a7), flaw := f8, dlaw := _, Flaw := (fun_mk (st := slaw) l8 c8 k8), glaw := (PySem.W.mg_of X G a8), mabs := PySem.W.mg_none_of X G z1, mall := PySem.W.mg_none_of X G z2, mbool := PySem.W.mg_none_of X G z3, mint := PySem.W.mg_none_of X G z4, misinstance := PySem.W.mg_none_of X G z5, mlen := PySem.W.mg_none_of X G z6, mlist := PySem.W.mg_none_of X G z7, mrange := PySem.W.mg_none_of X G z8, mstr := PySem.W.mg_none_of X G z9, mtuple := PySem.W.mg_none_of X G z10, mzip := PySem.W.mg_none_of X G z11, cMOST_LETTERS := ⟨_, PySem.W.mg_of X G v1, ⟨_, rfl⟩⟩, cLETTERS := ⟨_, PySem.W.mg_of X G v2, ⟨_, rfl⟩⟩, aNO_NAMES := va3, cNO_NAMES := ⟨_, PySem.W.mg_of X G v3, rfl⟩, tNO_NAMES := fun H => .inr ⟨_, _, _, w3, rfl, rfl, (by show 15 ≤ sizeLine; decide), (.cons ⟨_, rfl⟩ (.cons ⟨_, rfl⟩ (.cons ⟨_, rfl⟩ (.cons ⟨_, rfl⟩ (.cons ⟨_, rfl⟩ (.cons ⟨_, rfl⟩ (.cons ⟨_, rfl⟩ (.cons ⟨_, rfl⟩ (.cons ⟨_, rfl⟩ (.cons ⟨_, rfl⟩ (.cons ⟨_, rfl⟩ (.cons ⟨_, rfl⟩ (.cons ⟨_, rfl⟩ (.cons ⟨_, rfl⟩ (.cons ⟨_, rfl⟩ .nil)))))))))))))))⟩ }, ?_⟩
  cases e
  rfl
end K01
open PySem PySem.W PyProof.Rows
set_option maxRecDepth 100000 in
set_option maxHeartbeats 0 in
theorem PySem.Challenge.cw_outgrow_k01_names_that_are_names_holds : PySem.Challenge.rw_outgrow_k01_names_that_are_names.Holds := by
  w_on; o_law; k_head; (case hw => w_witness2)
  k_fill
  refine L2.walk_of (l := PySem.Challenge.rw_outgrow_k01_names_that_are_names) (n := 63) (k := 5) (x := "_law_script") (CX := fun _ => L2.CX0) (sp := fun w => K01.spLaw _) rfl (by decide) rfl ⟨rfl, by decide, by decide⟩ (fun w h Y => PySem.W.kIn_of Y) ?F (fun _ _ a ns hl _ hS => ⟨a, ns, rfl, hS, hl, fun _ => rfl⟩) (fun _ _ _ _ _ h => h)
  case F =>
    intro w mg fa h KX G hmg
    have hT := K01.all_mk KX G hmg (by k_is) (by k_is) (by k_is) (by k_is) (by k_is) (by k_is) (by k_is) (by k_is) (by k_is) (by k_is) (by k_is) (by k_is) (by k_is) (by k_is) (by k_is) (by k_is) (by k_is) (by k_is) (by k_is) (by k_is) (by k_is) (by k_is) (by k_is) (by k_is) (by k_is) (by k_is) (by k_is) (by k_is) (by k_is) (by k_is) (by k_is) (by k_is) (by k_is) (by k_is) (by k_is) (by k_is) (by k_is) (by k_is) (by k_is) (by k_is) (by k_is) (by k_is) (by k_is) (by k_is) (by k_is) (by k_is) (by k_is)
    obtain ⟨T, rfl⟩ := hT
    exact ⟨T.dlaw, T.blaw, fun base _ _ => K01.ok_law T⟩

