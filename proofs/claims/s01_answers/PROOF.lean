import PyProof.Rows.All
import Wide.All
import OpenK.AllK
import Wide.FinOn
import Open.SpecLaws
import KE.OsHead
import KE.OsGo
import HandS.ForSpec
import HandS.Comp
import HandS.Dict
import HandS.Iter
import HandS.Zip
import HandS.Evl
import HandS.WordsDict
import HandS.SortKw
import KE.DatumOrd
import PyProof.AutoSeq1
import HandS.Walk
import HandS.Conv
import PySem.Challenge.RW_leastparted_s01_answers
set_option Elab.async false
set_option linter.all false
set_option maxRecDepth 100000
set_option maxHeartbeats 4000000
namespace Lp
open Rl05
/-! Numbering by first coming: what plain does, told by which places are alike. -/
def frs (acc l : List Nat) : List Nat := l.foldl (fun m x => if m.contains x = true then m else m ++ [x]) acc
theorem frs_nil (acc : List Nat) : frs acc [] = acc := rfl
theorem frs_cons (acc : List Nat) (x : Nat) (l : List Nat) : frs acc (x :: l) = frs (if acc.contains x = true then acc else acc ++ [x]) l := rfl
theorem mem_frs : ∀ (l acc : List Nat) (x : Nat), x ∈ frs acc l ↔ x ∈ acc ∨ x ∈ l
  | [], acc, x => by simp [frs_nil]
  | y :: l, acc, x => by
    rw [frs_cons, mem_frs l]
    by_cases h : y ∈ acc
    · rw [if_pos (by simpa using h)]
      constructor
      · rintro (a | a)
        · exact .inl a
        · exact .inr (List.mem_cons_of_mem _ a)
      · rintro (a | a)
        · exact .inl a
        · rcases List.mem_cons.mp a with rfl | a
          · exact .inl h
          · exact .inr a
    · rw [if_neg (by simpa using h)]
      simp only [List.mem_append, List.mem_cons, List.mem_singleton]
      grind
theorem frs_map (f : Nat → Nat) : ∀ (l acc : List Nat), (∀ x ∈ acc ++ l, ∀ y ∈ acc ++ l, f x = f y → x = y) → frs (acc.map f) (l.map f) = (frs acc l).map f
  | [], acc, _ => rfl
  | y :: l, acc, h => by
    rw [List.map_cons, frs_cons, frs_cons]
    by_cases hy : y ∈ acc
    · rw [if_pos (by simp; exact ⟨y, hy, rfl⟩), if_pos (by simpa using hy)]
      exact frs_map f l acc fun a ha b hb => h a (by grind) b (by grind)
    · have hn : f y ∉ acc.map f := by
        intro q
        obtain ⟨z, hz, e⟩ := List.mem_map.mp q
        have := h z (by grind) y (by grind) e
        exact hy (this ▸ hz)
      rw [if_neg (by simpa using hn), if_neg (by simpa using hy)]
      have := frs_map f l (acc ++ [y]) (fun a ha b hb => h a (by grind) b (by grind))
      rw [List.map_append] at this
      exact this
theorem plain_eq (l : List Nat) : plain l = l.map fun x => ((frs [] l).findIdx? fun y => y == x).getD 0 := rfl
theorem findIdx?_map_inj (f : Nat → Nat) (x : Nat) : ∀ (F : List Nat), (∀ y ∈ F, f y = f x → y = x) → (F.map f).findIdx? (fun y => y == f x) = F.findIdx? (fun y => y == x)
  | [], _ => rfl
  | a :: F, h => by
    rw [List.map_cons, List.findIdx?_cons, List.findIdx?_cons]
    have ih := findIdx?_map_inj f x F fun y hy => h y (List.mem_cons_of_mem _ hy)
    have e : (f a == f x) = (a == x) := by
      by_cases q : a = x
      · subst q; simp
      · have : f a ≠ f x := fun z => q (h a (List.mem_cons_self) z)
        rw [beq_eq_false_iff_ne.mpr q, beq_eq_false_iff_ne.mpr this]
    rw [e, ih]
theorem plain_map (f : Nat → Nat) (l : List Nat) (h : ∀ x ∈ l, ∀ y ∈ l, f x = f y → x = y) : plain (l.map f) = plain l := by
  rw [plain_eq, plain_eq]
  have e := frs_map f l [] (by simpa using h)
  rw [List.map_nil] at e
  rw [e, List.map_map]
  refine List.map_congr_left fun x hx => ?_
  show ((List.map f (frs [] l)).findIdx? fun y => y == f x).getD 0 = _
  rw [findIdx?_map_inj f x _ fun y hy q => h y (by simpa using (mem_frs l [] y).mp hy) x hx q]
theorem plain_length (l : List Nat) : (plain l).length = l.length := by rw [plain_eq, List.length_map]
/-- alike at the same places -/
structure Alike (l l' : List Nat) : Prop where
  len : l.length = l'.length
  at_ : ∀ i j, i < l.length → j < l.length → (l.getD i 0 = l.getD j 0 ↔ l'.getD i 0 = l'.getD j 0)
theorem Alike.refl (l : List Nat) : Alike l l := ⟨rfl, fun _ _ _ _ => Iff.rfl⟩
theorem Alike.symm {l l' : List Nat} (h : Alike l l') : Alike l' l := ⟨h.len.symm, fun i j a b => (h.at_ i j (h.len ▸ a) (h.len ▸ b)).symm⟩
theorem Alike.trans {a b c : List Nat} (h : Alike a b) (k : Alike b c) : Alike a c :=
  ⟨h.len.trans k.len, fun i j x y => (h.at_ i j x y).trans (k.at_ i j (h.len ▸ x) (h.len ▸ y))⟩
theorem getD_map (f : Nat → Nat) (l : List Nat) (i : Nat) (h : i < l.length) : (l.map f).getD i 0 = f (l.getD i 0) := by
  rw [List.getD_eq_getElem?_getD, List.getD_eq_getElem?_getD, List.getElem?_map, List.getElem?_eq_getElem h]
  rfl
theorem getD_mem {l : List Nat} {i : Nat} (h : i < l.length) : l.getD i 0 ∈ l := by
  rw [List.getD_eq_getElem?_getD, List.getElem?_eq_getElem h]
  exact List.getElem_mem h
theorem alike_map {f : Nat → Nat} {l : List Nat} (h : ∀ x ∈ l, ∀ y ∈ l, f x = f y → x = y) : Alike (l.map f) l := by
  refine ⟨List.length_map _, fun i j hi hj => ?_⟩
  rw [List.length_map] at hi hj
  rw [getD_map f l i hi, getD_map f l j hj]
  exact ⟨fun e => h _ (getD_mem hi) _ (getD_mem hj) e, fun e => by rw [e]⟩
theorem idx_inj {F : List Nat} {x y : Nat} (hx : x ∈ F) (hy : y ∈ F) (e : (F.findIdx? fun z => z == x).getD 0 = (F.findIdx? fun z => z == y).getD 0) : x = y := by
  have hx' : (F.findIdx? fun z => z == x).isSome := by rw [List.findIdx?_isSome]; simpa using hx
  have hy' : (F.findIdx? fun z => z == y).isSome := by rw [List.findIdx?_isSome]; simpa using hy
  obtain ⟨i, hi⟩ := Option.isSome_iff_exists.mp hx'
  obtain ⟨j, hj⟩ := Option.isSome_iff_exists.mp hy'
  rw [hi, hj] at e
  have e : i = j := e
  subst e
  obtain ⟨h1, h2, _⟩ := List.findIdx?_eq_some_iff_getElem.mp hi
  obtain ⟨_, k2, _⟩ := List.findIdx?_eq_some_iff_getElem.mp hj
  exact (eq_of_beq h2).symm.trans (eq_of_beq k2)
theorem alike_plain (l : List Nat) : Alike (plain l) l := by
  rw [plain_eq]
  exact alike_map fun x hx y hy e => idx_inj ((mem_frs l [] x).mpr (.inr hx)) ((mem_frs l [] y).mpr (.inr hy)) e
theorem alike_idx {l l' : List Nat} (h : Alike l l') : (l.map fun x => l.idxOf x) = l'.map fun x => l'.idxOf x := by
  refine List.ext_getElem (by rw [List.length_map, List.length_map, h.len]) fun i h1 h2 => ?_
  rw [List.length_map] at h1 h2
  rw [List.getElem_map, List.getElem_map]
  have A : ∀ (m : List Nat) (k : Nat) (hk : k < m.length), m.getD k 0 = m[k] := fun m k hk => by rw [List.getD_eq_getElem?_getD, List.getElem?_eq_getElem hk]; rfl
  have key : ∀ (a b : List Nat) (hab : Alike a b) (ha : i < a.length) (hb : i < b.length), a.idxOf a[i] ≤ b.idxOf b[i] := by
    intro a b hab ha hb
    have hm : b[i] ∈ b := List.getElem_mem hb
    have hk : b.idxOf b[i] < b.length := List.idxOf_lt_length_of_mem hm
    have e : b[b.idxOf b[i]] = b[i] := List.getElem_idxOf hk
    have hk' : b.idxOf b[i] < a.length := hab.len ▸ hk
    have e2 := (hab.at_ (b.idxOf b[i]) i hk' ha).mpr (by rw [A b _ hk, A b _ hb, e])
    rw [A a _ hk', A a _ ha] at e2
    refine Nat.le_of_not_lt fun q => ?_
    have := List.not_of_lt_findIdx (p := fun z => z == a[i]) (xs := a) (i := b.idxOf b[i]) q
    simp [e2] at this
  exact Nat.le_antisymm (key l l' h h1 h2) (key l' l h.symm h2 h1)
theorem plain_idx (l : List Nat) : plain (l.map fun x => l.idxOf x) = plain l :=
  plain_map _ l fun x hx y hy e => by
    have h1 := List.getElem_idxOf (List.idxOf_lt_length_of_mem hx)
    have h2 := List.getElem_idxOf (List.idxOf_lt_length_of_mem hy)
    have e : l.idxOf x = l.idxOf y := e
    rw [← h1, ← h2]
    simp only [e]
/-- plain depends on what is alike alone -/
theorem plain_congr {l l' : List Nat} (h : Alike l l') : plain l = plain l' := by
  rw [← plain_idx l, ← plain_idx l', alike_idx h]
theorem plain_plain (l : List Nat) : plain (plain l) = plain l := plain_congr (alike_plain l)
/-- two that are told as groups are told, and alike, are the same -/
theorem canon_eq {l l' : List Nat} (c : plain l = l) (c' : plain l' = l') (h : Alike l l') : l = l' := by
  rw [← c, ← c', plain_congr h]
end Lp

namespace Lp
open Rl05
/-! Joining, one pair after another: who is together then. -/
inductive Conn (R : Nat → Nat → Prop) : Nat → Nat → Prop where
  | refl (i : Nat) : Conn R i i
  | base {i j : Nat} (h : R i j) : Conn R i j
  | symm {i j : Nat} (h : Conn R i j) : Conn R j i
  | trans {i j k : Nat} (h : Conn R i j) (h' : Conn R j k) : Conn R i k
theorem Conn.lift {R S : Nat → Nat → Prop} (h : ∀ x y, R x y → Conn S x y) {i j : Nat} (c : Conn R i j) : Conn S i j := by
  induction c with
  | refl i => exact .refl i
  | base r => exact h _ _ r
  | symm _ ih => exact ih.symm
  | trans _ _ ih ih' => exact ih.trans ih'
def InR (n i : Nat) : Prop := 1 ≤ i ∧ i ≤ n
def tog (g : List Nat) (i j : Nat) : Prop := g.getD (i - 1) 0 = g.getD (j - 1) 0
theorem together_iff (g : List Nat) (i j : Nat) : together g i j = true ↔ tog g i j := by unfold together tog; exact beq_iff_eq
theorem together_no (g : List Nat) (i j : Nat) : together g i j = false ↔ ¬ tog g i j := by rw [← together_iff]; simp
theorem Alike.tog {l l' : List Nat} (h : Alike l l') {i j : Nat} (hi : InR l.length i) (hj : InR l.length j) : tog l i j ↔ tog l' i j :=
  h.at_ (i - 1) (j - 1) (by unfold InR at hi; omega) (by unfold InR at hj; omega)
theorem alike_of_tog {l l' : List Nat} (hl : l.length = l'.length) (h : ∀ i j, InR l.length i → InR l.length j → (tog l i j ↔ tog l' i j)) : Alike l l' :=
  ⟨hl, fun i j hi hj => by
    have := h (i + 1) (j + 1) ⟨by omega, by omega⟩ ⟨by omega, by omega⟩
    unfold Lp.tog at this
    simpa using this⟩
theorem join_length (g : List Nat) (a b : Nat) : (join g a b).length = g.length := by unfold join; rw [plain_length, List.length_map]
theorem join_plain (g : List Nat) (a b : Nat) : plain (join g a b) = join g a b := plain_plain _
theorem join_tog {g : List Nat} {a b i j : Nat} (hi : InR g.length i) (hj : InR g.length j) :
    tog (join g a b) i j ↔ (if g.getD (i - 1) 0 = b then a else g.getD (i - 1) 0) = (if g.getD (j - 1) 0 = b then a else g.getD (j - 1) 0) := by
  unfold join
  have e := (alike_plain (g.map fun x => if x = b then a else x)).tog (i := i) (j := j) (by rw [plain_length, List.length_map]; exact hi) (by rw [plain_length, List.length_map]; exact hj)
  rw [e]
  unfold tog
  unfold InR at hi hj
  rw [getD_map _ g _ (by omega), getD_map _ g _ (by omega)]
theorem join_tog' {g : List Nat} {p q i j : Nat} (hi : InR g.length i) (hj : InR g.length j) :
    tog (join g (g.getD (p - 1) 0) (g.getD (q - 1) 0)) i j ↔ (tog g i j ∨ (tog g i p ∧ tog g j q) ∨ (tog g i q ∧ tog g j p)) := by
  rw [join_tog hi hj]
  unfold tog
  grind
def jfold (g : List Nat) (ps : List (Nat × Nat)) : List Nat := ps.foldl (fun g p => join g (g.getD (p.1 - 1) 0) (g.getD (p.2 - 1) 0)) g
theorem jfold_length : ∀ (ps : List (Nat × Nat)) (g : List Nat), (jfold g ps).length = g.length
  | [], _ => rfl
  | p :: ps, g => (jfold_length ps _).trans (join_length _ _ _)
theorem jfold_plain : ∀ (ps : List (Nat × Nat)) (g : List Nat), plain g = g → plain (jfold g ps) = jfold g ps
  | [], _, h => h
  | p :: ps, g, _ => jfold_plain ps _ (join_plain _ _ _)
theorem jfold_tog {n : Nat} : ∀ (ps : List (Nat × Nat)) (g : List Nat), g.length = n → (∀ p ∈ ps, InR n p.1 ∧ InR n p.2) → ∀ i j, InR n i → InR n j →
    (tog (jfold g ps) i j ↔ Conn (fun x y => (InR n x ∧ InR n y ∧ tog g x y) ∨ (x, y) ∈ ps) i j)
  | [], g, hg, _, i, j, hi, hj => by
    show tog g i j ↔ _
    refine ⟨fun h => .base (.inl ⟨hi, hj, h⟩), fun c => ?_⟩
    have : ∀ {x y}, Conn (fun x y => (InR n x ∧ InR n y ∧ tog g x y) ∨ (x, y) ∈ ([] : List (Nat × Nat))) x y → tog g x y := by
      intro x y c
      induction c with
      | refl i => rfl
      | base r =>
        rcases r with r | r
        · exact r.2.2
        · cases r
      | symm _ ih => exact Eq.symm ih
      | trans _ _ ih ih' => exact Eq.trans ih ih'
    exact this c
  | p :: ps, g, hg, hps, i, j, hi, hj => by
    have hp := hps p List.mem_cons_self
    show tog (jfold (join g (g.getD (p.1 - 1) 0) (g.getD (p.2 - 1) 0)) ps) i j ↔ _
    rw [jfold_tog ps _ ((join_length _ _ _).trans hg) (fun q hq => hps q (List.mem_cons_of_mem _ hq)) i j hi hj]
    subst hg
    constructor
    · refine Conn.lift fun x y h => ?_
      rcases h with ⟨hx, hy, h⟩ | h
      · have pj : Conn (fun x y => (InR g.length x ∧ InR g.length y ∧ tog g x y) ∨ (x, y) ∈ p :: ps) p.1 p.2 := .base (.inr List.mem_cons_self)
        rcases (join_tog' hx hy).mp h with h | ⟨h1, h2⟩ | ⟨h1, h2⟩
        · exact .base (.inl ⟨hx, hy, h⟩)
        · exact (Conn.base (.inl ⟨hx, hp.1, h1⟩)).trans (pj.trans (Conn.base (.inl ⟨hy, hp.2, h2⟩)).symm)
        · exact (Conn.base (.inl ⟨hx, hp.2, h1⟩)).trans (pj.symm.trans (Conn.base (.inl ⟨hy, hp.1, h2⟩)).symm)
      · exact .base (.inr (List.mem_cons_of_mem _ h))
    · refine Conn.lift fun x y h => ?_
      rcases h with ⟨hx, hy, h⟩ | h
      · exact .base (.inl ⟨hx, hy, (join_tog' hx hy).mpr (.inl h)⟩)
      · rcases List.mem_cons.mp h with h | h
        · subst h
          exact .base (.inl ⟨hp.1, hp.2, (join_tog' hp.1 hp.2).mpr (.inr (.inl ⟨rfl, rfl⟩))⟩)
        · exact .base (.inr h)
theorem joinAll_eq (n : Nat) (ps : List (Nat × Nat)) : joinAll n ps = jfold (single n) ps := rfl
theorem single_length (n : Nat) : (single n).length = n := List.length_range
theorem joinAll_length (n : Nat) (ps : List (Nat × Nat)) : (joinAll n ps).length = n := by rw [joinAll_eq, jfold_length, single_length]
theorem single_tog {n i j : Nat} (hi : InR n i) (hj : InR n j) : tog (single n) i j ↔ i = j := by
  unfold tog single
  unfold InR at hi hj
  rw [List.getD_eq_getElem?_getD, List.getD_eq_getElem?_getD, List.getElem?_range (by omega), List.getElem?_range (by omega)]
  show i - 1 = j - 1 ↔ i = j
  omega
/-- who is together when pairs were joined, one after another -/
theorem joinAll_tog {n : Nat} {ps : List (Nat × Nat)} (hps : ∀ p ∈ ps, InR n p.1 ∧ InR n p.2) {i j : Nat} (hi : InR n i) (hj : InR n j) :
    tog (joinAll n ps) i j ↔ Conn (fun x y => (x, y) ∈ ps) i j := by
  rw [joinAll_eq, jfold_tog ps _ (single_length n) hps i j hi hj]
  constructor
  · refine Conn.lift fun x y h => ?_
    rcases h with ⟨hx, hy, h⟩ | h
    · rw [(single_tog hx hy).mp h]
      exact .refl _
    · exact .base h
  · exact Conn.lift fun x y h => .base (.inr h)
/-! ### the numbers of groups as they are told: each one that was there, or the next -/
def Grow : Nat → List Nat → Prop
  | _, [] => True
  | m, x :: l => x ≤ m ∧ Grow (max m (x + 1)) l
def mx (m : Nat) (l : List Nat) : Nat := l.foldl (fun m x => max m (x + 1)) m
theorem mx_cons (m x : Nat) (l : List Nat) : mx m (x :: l) = mx (max m (x + 1)) l := rfl
theorem le_mx : ∀ (l : List Nat) (m : Nat), m ≤ mx m l
  | [], m => Nat.le_refl m
  | x :: l, m => Nat.le_trans (Nat.le_max_left _ _) (le_mx l _)
theorem lt_mx : ∀ (l : List Nat) (m x : Nat), x ∈ l → x < mx m l
  | y :: l, m, x, h => by
    rcases List.mem_cons.mp h with rfl | h
    · exact Nat.lt_of_lt_of_le (Nat.lt_of_lt_of_le (Nat.lt_succ_self x) (Nat.le_max_right m _)) (le_mx l _)
    · exact lt_mx l _ x h
theorem frs_grow : ∀ (l : List Nat) (m : Nat), Grow m l → frs (List.range m) l = List.range (mx m l)
  | [], m, _ => rfl
  | x :: l, m, ⟨h1, h2⟩ => by
    rw [frs_cons, mx_cons]
    by_cases h : x < m
    · rw [if_pos (by simpa using h)]
      have e : max m (x + 1) = m := by omega
      rw [e] at h2 ⊢
      exact frs_grow l m h2
    · rw [if_neg (by simpa using h)]
      have e : x = m := by omega
      subst e
      have e : max x (x + 1) = x + 1 := by omega
      rw [e] at h2 ⊢
      rw [← List.range_succ]
      exact frs_grow l _ h2
theorem findIdx?_range {n x : Nat} (h : x < n) : (List.range n).findIdx? (fun y => y == x) = some x := by
  rw [List.findIdx?_eq_some_iff_getElem]
  refine ⟨by simpa using h, by simp, fun j hj => ?_⟩
  simp
  omega
theorem plain_of_grow {l : List Nat} (h : Grow 0 l) : plain l = l := by
  rw [plain_eq]
  have e := frs_grow l 0 h
  rw [List.range_zero] at e
  rw [e]
  have : ∀ x ∈ l, ((List.range (mx 0 l)).findIdx? fun y => y == x).getD 0 = x := fun x hx => by rw [findIdx?_range (lt_mx l 0 x hx)]; rfl
  conv => rhs; rw [← List.map_id l]
  exact List.map_congr_left this
theorem frs_prefix : ∀ (l acc : List Nat), acc <+: frs acc l
  | [], acc => List.prefix_refl _
  | x :: l, acc => by
    rw [frs_cons]
    split
    · exact frs_prefix l acc
    · exact (List.prefix_append acc [x]).trans (frs_prefix l _)
theorem findIdx?_prefix {F acc : List Nat} {x : Nat} (h : acc <+: F) (hx : x ∈ acc) : F.findIdx? (fun y => y == x) = acc.findIdx? (fun y => y == x) := by
  obtain ⟨r, rfl⟩ := h
  rw [List.findIdx?_append]
  have : (acc.findIdx? fun z => z == x).isSome := by rw [List.findIdx?_isSome]; simpa using hx
  obtain ⟨i, hi⟩ := Option.isSome_iff_exists.mp this
  rw [hi]
  rfl
theorem grow_idx (F : List Nat) : ∀ (l acc : List Nat), frs acc l = F → Grow acc.length (l.map fun x => (F.findIdx? fun y => y == x).getD 0)
  | [], _, _ => trivial
  | x :: l, acc, h => by
    rw [frs_cons] at h
    rw [List.map_cons]
    by_cases hx : x ∈ acc
    · rw [if_pos (by simpa using hx)] at h
      have hp : acc <+: F := h ▸ frs_prefix l acc
      have : (acc.findIdx? fun z => z == x).isSome := by rw [List.findIdx?_isSome]; simpa using hx
      obtain ⟨i, hi⟩ := Option.isSome_iff_exists.mp this
      have hlt : i < acc.length := (List.findIdx?_eq_some_iff_getElem.mp hi).1
      have e : ((F.findIdx? fun y => y == x).getD 0) = i := by rw [findIdx?_prefix hp hx, hi]; rfl
      refine ⟨by rw [e]; omega, ?_⟩
      rw [e, show max acc.length (i + 1) = acc.length by omega]
      exact grow_idx F l acc h
    · rw [if_neg (by simpa using hx)] at h
      have hp : (acc ++ [x]) <+: F := h ▸ frs_prefix l _
      have e0 : (acc ++ [x]).findIdx? (fun y => y == x) = some acc.length := by
        rw [List.findIdx?_append]
        have : (acc.findIdx? fun z => z == x) = none := by rw [List.findIdx?_eq_none_iff]; intro y hy; simp; intro q; exact hx (q ▸ hy)
        rw [this]
        simp [List.findIdx?_cons]
      have e : ((F.findIdx? fun y => y == x).getD 0) = acc.length := by rw [findIdx?_prefix hp (by simp), e0]; rfl
      refine ⟨by rw [e]; omega, ?_⟩
      rw [e, show max acc.length (acc.length + 1) = (acc ++ [x]).length by simp]
      exact grow_idx F l _ h
theorem grow_plain (l : List Nat) : Grow 0 (plain l) := grow_idx _ l [] rfl
theorem grow_iff {l : List Nat} : Grow 0 l ↔ plain l = l := ⟨plain_of_grow, fun h => h ▸ grow_plain l⟩
theorem mem_growth : ∀ (n m : Nat) (g : List Nat), g ∈ growth n m ↔ g.length = n ∧ Grow m g
  | 0, m, g => by
    show g ∈ [[]] ↔ _
    rw [List.mem_singleton]
    constructor
    · rintro rfl
      exact ⟨rfl, trivial⟩
    · exact fun h => List.length_eq_zero_iff.mp h.1
  | n + 1, m, g => by
    unfold growth
    rw [List.mem_flatMap]
    constructor
    · rintro ⟨x, hx, hg⟩
      obtain ⟨l, hl, rfl⟩ := List.mem_map.mp hg
      obtain ⟨h1, h2⟩ := (mem_growth n _ l).mp hl
      rw [List.mem_range] at hx
      exact ⟨by rw [List.length_cons, h1], by omega, h2⟩
    · rintro ⟨h1, h2⟩
      cases g with
      | nil => cases h1
      | cons x l =>
        obtain ⟨h2, h3⟩ := h2
        exact ⟨x, List.mem_range.mpr (by omega), List.mem_map.mpr ⟨l, (mem_growth n _ l).mpr ⟨by simpa using h1, h3⟩, rfl⟩⟩
/-- all ways to part: the lists of that length that are told as groups are -/
theorem mem_all {n : Nat} {g : List Nat} : g ∈ all n ↔ g.length = n ∧ plain g = g := by
  unfold all
  rw [mem_growth, grow_iff]
theorem plain_single (n : Nat) : plain (single n) = single n := by
  have : ∀ (k m : Nat), Grow m (List.range' m k) := by
    intro k
    induction k with
    | zero => intro m; trivial
    | succ k ih =>
      intro m
      rw [List.range'_succ]
      exact ⟨Nat.le_refl _, by rw [show max m (m + 1) = m + 1 by omega]; exact ih (m + 1)⟩
  unfold single
  rw [List.range_eq_range']
  exact plain_of_grow (this n 0)
theorem joinAll_plain (n : Nat) (ps : List (Nat × Nat)) : plain (joinAll n ps) = joinAll n ps := jfold_plain ps _ (plain_single n)
theorem joinAll_mem (n : Nat) (ps : List (Nat × Nat)) : joinAll n ps ∈ all n := mem_all.mpr ⟨joinAll_length n ps, joinAll_plain n ps⟩
/-- groups that are told rightly, and have together whoever is joined, and so on: those of joinAll -/
theorem joinAll_unique {n : Nat} {ps : List (Nat × Nat)} (hps : ∀ p ∈ ps, InR n p.1 ∧ InR n p.2) {g : List Nat} (hl : g.length = n) (hg : plain g = g)
    (h : ∀ i j, InR n i → InR n j → (tog g i j ↔ Conn (fun x y => (x, y) ∈ ps) i j)) : g = joinAll n ps := by
  refine canon_eq hg (joinAll_plain n ps) (alike_of_tog (hl.trans (joinAll_length n ps).symm) fun i j hi hj => ?_)
  rw [hl] at hi hj
  rw [h i j hi hj, joinAll_tog hps hi hj]
/-- one record more at the end: the ways to part grow from those of the others -/
theorem growth_snoc : ∀ (n m : Nat), growth (n + 1) m = (growth n m).flatMap fun l => (List.range (mx m l + 1)).map fun x => l ++ [x]
  | 0, m => by
    show ((List.range (m + 1)).flatMap fun x => (growth 0 (max m (x + 1))).map fun l => x :: l) = ([[]] : List (List Nat)).flatMap _
    rw [List.flatMap_cons, List.flatMap_nil, List.append_nil]
    show ((List.range (m + 1)).flatMap fun x => [[x]]) = (List.range (m + 1)).map fun x => [x]
    rw [List.map_eq_flatMap]
  | n + 1, m => by
    conv => lhs; unfold growth
    conv => rhs; unfold growth
    rw [List.flatMap_assoc]
    refine congrArg (fun f => (List.range (m + 1)).flatMap f) ?_
    funext x
    rw [growth_snoc n, List.map_flatMap, List.flatMap_map]
    refine congrArg (fun f => (growth n (max m (x + 1))).flatMap f) ?_
    funext l
    rw [List.map_map, mx_cons]
    rfl
theorem all_succ (n : Nat) : all (n + 1) = (all n).flatMap fun l => (List.range (mx 0 l + 1)).map fun x => l ++ [x] := growth_snoc n 0
end Lp

namespace Lp
open Rl05
/-! What stands of a pair behind a change. -/
theorem voteOf_ij (s : St) (i j : Nat) : (voteOf s i j).i = min i j ∧ (voteOf s i j).j = max i j := by
  unfold voteOf
  cases h : s.votes.find? fun v => v.i == min i j && v.j == max i j with
  | none => exact ⟨rfl, rfl⟩
  | some v =>
    have := List.find?_some h
    simp at this
    exact this
theorem voteOf_comm (s : St) (i j : Nat) : voteOf s i j = voteOf s j i := by
  unfold voteOf
  rw [Nat.min_comm i j, Nat.max_comm i j]
theorem voteOf_set (s : St) (v : Vote) (i j : Nat) : voteOf (setVote s v) i j = if v.i = min i j ∧ v.j = max i j then v else voteOf s i j := by
  unfold voteOf setVote
  show (((s.votes.filter fun w => !(w.i == v.i && w.j == v.j)) ++ [v]).find? fun w => w.i == min i j && w.j == max i j).getD _ = _
  rw [List.find?_append]
  by_cases h : v.i = min i j ∧ v.j = max i j
  · rw [if_pos h]
    have e : ((s.votes.filter fun w => !(w.i == v.i && w.j == v.j)).find? fun w => w.i == min i j && w.j == max i j) = none := by
      rw [List.find?_eq_none]
      intro x hx
      have := (List.mem_filter.mp hx).2
      rw [h.1, h.2] at this
      intro q
      rw [q] at this
      cases this
    rw [e]
    have : (v.i == min i j && v.j == max i j) = true := by simp [h.1, h.2]
    simp [List.find?_cons, this]
  · rw [if_neg h]
    have e : ((s.votes.filter fun w => !(w.i == v.i && w.j == v.j)).find? fun w => w.i == min i j && w.j == max i j) = s.votes.find? fun w => w.i == min i j && w.j == max i j := by
      rw [List.find?_filter]
      congr 1
      funext a
      by_cases q : a.i = min i j ∧ a.j = max i j
      · have : ¬ (a.i = v.i ∧ a.j = v.j) := fun z => h ⟨z.1 ▸ q.1, z.2 ▸ q.2⟩
        have e1 : (a.i == v.i && a.j == v.j) = false := by rw [Bool.eq_false_iff]; simpa using this
        rw [e1]
        simp [q.1, q.2]
      · have : (a.i == min i j && a.j == max i j) = false := by
          rw [Bool.eq_false_iff]
          simpa using q
        rw [this]
        simp
    rw [e]
    have : ([v].find? fun w => w.i == min i j && w.j == max i j) = none := by
      rw [List.find?_eq_none]
      intro x hx
      rw [List.mem_singleton] at hx
      subst hx
      simpa using h
    rw [this, Option.or_none]
theorem setVote_n (s : St) (v : Vote) : (setVote s v).n = s.n := rfl
/-! Pairs, in order. -/
theorem records_eq (s : St) : records s = List.range' 1 s.n := by
  unfold records
  rw [List.range'_eq_map_range]
  refine List.map_congr_left fun x _ => ?_
  omega
theorem filter_range' : ∀ (n a i : Nat), a ≤ i + 1 → i + 1 ≤ a + n → (List.range' a n).filter (fun j => decide (i < j)) = List.range' (i + 1) (a + n - (i + 1))
  | 0, a, i, h1, h2 => by
    rw [show a + 0 - (i + 1) = 0 by omega]
    rfl
  | n + 1, a, i, h1, h2 => by
    rw [List.range'_succ]
    by_cases h : i < a
    · have e : i + 1 = a := by omega
      subst e
      rw [List.filter_eq_self.mpr]
      · rw [← List.range'_succ]
        congr 1
        omega
      · intro x hx
        rw [List.mem_cons, List.mem_range'_1] at hx
        simp
        omega
    · rw [List.filter_cons_of_neg (by simpa using h)]
      rw [filter_range' n (a + 1) i (by omega) (by omega)]
      congr 1
      omega
theorem flatMap_congr' {α β : Type} {f g : α → List β} : ∀ {l : List α}, (∀ x ∈ l, f x = g x) → l.flatMap f = l.flatMap g
  | [], _ => rfl
  | a :: l, h => by rw [List.flatMap_cons, List.flatMap_cons, h a List.mem_cons_self, flatMap_congr' fun x hx => h x (List.mem_cons_of_mem _ hx)]
theorem pairs_eq (s : St) : pairs s = (List.range' 1 s.n).flatMap fun i => (List.range' (i + 1) (s.n - i)).map fun j => (i, j) := by
  unfold pairs pairsOf
  rw [records_eq]
  refine flatMap_congr' fun i hi => ?_
  rw [List.mem_range'_1] at hi
  rw [filter_range' s.n 1 i (by omega) (by omega), show 1 + s.n - (i + 1) = s.n - i by omega]
theorem mem_pairs {s : St} {p : Nat × Nat} : p ∈ pairs s ↔ 1 ≤ p.1 ∧ p.1 < p.2 ∧ p.2 ≤ s.n := by
  rw [pairs_eq, List.mem_flatMap]
  constructor
  · rintro ⟨i, hi, h⟩
    obtain ⟨j, hj, rfl⟩ := List.mem_map.mp h
    rw [List.mem_range'_1] at hi hj
    show 1 ≤ i ∧ i < j ∧ j ≤ s.n
    omega
  · intro h
    refine ⟨p.1, ?_, List.mem_map.mpr ⟨p.2, ?_, rfl⟩⟩
    · rw [List.mem_range'_1]
      omega
    · rw [List.mem_range'_1]
      omega
theorem pairs_in {s : St} {p : Nat × Nat} (h : p ∈ pairs s) : InR s.n p.1 ∧ InR s.n p.2 := by
  have := mem_pairs.mp h
  unfold InR
  omega
theorem pairs_nodup (s : St) : (pairs s).Nodup := by
  rw [pairs_eq]
  rw [List.nodup_iff_pairwise_ne, List.pairwise_flatMap]
  refine ⟨fun i _ => ?_, ?_⟩
  · rw [List.pairwise_map]
    exact (List.nodup_range' (step := 1)).imp fun h q => h (Prod.mk.inj q).2
  · refine (List.nodup_range' (s := 1) (n := s.n) (step := 1)).imp fun h x hx y hy q => ?_
    obtain ⟨a, _, rfl⟩ := List.mem_map.mp hx
    obtain ⟨b, _, rfl⟩ := List.mem_map.mp hy
    exact h (Prod.mk.inj q).1
theorem pairs_n (s t : St) (h : s.n = t.n) : pairs s = pairs t := by
  rw [pairs_eq, pairs_eq, h]
theorem isPair_iff {s : St} {i j : Nat} : isPair s i j = true ↔ InR s.n i ∧ InR s.n j ∧ i ≠ j := by
  unfold isPair isRec InR
  simp
theorem isPair_mem {s : St} {i j : Nat} : isPair s i j = true ↔ (min i j, max i j) ∈ pairs s := by
  rw [isPair_iff, mem_pairs]
  unfold InR
  show _ ↔ 1 ≤ min i j ∧ min i j < max i j ∧ max i j ≤ s.n
  omega
/-! The least of some numbers. -/
theorem foldl_min_le : ∀ (l : List Nat) (a : Nat), l.foldl min a ≤ a ∧ ∀ x ∈ l, l.foldl min a ≤ x
  | [], a => ⟨Nat.le_refl a, by simp⟩
  | y :: l, a => by
    obtain ⟨h1, h2⟩ := foldl_min_le l (min a y)
    rw [List.foldl_cons]
    refine ⟨by omega, fun x hx => ?_⟩
    rcases List.mem_cons.mp hx with rfl | hx
    · omega
    · exact h2 x hx
theorem foldl_min_mem : ∀ (l : List Nat) (a : Nat), l.foldl min a ∈ a :: l
  | [], a => by simp
  | y :: l, a => by
    rw [List.foldl_cons]
    have := foldl_min_mem l (min a y)
    rcases List.mem_cons.mp this with h | h
    · rw [h]
      rcases Nat.le_total a y with q | q
      · rw [Nat.min_eq_left q]; simp
      · rw [Nat.min_eq_right q]; simp
    · simp [h]
theorem least_some {l : List Nat} {c : Nat} : least? l = some c ↔ c ∈ l ∧ ∀ x ∈ l, c ≤ x := by
  cases l with
  | nil => simp [least?]
  | cons a l =>
    show some (l.foldl min a) = some c ↔ _
    obtain ⟨h1, h2⟩ := foldl_min_le l a
    have h3 := foldl_min_mem l a
    constructor
    · intro e
      have e := Option.some.inj e
      subst e
      refine ⟨h3, fun x hx => ?_⟩
      rcases List.mem_cons.mp hx with rfl | hx
      · exact h1
      · exact h2 x hx
    · rintro ⟨q1, q2⟩
      have a1 := q2 _ h3
      have a2 : l.foldl min a ≤ c := by
        rcases List.mem_cons.mp q1 with rfl | q
        · exact h1
        · exact h2 c q
      rw [Nat.le_antisymm a2 a1]
theorem least_none {l : List Nat} : least? l = none ↔ l = [] := by
  cases l with
  | nil => simp [least?]
  | cons a l => simp [least?]
/-- only which numbers there are counts -/
theorem least_congr {l l' : List Nat} (h : ∀ x, x ∈ l ↔ x ∈ l') : least? l = least? l' := by
  cases e : least? l' with
  | none =>
    rw [least_none] at e ⊢
    subst e
    exact List.eq_nil_iff_forall_not_mem.mpr fun x hx => by simpa using (h x).mp hx
  | some c =>
    rw [least_some] at e ⊢
    exact ⟨(h c).mpr e.1, fun x hx => e.2 x ((h x).mp hx)⟩
theorem total_eq (l : List Nat) : total l = l.sum := by
  unfold total
  exact (List.sum_eq_foldl (xs := l)).symm
theorem sum_cast (l : List Nat) : ((l.map fun (n : Nat) => (n : Int)).sum) = ((l.sum : Nat) : Int) := by
  induction l with
  | nil => rfl
  | cons a l ih => rw [List.map_cons, List.sum_cons, List.sum_cons, ih]; omega
/-- the cheapest: those kept whose cost is the least -/
theorem cheapest_eq (s : St) : cheapest s = (least? ((may s).map (cost s))).map fun c => (c, (may s).filter fun g => cost s g == c) := by
  show Option.map _ (least? (((may s).map fun g => (cost s g, g)).map fun x => x.1)) = _
  rw [List.map_map]
  show Option.map _ (least? ((may s).map (cost s))) = _
  congr 1
  funext c
  rw [List.filter_map, List.map_map]
  congr 1
  show List.map id _ = _
  rw [List.map_id]
  rfl
theorem mem_may {s : St} {g : List Nat} : g ∈ may s ↔ (g.length = s.n ∧ plain g = g) ∧ keeps s g = true := by
  unfold may
  rw [List.mem_filter, mem_all]
end Lp

namespace Lp
open Rl05
/-! The one list as calls. -/
inductive At : List Int → Call → List Int → Prop where
  | records (n : Nat) (t : List Int) : At (0 :: (n : Int) :: t) (.records n) t
  | vote (i j p c : Nat) (t : List Int) : At (1 :: (i : Int) :: (j : Int) :: (p : Int) :: (c : Int) :: t) (.vote i j p c) t
  | rule (i j r : Nat) (t : List Int) : At (2 :: (i : Int) :: (j : Int) :: (r : Int) :: t) (.rule i j r) t
  | least (t : List Int) : At (3 :: t) .least t
  | nth (k : Nat) (t : List Int) : At (4 :: (k : Int) :: t) (.nth k) t
  | sure (t : List Int) : At (5 :: t) .sure t
  | margin (i j : Nat) (t : List Int) : At (6 :: (i : Int) :: (j : Int) :: t) (.margin i j) t
  | cost (g : List Nat) (t : List Int) : At (7 :: (g.length : Int) :: (Rl05.ints g ++ t)) (.cost g) t
  | chain (k : Nat) (t : List Int) : At (8 :: (k : Int) :: t) (.chain k) t
  | greedy (t : List Int) : At (9 :: t) .greedy t
  | without (i : Nat) (t : List Int) : At (10 :: (i : Int) :: t) (.without i) t
  | counts (t : List Int) : At (11 :: t) .counts t
inductive Parsed : List Int → List Call → Prop where
  | nil : Parsed [] []
  | cons {l t : List Int} {x : Call} {xs : List Call} (h : At l x t) (r : Parsed t xs) : Parsed l (x :: xs)
theorem nat_of {z : Int} (h : Rl05Neutral.nat z = true) : (z.toNat : Int) = z := by
  unfold Rl05Neutral.nat at h
  simp at h
  omega
theorem callOf_of {c : List (List Int)} (h : Rl05Neutral.asked1 c = true) : (c.all fun r => r.all Rl05Neutral.nat) = true ∧ Rl05Neutral.callOf c = Rl05Neutral.callIn (c.map fun r => r.map Int.toNat) := by
  unfold Rl05Neutral.asked1 Rl05Neutral.callOf at h
  unfold Rl05Neutral.callOf
  by_cases q : (c.all fun r => r.all Rl05Neutral.nat) = false
  · rw [if_pos q] at h
    cases h
  · rw [if_neg q]
    exact ⟨by simpa using q, rfl⟩
theorem ints_toNat : ∀ {l : List Int}, l.all Rl05Neutral.nat = true → Rl05.ints (l.map Int.toNat) = l
  | [], _ => rfl
  | z :: l, h => by
    rw [List.all_cons, Bool.and_eq_true] at h
    have ih := ints_toNat h.2
    show ((z.toNat : Nat) : Int) :: Rl05.ints (l.map Int.toNat) = z :: l
    rw [ih, nat_of h.1]
theorem shape_some {p : Int} {n k : Nat} (h : PyRl05.shape p = some (n, k)) :
    (p = 0 ∧ n = 1 ∧ k = 0) ∨ (p = 1 ∧ n = 4 ∧ k = 0) ∨ (p = 2 ∧ n = 3 ∧ k = 0) ∨ (p = 3 ∧ n = 0 ∧ k = 0) ∨ (p = 4 ∧ n = 1 ∧ k = 0) ∨ (p = 5 ∧ n = 0 ∧ k = 0) ∨
    (p = 6 ∧ n = 2 ∧ k = 0) ∨ (p = 7 ∧ n = 0 ∧ k = 1) ∨ (p = 8 ∧ n = 1 ∧ k = 0) ∨ (p = 9 ∧ n = 0 ∧ k = 0) ∨ (p = 10 ∧ n = 1 ∧ k = 0) ∨ (p = 11 ∧ n = 0 ∧ k = 0) := by
  unfold PyRl05.shape at h
  by_cases h0 : p = 0
  · rw [if_pos h0] at h; cases h; exact .inl ⟨h0, rfl, rfl⟩
  rw [if_neg h0] at h
  refine .inr ?_
  by_cases h1 : p = 1
  · rw [if_pos h1] at h; cases h; exact .inl ⟨h1, rfl, rfl⟩
  rw [if_neg h1] at h
  refine .inr ?_
  by_cases h2 : p = 2
  · rw [if_pos h2] at h; cases h; exact .inl ⟨h2, rfl, rfl⟩
  rw [if_neg h2] at h
  refine .inr ?_
  by_cases h3 : p = 3
  · rw [if_pos h3] at h; cases h; exact .inl ⟨h3, rfl, rfl⟩
  rw [if_neg h3] at h
  refine .inr ?_
  by_cases h4 : p = 4
  · rw [if_pos h4] at h; cases h; exact .inl ⟨h4, rfl, rfl⟩
  rw [if_neg h4] at h
  refine .inr ?_
  by_cases h5 : p = 5
  · rw [if_pos h5] at h; cases h; exact .inl ⟨h5, rfl, rfl⟩
  rw [if_neg h5] at h
  refine .inr ?_
  by_cases h6 : p = 6
  · rw [if_pos h6] at h; cases h; exact .inl ⟨h6, rfl, rfl⟩
  rw [if_neg h6] at h
  refine .inr ?_
  by_cases h7 : p = 7
  · rw [if_pos h7] at h; cases h; exact .inl ⟨h7, rfl, rfl⟩
  rw [if_neg h7] at h
  refine .inr ?_
  by_cases h8 : p = 8
  · rw [if_pos h8] at h; cases h; exact .inl ⟨h8, rfl, rfl⟩
  rw [if_neg h8] at h
  refine .inr ?_
  by_cases h9 : p = 9
  · rw [if_pos h9] at h; cases h; exact .inl ⟨h9, rfl, rfl⟩
  rw [if_neg h9] at h
  refine .inr ?_
  by_cases h10 : p = 10
  · rw [if_pos h10] at h; cases h; exact .inl ⟨h10, rfl, rfl⟩
  rw [if_neg h10] at h
  refine .inr ?_
  by_cases h11 : p = 11
  · rw [if_pos h11] at h; cases h; exact ⟨h11, rfl, rfl⟩
  rw [if_neg h11] at h
  cases h
theorem call_some {p : Int} {r : List Int} {c : List (List Int)} {t : List Int} (h : PyFlat.call PyRl05.shape (p :: r) = some (c, t)) :
    ∃ n k xs, PyRl05.shape p = some (n, k) ∧ n ≤ r.length ∧ PyFlat.rows k (r.drop n) = some (xs, t) ∧ c = (p :: r.take n) :: xs := by
  unfold PyFlat.call at h
  cases e : PyRl05.shape p with
  | none => simp [e] at h
  | some q =>
    obtain ⟨n, k⟩ := q
    dsimp only at h
    rw [e] at h
    dsimp only at h
    by_cases hl : r.length < n
    · rw [if_pos hl] at h
      cases h
    · rw [if_neg hl] at h
      cases e2 : PyFlat.rows k (r.drop n) with
      | none => rw [e2] at h; cases h
      | some q =>
        obtain ⟨xs, t'⟩ := q
        rw [e2] at h
        have h := Option.some.inj h
        cases h
        exact ⟨n, k, xs, rfl, by omega, e2, rfl⟩
theorem call_at {p : Int} {r : List Int} {c : List (List Int)} {t : List Int} (h : PyFlat.call PyRl05.shape (p :: r) = some (c, t)) (ha : Rl05Neutral.asked1 (PyRl05.whole c) = true) :
    ∃ x, At (p :: r) x t ∧ Rl05Neutral.callOf (PyRl05.whole c) = some x := by
  obtain ⟨n, k, xs, hs, hn, hr, rfl⟩ := call_some h
  obtain ⟨h1, h2⟩ := callOf_of ha
  rw [h2]
  clear h2 ha h
  have z0 : ∀ {r : List Int}, PyFlat.rows 0 r = some (xs, t) → xs = [] ∧ t = r := fun q => by
    have q := Option.some.inj q
    cases q
    exact ⟨rfl, rfl⟩
  rcases shape_some hs with ⟨rfl, rfl, rfl⟩ | ⟨rfl, rfl, rfl⟩ | ⟨rfl, rfl, rfl⟩ | ⟨rfl, rfl, rfl⟩ | ⟨rfl, rfl, rfl⟩ | ⟨rfl, rfl, rfl⟩ | ⟨rfl, rfl, rfl⟩ | ⟨rfl, rfl, rfl⟩ | ⟨rfl, rfl, rfl⟩ | ⟨rfl, rfl, rfl⟩ | ⟨rfl, rfl, rfl⟩ | ⟨rfl, rfl, rfl⟩
  case inr.inr.inr.inr.inr.inr.inr.inl =>
    have hr : PyFlat.rows 1 r = some (xs, t) := hr
    cases r with
    | nil => cases hr
    | cons m r =>
      unfold PyFlat.rows at hr
      by_cases q : 0 ≤ m ∧ m.toNat ≤ r.length
      · have e : PyFlat.row (m :: r) = some (r.take m.toNat, r.drop m.toNat) := by unfold PyFlat.row; exact if_pos q
        rw [e] at hr
        dsimp only [PyFlat.rows] at hr
        have hr := Option.some.inj hr
        cases hr
        have hb : (r.take m.toNat).all Rl05Neutral.nat = true := by
          have : (([7] :: [r.take m.toNat] : List (List Int)).all fun r => r.all Rl05Neutral.nat) = true := h1
          simp only [List.all_cons, List.all_nil, Bool.and_true, Bool.and_eq_true] at this
          exact this.2
        refine ⟨.cost ((r.take m.toNat).map Int.toNat), ?_, rfl⟩
        have := At.cost ((r.take m.toNat).map Int.toNat) (r.drop m.toNat)
        rw [ints_toNat hb, List.length_map, List.length_take, Nat.min_eq_left q.2, List.take_append_drop] at this
        have e : ((m.toNat : Nat) : Int) = m := by omega
        rw [e] at this
        exact this
      · have e : PyFlat.row (m :: r) = none := by unfold PyFlat.row; exact if_neg q
        rw [e] at hr
        cases hr
  all_goals
    obtain ⟨rfl, rfl⟩ := z0 hr
  case inl =>
    match r, hn with
    | a :: r, _ =>
      have h1 : (([[0, a]] : List (List Int)).all fun r => r.all Rl05Neutral.nat) = true := h1
      simp only [List.all_cons, List.all_nil, Bool.and_true, Bool.and_eq_true] at h1
      exact ⟨.records a.toNat, by have := At.records a.toNat r; rw [nat_of h1.2] at this; exact this, rfl⟩
  case inr.inl =>
    match r, hn with
    | a :: b :: c :: d :: r, _ =>
      have h1 : (([[1, a, b, c, d]] : List (List Int)).all fun r => r.all Rl05Neutral.nat) = true := h1
      simp only [List.all_cons, List.all_nil, Bool.and_true, Bool.and_eq_true] at h1
      exact ⟨.vote a.toNat b.toNat c.toNat d.toNat, by have := At.vote a.toNat b.toNat c.toNat d.toNat r; rw [nat_of h1.2.1, nat_of h1.2.2.1, nat_of h1.2.2.2.1, nat_of h1.2.2.2.2] at this; exact this, rfl⟩
  case inr.inr.inl =>
    match r, hn with
    | a :: b :: c :: r, _ =>
      have h1 : (([[2, a, b, c]] : List (List Int)).all fun r => r.all Rl05Neutral.nat) = true := h1
      simp only [List.all_cons, List.all_nil, Bool.and_true, Bool.and_eq_true] at h1
      exact ⟨.rule a.toNat b.toNat c.toNat, by have := At.rule a.toNat b.toNat c.toNat r; rw [nat_of h1.2.1, nat_of h1.2.2.1, nat_of h1.2.2.2] at this; exact this, rfl⟩
  case inr.inr.inr.inl => exact ⟨.least, At.least _, rfl⟩
  case inr.inr.inr.inr.inl =>
    match r, hn with
    | a :: r, _ =>
      have h1 : (([[4, a]] : List (List Int)).all fun r => r.all Rl05Neutral.nat) = true := h1
      simp only [List.all_cons, List.all_nil, Bool.and_true, Bool.and_eq_true] at h1
      exact ⟨.nth a.toNat, by have := At.nth a.toNat r; rw [nat_of h1.2] at this; exact this, rfl⟩
  case inr.inr.inr.inr.inr.inl => exact ⟨.sure, At.sure _, rfl⟩
  case inr.inr.inr.inr.inr.inr.inl =>
    match r, hn with
    | a :: b :: r, _ =>
      have h1 : (([[6, a, b]] : List (List Int)).all fun r => r.all Rl05Neutral.nat) = true := h1
      simp only [List.all_cons, List.all_nil, Bool.and_true, Bool.and_eq_true] at h1
      exact ⟨.margin a.toNat b.toNat, by have := At.margin a.toNat b.toNat r; rw [nat_of h1.2.1, nat_of h1.2.2] at this; exact this, rfl⟩
  case inr.inr.inr.inr.inr.inr.inr.inr.inl =>
    match r, hn with
    | a :: r, _ =>
      have h1 : (([[8, a]] : List (List Int)).all fun r => r.all Rl05Neutral.nat) = true := h1
      simp only [List.all_cons, List.all_nil, Bool.and_true, Bool.and_eq_true] at h1
      exact ⟨.chain a.toNat, by have := At.chain a.toNat r; rw [nat_of h1.2] at this; exact this, rfl⟩
  case inr.inr.inr.inr.inr.inr.inr.inr.inr.inl => exact ⟨.greedy, At.greedy _, rfl⟩
  case inr.inr.inr.inr.inr.inr.inr.inr.inr.inr.inl =>
    match r, hn with
    | a :: r, _ =>
      have h1 : (([[10, a]] : List (List Int)).all fun r => r.all Rl05Neutral.nat) = true := h1
      simp only [List.all_cons, List.all_nil, Bool.and_true, Bool.and_eq_true] at h1
      exact ⟨.without a.toNat, by have := At.without a.toNat r; rw [nat_of h1.2] at this; exact this, rfl⟩
  case inr.inr.inr.inr.inr.inr.inr.inr.inr.inr.inr => exact ⟨.counts, At.counts _, rfl⟩
/-- what is told of calls that are played from a state -/
def plays : St → List Call → List Int
  | _, [] => []
  | s, x :: xs => ((step s x).2.length : Int) :: (step s x).2 ++ plays (step s x).1 xs
theorem calls_parsed : ∀ (f : Nat) (l : List Int) (cs : List (List (List Int))), PyFlat.calls PyRl05.shape f l = some cs → (cs.map PyRl05.whole).all Rl05Neutral.asked1 = true →
    ∃ xs, Parsed l xs ∧ xs.length = cs.length ∧ ∀ s, PyFlat.told (PyFlat.played Rl05Neutral.step s (cs.map PyRl05.whole)) = plays s xs
  | f, [], cs, h, _ => by
    have h : some [] = some cs := by
      cases f <;> exact h
    cases h
    exact ⟨[], .nil, rfl, fun s => rfl⟩
  | 0, p :: r, cs, h, _ => by cases h
  | f + 1, p :: r, cs, h, ha => by
    unfold PyFlat.calls at h
    cases e : PyFlat.call PyRl05.shape (p :: r) with
    | none => rw [e] at h; cases h
    | some q =>
      obtain ⟨c, t⟩ := q
      rw [e] at h
      dsimp only at h
      cases e2 : PyFlat.calls PyRl05.shape f t with
      | none => rw [e2] at h; cases h
      | some cs' =>
        rw [e2] at h
        have h := Option.some.inj h
        subst h
        rw [List.map_cons, List.all_cons, Bool.and_eq_true] at ha
        obtain ⟨x, hx, ho⟩ := call_at e ha.1
        obtain ⟨xs, hp, hl, hs⟩ := calls_parsed f t cs' e2 ha.2
        refine ⟨x :: xs, .cons hx hp, by rw [List.length_cons, List.length_cons, hl], fun s => ?_⟩
        have es : Rl05Neutral.step s (PyRl05.whole c) = step s x := by
          unfold Rl05Neutral.step
          rw [ho]
        rw [List.map_cons]
        show ((Rl05Neutral.step s (PyRl05.whole c)).2.length : Int) :: (Rl05Neutral.step s (PyRl05.whole c)).2 ++ PyFlat.told (PyFlat.played Rl05Neutral.step (Rl05Neutral.step s (PyRl05.whole c)).1 (cs'.map PyRl05.whole)) = _
        rw [es, hs]
        rfl
/-- what is handed in is calls, one behind another, and the answers are theirs -/
theorem asked_parsed {l : List Int} (h : PyRl05.answers_asked l = true) : ∃ xs, Parsed l xs ∧ xs.length ≤ 60 ∧ PyRl05.answers l = plays init xs ∧ (PyRl05.answers l).length ≤ 10000000 := by
  unfold PyRl05.answers_asked at h
  cases e : PyFlat.calls PyRl05.shape l.length l with
  | none => rw [e] at h; cases h
  | some raw =>
    rw [e] at h
    simp only [Bool.and_eq_true] at h
    obtain ⟨⟨⟨⟨_, h60⟩, _⟩, ha⟩, hz⟩ := h
    unfold Rl05Neutral.asked at ha
    rw [Bool.and_eq_true] at ha
    obtain ⟨xs, hp, hl, hs⟩ := calls_parsed _ l raw e ha.1
    refine ⟨xs, hp, ?_, ?_, ?_⟩
    · rw [hl]
      exact of_decide_eq_true h60
    · unfold PyRl05.answers PyRl05.calls
      rw [e]
      exact hs init
    · exact of_decide_eq_true hz
end Lp

namespace Lp
open Rl05
/-! Step by step: it comes to an end in time. -/
theorem nodup_bound : ∀ (m : Nat) (l : List Nat), l.Nodup → (∀ x ∈ l, x < m) → l.length ≤ m
  | 0, l, _, h => by
    cases l with
    | nil => exact Nat.le_refl _
    | cons a l => exact absurd (h a List.mem_cons_self) (Nat.not_lt_zero a)
  | m + 1, l, hn, h => by
    have h1 : (l.erase m).length ≤ m := nodup_bound m _ (hn.erase m) fun x hx => by
      have q := (hn.mem_erase_iff.mp hx)
      have := h x q.2
      have := q.1
      omega
    have := List.length_erase (a := m) (l := l)
    split at this <;> omega
theorem frs_nodup : ∀ (l acc : List Nat), acc.Nodup → (frs acc l).Nodup
  | [], acc, h => h
  | x :: l, acc, h => by
    rw [frs_cons]
    split
    · exact frs_nodup l acc h
    · rename_i hx
      refine frs_nodup l _ (List.nodup_append.mpr ⟨h, by simp, fun a ha b hb => ?_⟩)
      rw [List.mem_singleton] at hb
      subst hb
      intro q
      subst q
      exact hx (by simpa using ha)
theorem mx_plain (l : List Nat) : mx 0 (plain l) = (frs [] l).length := by
  have e := frs_grow (plain l) 0 (grow_plain l)
  rw [List.range_zero] at e
  have e2 : frs [] (plain l) = (frs [] l).map fun x => ((frs [] l).findIdx? fun y => y == x).getD 0 := by
    rw [plain_eq]
    exact frs_map (fun x => ((frs [] l).findIdx? fun y => y == x).getD 0) l [] fun x hx y hy q =>
      idx_inj ((mem_frs l [] x).mpr (.inr hx)) ((mem_frs l [] y).mpr (.inr hy)) q
  have := congrArg List.length (e.symm.trans e2)
  rw [List.length_range, List.length_map] at this
  exact this
theorem frs_len : ∀ (l acc : List Nat), (frs acc l).length ≤ acc.length + l.length
  | [], acc => by simp [frs_nil]
  | x :: l, acc => by
    rw [frs_cons]
    split
    · have := frs_len l acc
      simp
      omega
    · have := frs_len l (acc ++ [x])
      simp at this ⊢
      omega
theorem mx_len {g : List Nat} (h : plain g = g) : mx 0 g ≤ g.length := by
  rw [← h, mx_plain, plain_length]
  have := frs_len g []
  simpa using this
theorem join_mx {g : List Nat} {a b : Nat} (h : plain g = g) (hab : a < b) (hb : b < mx 0 g) : mx 0 (join g a b) < mx 0 g := by
  unfold join
  rw [mx_plain]
  have hn := frs_nodup (g.map fun x => if x = b then a else x) [] List.nodup_nil
  have hm : ∀ x ∈ frs [] (g.map fun x => if x = b then a else x), x < mx 0 g ∧ x ≠ b := by
    intro x hx
    rcases (mem_frs _ _ _).mp hx with q | q
    · cases q
    · obtain ⟨y, hy, rfl⟩ := List.mem_map.mp q
      have := lt_mx g 0 y hy
      split <;> omega
  have := nodup_bound (mx 0 g) (b :: frs [] (g.map fun x => if x = b then a else x)) (List.nodup_cons.mpr ⟨fun q => (hm b q).2 rfl, hn⟩) fun x hx => by
    rcases List.mem_cons.mp hx with rfl | hx
    · exact hb
    · exact (hm x hx).1
  rw [List.length_cons] at this
  omega
theorem groupsOf_eq (g : List Nat) : groupsOf g = List.range (mx 0 g) := rfl
theorem mem_pairsOf {l : List Nat} {p : Nat × Nat} : p ∈ pairsOf l ↔ p.1 ∈ l ∧ p.2 ∈ l ∧ p.1 < p.2 := by
  unfold pairsOf
  rw [List.mem_flatMap]
  constructor
  · rintro ⟨i, hi, h⟩
    obtain ⟨j, hj, rfl⟩ := List.mem_map.mp h
    rw [List.mem_filter] at hj
    exact ⟨hi, hj.1, by simpa using hj.2⟩
  · rintro ⟨h1, h2, h3⟩
    exact ⟨p.1, h1, List.mem_map.mpr ⟨p.2, List.mem_filter.mpr ⟨h2, by simpa using h3⟩, rfl⟩⟩
/-- the choice of the two that gain most, over some pairs -/
def pick (s : St) (g : Groups) (b : Option ((Nat × Nat) × Int)) (p : Nat × Nat) : Option ((Nat × Nat) × Int) :=
  if mayJoin s g p.1 p.2 = false ∨ gain s g p.1 p.2 ≤ 0 then b else match b with
    | none => some (p, gain s g p.1 p.2)
    | some x => if x.2 < gain s g p.1 p.2 then some (p, gain s g p.1 p.2) else b
theorem next_eq (s : St) (g : Groups) : next s g = ((pairsOf (groupsOf g)).foldl (pick s g) none).map fun x => x.1 := rfl
theorem pick_mem {s : St} {g : Groups} : ∀ (l : List (Nat × Nat)) (b : Option ((Nat × Nat) × Int)) (x : (Nat × Nat) × Int), l.foldl (pick s g) b = some x → x.1 ∈ l ∨ b = some x
  | [], b, x, h => .inr h
  | p :: l, b, x, h => by
    rw [List.foldl_cons] at h
    rcases pick_mem l _ x h with q | q
    · exact .inl (List.mem_cons_of_mem _ q)
    · unfold pick at q
      split at q
      · exact .inr q
      · split at q
        · cases q
          exact .inl List.mem_cons_self
        · split at q
          · cases q
            exact .inl List.mem_cons_self
          · exact .inr q
theorem next_mem {s : St} {g : Groups} {p : Nat × Nat} (h : next s g = some p) : p.1 < p.2 ∧ p.2 < mx 0 g := by
  rw [next_eq, Option.map_eq_some_iff] at h
  obtain ⟨x, hx, rfl⟩ := h
  rcases pick_mem _ _ _ hx with q | q
  · rw [mem_pairsOf, groupsOf_eq, List.mem_range, List.mem_range] at q
    exact ⟨q.2.2, q.2.1⟩
  · cases q
/-- the steps, to their end -/
inductive Steps (s : St) : Groups → Groups → Nat → Prop where
  | done {g : Groups} (h : next s g = none) : Steps s g g 0
  | step {g g' : Groups} {m : Nat} {p : Nat × Nat} (h : next s g = some p) (r : Steps s (join g p.1 p.2) g' m) : Steps s g g' (m + 1)
theorem greedy_steps (s : St) : ∀ (f : Nat) (g : Groups), plain g = g → mx 0 g ≤ f → Steps s g (greedy s f g).1 (greedy s f g).2
  | 0, g, _, hf => by
    refine .done ?_
    have : mx 0 g = 0 := by omega
    rw [next_eq, groupsOf_eq, this]
    rfl
  | f + 1, g, hg, hf => by
    unfold greedy
    cases e : next s g with
    | none => exact .done e
    | some p =>
      obtain ⟨h1, h2⟩ := next_mem e
      have := join_mx hg h1 h2
      exact .step e (greedy_steps s f (join g p.1 p.2) (join_plain _ _ _) (by omega))
theorem Steps.unique {s : St} {g g1 g2 : Groups} {m1 m2 : Nat} (a : Steps s g g1 m1) : Steps s g g2 m2 → g1 = g2 ∧ m1 = m2 := by
  induction a generalizing m2 with
  | done h =>
    intro b
    cases b with
    | done _ => exact ⟨rfl, rfl⟩
    | step h' _ => rw [h] at h'; cases h'
  | step h r ih =>
    intro b
    cases b with
    | done h' => rw [h] at h'; cases h'
    | step h' r' =>
      rw [h] at h'
      cases h'
      obtain ⟨e1, e2⟩ := ih r'
      exact ⟨e1, by rw [e2]⟩
/-- step by step, as the document tells it -/
theorem greedy_all (s : St) : Steps s (musts s) (greedy s s.n (musts s)).1 (greedy s s.n (musts s)).2 :=
  greedy_steps s s.n (musts s) (joinAll_plain _ _) (by
    have := mx_len (joinAll_plain s.n ((pairs s).filter fun p => (voteOf s p.1 p.2).rule == 1))
    rw [joinAll_length] at this
    exact this)
theorem Steps.len {s : St} {g g' : Groups} {m : Nat} (a : Steps s g g' m) : g'.length = g.length := by
  induction a with
  | done _ => rfl
  | step _ _ ih => rw [ih, join_length]
end Lp

namespace Lp
open Rl05
/-! A record, its votes and its rules not there. -/
def wo (s : St) (i : Nat) : St := ⟨s.n, s.votes.filter fun v => !(v.i == i || v.j == i)⟩
theorem voteOf_wo_no (s : St) {i a b : Nat} (h : a = i ∨ b = i) : (voteOf (wo s i) a b).pro = 0 ∧ (voteOf (wo s i) a b).con = 0 ∧ (voteOf (wo s i) a b).rule = 0 := by
  have e : ((s.votes.filter fun v => !(v.i == i || v.j == i)).find? fun v => v.i == min a b && v.j == max a b) = none := by
    rw [List.find?_eq_none]
    intro x hx q
    have h1 := (List.mem_filter.mp hx).2
    simp only [Bool.and_eq_true, beq_iff_eq] at q
    simp only [Bool.not_eq_true', Bool.or_eq_false_iff, beq_eq_false_iff_ne] at h1
    omega
  unfold voteOf wo
  rw [e]
  exact ⟨rfl, rfl, rfl⟩
theorem voteOf_wo_yes (s : St) {i a b : Nat} (h1 : a ≠ i) (h2 : b ≠ i) : voteOf (wo s i) a b = voteOf s a b := by
  unfold voteOf wo
  show ((s.votes.filter fun v => !(v.i == i || v.j == i)).find? fun v => v.i == min a b && v.j == max a b).getD _ = _
  rw [List.find?_filter]
  congr 2
  funext v
  by_cases q : v.i = min a b ∧ v.j = max a b
  · have e1 : (v.i == i) = false := beq_eq_false_iff_ne.mpr (by omega)
    have e2 : (v.j == i) = false := beq_eq_false_iff_ne.mpr (by omega)
    rw [e1, e2]
    simp [q.1, q.2]
  · have : (v.i == min a b && v.j == max a b) = false := by
      rw [Bool.eq_false_iff]
      simpa using q
    rw [this]
    simp
def pairsIn (l m : List Nat) : List (Nat × Nat) := l.flatMap fun i => (m.filter fun j => decide (i < j)).map fun j => (i, j)
theorem pairsIn_filter (f : Nat → Bool) (m : List Nat) : ∀ l : List Nat, pairsIn (l.filter f) (m.filter f) = (pairsIn l m).filter fun p => f p.1 && f p.2
  | [] => rfl
  | a :: l => by
    have ih := pairsIn_filter f m l
    unfold pairsIn at ih ⊢
    rw [List.flatMap_cons, List.filter_append, ← ih]
    cases h : f a with
    | true =>
      rw [List.filter_cons, if_pos h, List.flatMap_cons]
      congr 1
      rw [List.filter_map, List.filter_filter, List.filter_filter]
      congr 1
      refine List.filter_congr fun j _ => ?_
      show (decide (a < j) && f j) = ((f a && f j) && decide (a < j))
      rw [h, Bool.true_and, Bool.and_comm]
    | false =>
      rw [List.filter_cons, if_neg (by rw [h]; exact Bool.false_ne_true)]
      have : ((m.filter fun j => decide (a < j)).map fun j => (a, j)).filter (fun p => f p.1 && f p.2) = [] := by
        rw [List.filter_eq_nil_iff]
        intro p hp
        obtain ⟨j, _, rfl⟩ := List.mem_map.mp hp
        show ¬ (f a && f j) = true
        rw [h]
        exact Bool.false_ne_true
      rw [this, List.nil_append]
theorem pairsOf_filter (f : Nat → Bool) (l : List Nat) : pairsOf (l.filter f) = (pairsOf l).filter fun p => f p.1 && f p.2 := pairsIn_filter f l l
theorem sum_filter (p : Nat × Nat → Bool) (f : Nat × Nat → Nat) : ∀ l : List (Nat × Nat), ((l.filter p).map f).sum = (l.map fun x => if p x = true then f x else 0).sum
  | [] => rfl
  | a :: l => by
    have ih := sum_filter p f l
    rw [List.filter_cons, List.map_cons, List.sum_cons]
    by_cases h : p a = true
    · rw [if_pos h, if_pos h, List.map_cons, List.sum_cons, ih]
    · rw [if_neg h, if_neg h, ih, Nat.zero_add]
theorem all_congr' {α : Type} {f g : α → Bool} : ∀ {l : List α}, (∀ x ∈ l, f x = g x) → l.all f = l.all g
  | [], _ => rfl
  | a :: l, h => by rw [List.all_cons, List.all_cons, h a List.mem_cons_self, all_congr' fun x hx => h x (List.mem_cons_of_mem _ hx)]
theorem keeps_wo (s : St) (i : Nat) (g : Groups) : keeps (wo s i) g = (pairsOf ((records s).filter fun k => k != i)).all fun p => if together g p.1 p.2 = true then (voteOf s p.1 p.2).rule != 2 else (voteOf s p.1 p.2).rule != 1 := by
  rw [pairsOf_filter, List.all_filter]
  show (pairs s).all _ = (pairs s).all _
  refine all_congr' fun p _ => ?_
  by_cases h : p.1 = i ∨ p.2 = i
  · have e : (p.1 != i && p.2 != i) = false := by
      rw [Bool.eq_false_iff]
      simp
      omega
    rw [e, (voteOf_wo_no s h).2.2]
    simp
  · have h1 : p.1 ≠ i := fun q => h (.inl q)
    have h2 : p.2 ≠ i := fun q => h (.inr q)
    have e : (p.1 != i && p.2 != i) = true := by simp [h1, h2]
    rw [e, voteOf_wo_yes s h1 h2]
    simp
theorem cost_wo (s : St) (i : Nat) (g : Groups) : cost (wo s i) g = total ((pairsOf ((records s).filter fun k => k != i)).map fun p => if together g p.1 p.2 = true then (voteOf s p.1 p.2).con else (voteOf s p.1 p.2).pro) := by
  rw [pairsOf_filter, total_eq, sum_filter]
  unfold cost
  rw [total_eq]
  show ((pairs s).map _).sum = ((pairs s).map _).sum
  congr 1
  refine List.map_congr_left fun p _ => ?_
  by_cases h : p.1 = i ∨ p.2 = i
  · have e : (p.1 != i && p.2 != i) = false := by
      rw [Bool.eq_false_iff]
      simp
      omega
    rw [e, (voteOf_wo_no s h).1, (voteOf_wo_no s h).2.1]
    simp
  · have h1 : p.1 ≠ i := fun q => h (.inl q)
    have h2 : p.2 ≠ i := fun q => h (.inr q)
    have e : (p.1 != i && p.2 != i) = true := by simp [h1, h2]
    rw [e, voteOf_wo_yes s h1 h2]
    simp
/-- what the cheapest of all others cost -/
theorem without_eq (s : St) (i : Nat) : without s i = (cheapest (wo s i)).map fun x => x.1 := by
  rw [cheapest_eq, Option.map_map]
  show _ = Option.map id _
  rw [Option.map_id]
  unfold without
  have e1 : (fun g => keeps (wo s i) g) = fun g => (pairsOf ((records s).filter fun k => k != i)).all fun p => if together g p.1 p.2 = true then (voteOf s p.1 p.2).rule != 2 else (voteOf s p.1 p.2).rule != 1 := funext fun g => keeps_wo s i g
  have e2 : (fun g => cost (wo s i) g) = fun g => total ((pairsOf ((records s).filter fun k => k != i)).map fun p => if together g p.1 p.2 = true then (voteOf s p.1 p.2).con else (voteOf s p.1 p.2).pro) := funext fun g => cost_wo s i g
  show least? _ = least? (((all s.n).filter fun g => keeps (wo s i) g).map fun g => cost (wo s i) g)
  rw [e1, e2]
end Lp

namespace Lp
open PySem PySem.Spec PyProof.Rows L2 Evl
open PySem.W (Codec)
/-! ### The text by places -/
def top (i : Nat) : Stmt := PySem.Challenge.pw_leastparted_s01_answers.main.body.getD i (.Pass ⟨0, 0, 0, 0⟩)
abbrev sAllPairs : Stmt := top 24
abbrev sAllGroups : Stmt := top 25
abbrev sTog : Stmt := top 29
/-- whole numbers, as values -/
def iv (l : List Nat) : List V := l.map fun (n : Nat) => V.int (n : Int)
theorem iv_len (l : List Nat) : (iv l).length = l.length := List.length_map _
theorem iv_get {l : List Nat} {i : Nat} (h : i < l.length) : (iv l)[i]? = some (V.int (l.getD i 0 : Nat)) := by
  unfold iv
  rw [List.getElem?_map, List.getElem?_eq_getElem h, List.getD_eq_getElem?_getD, List.getElem?_eq_getElem h]
  rfl
theorem scTog : FnScope ["groups", "pair"] ["groups", "pair"] (defScope sTog) := ⟨rfl, rfl, rfl, by decide +kernel, rfl, by decide +kernel, by decide +kernel⟩
/-- is_together -/
def spTog (K : PySem.W.Frag) : Sp := fun vs H Q _ => ∃ (a b : Addr) (g : List Nat) (i j : Nat), vs = [.ref a, .ref b] ∧ SqL K H a (iv g) ∧ SqT K H b [.int (i : Int), .int (j : Int)] ∧
  InR g.length i ∧ InR g.length j ∧ Q (.bl (Rl05.together g i j)) H
section
variable {P : Program} {w : World} {K : PySem.W.Frag} {mg : Str → Option Value} {base : Heap}
theorem ok_tog {f : Addr} {fd : FuncData} (F : Fun K "is_together" "is_together" sTog f fd) : FnOk P w K mg base CX0 1 f fd ["groups", "pair"] (spTog K) := by
  refine F.ok scTog (fun vs H Q E h => ?_) (fun cdv A outer s H vs Q E hr h => ?_)
  · obtain ⟨a, b, g, i, j, rfl, _⟩ := h
    rfl
  · obtain ⟨a, b, g, i, j, rfl, hg, hp, hi, hj, k⟩ := h
    refine ⟨_, pss_one (ps_ret (pe_cmpR op_eq
      (pe_ix ix_list (pv 0) (pe_op op_sub (pe_ix ix_tup (pv 1) pe_int (fun _ _ => rfl)) pe_int) (fun _ _ => rfl))
      (pe_ix ix_list (pv 0) (pe_op op_sub (pe_ix ix_tup (pv 1) pe_int (fun _ _ => rfl)) pe_int) (fun _ _ => rfl)) (nomark _))), ?_⟩
    unfold InR at hi hj
    refine ⟨_, rfl, _, rfl, b, _, _, _, rfl, rfl, hp, rfl, _, _, rfl, rfl, a, _, _, _, rfl, rfl, hg, at_of (j := i - 1) (by omega) (iv_get (by omega)), ?_⟩
    refine ⟨_, rfl, _, rfl, b, _, _, _, rfl, rfl, hp, rfl, _, _, rfl, rfl, a, _, _, _, rfl, rfl, hg, at_of (j := j - 1) (by omega) (iv_get (by omega)), ?_⟩
    refine ⟨rfl, ?_⟩
    have e : decide (V.int ((g.getD (i - 1) 0 : Nat) : Int) = V.int ((g.getD (j - 1) 0 : Nat) : Int)) = Rl05.together g i j := by
      unfold Rl05.together
      by_cases h : g.getD (i - 1) 0 = g.getD (j - 1) 0
      · rw [h]; simp
      · have : ¬ (V.int ((g.getD (i - 1) 0 : Nat) : Int) = V.int ((g.getD (j - 1) 0 : Nat) : Int)) := fun q => h (by injection q with q; omega)
        rw [decide_eq_false this, beq_eq_false_iff_ne.mpr h]
    rw [e]
    exact k
end
end Lp

namespace Lp
open PySem PySem.Spec PyProof.Rows L2 Evl
/-! ### A list of objects, each of which holds a thing -/
structure RowsBy {α : Type} (H : Hp) (p : Addr) (f : α → HO) (ts : List (Addr × α)) : Prop where
  lst : H p = some (.lst (ts.map fun t => V.ref t.1))
  at_ : ∀ t ∈ ts, H t.1 = some (f t.2) ∧ t.1 ≠ p
def Rows {α : Type} (H : Hp) (p : Addr) (f : α → HO) (xs : List α) : Prop := ∃ ts : List (Addr × α), RowsBy H p f ts ∧ ts.map (·.2) = xs
section
variable {α : Type} {H H' : Hp} {p t : Addr} {f : α → HO} {xs : List α} {ts : List (Addr × α)} {x : α}
theorem RowsBy.mono (e : Ex H H') (h : RowsBy H p f ts) : RowsBy H' p f ts := ⟨e _ _ h.lst, fun t ht => ⟨e _ _ (h.at_ t ht).1, (h.at_ t ht).2⟩⟩
theorem Rows.mono (e : Ex H H') (h : Rows H p f xs) : Rows H' p f xs := by
  obtain ⟨ts, a, b⟩ := h
  exact ⟨ts, a.mono e, b⟩
theorem rows_nil (h : H p = some (.lst [])) : Rows H p f [] := ⟨[], ⟨h, by simp⟩, rfl⟩
theorem Rows.len (h : Rows H p f xs) : ∃ vs, H p = some (.lst vs) ∧ vs.length = xs.length := by
  obtain ⟨ts, a, rfl⟩ := h
  exact ⟨_, a.lst, by rw [List.length_map, List.length_map]⟩
/-- one more at the end -/
theorem RowsBy.push (h : RowsBy H p f ts) (e : Ex H H') (ht : H' t = some (f x)) (hn : H t = none) :
    RowsBy (upd H' p (.lst (ts.map (fun t => V.ref t.1) ++ [V.ref t]))) p f (ts ++ [(t, x)]) := by
  have tp : t ≠ p := fun q => by rw [q, h.lst] at hn; cases hn
  refine ⟨by rw [upd_same, List.map_append]; rfl, fun u hu => ?_⟩
  rcases List.mem_append.mp hu with hu | hu
  · obtain ⟨h1, h2⟩ := h.at_ u hu
    exact ⟨by rw [upd_ne h2]; exact e _ _ h1, h2⟩
  · rw [List.mem_singleton] at hu
    subst hu
    exact ⟨by rw [upd_ne tp]; exact ht, tp⟩
end
theorem take_snoc' {α : Type} : ∀ {l : List α} {i : Nat} {x : α}, l[i]? = some x → l.take (i + 1) = l.take i ++ [x]
  | [], i, x, h => by simp at h
  | a :: l, 0, x, h => by
    have e : a = x := Option.some.inj h
    subst e
    rfl
  | a :: l, i + 1, x, h => by
    have ih := take_snoc' (l := l) (i := i) (x := x) h
    show a :: l.take (i + 1) = a :: l.take i ++ [x]
    rw [ih]
    rfl
theorem range'_snoc (a n : Nat) : List.range' a (n + 1) = List.range' a n ++ [a + n] := by
  rw [List.range'_concat]
  simp
/-- a pair as a tuple -/
def pO (q : Nat × Nat) : HO := .tup [.int (q.1 : Int), .int (q.2 : Int)]
def gO (g : List Nat) : HO := .lst (iv g)
def pairsN (n : Nat) : List (Nat × Nat) := (List.range' 1 n).flatMap fun i => (List.range' (i + 1) (n - i)).map fun j => (i, j)
theorem pairsN_eq (s : Rl05.St) : Rl05.pairs s = pairsN s.n := pairs_eq s
theorem scAllPairs : FnScope ["size", "pairs", "low", "high"] ["size"] (defScope sAllPairs) := ⟨rfl, rfl, rfl, by decide +kernel, rfl, by decide +kernel, by decide +kernel⟩
def spAllPairs : Sp := fun vs H Q _ => ∃ (n : Nat), vs = [.int (n : Int)] ∧ n ≤ 7 ∧ ∀ (H' : Hp) (p : Addr), Ex H H' → H p = none → Rows H' p pO (pairsN n) → Q (.ref p) H'
section
variable {P : Program} {w : World} {K : PySem.W.Frag} {mg : Str → Option Value} {base : Heap}
theorem pairsN_len {n : Nat} (h : n ≤ 7) : (pairsN n).length ≤ 21 := by
  match n, h with
  | 0, _ => decide
  | 1, _ => decide
  | 2, _ => decide
  | 3, _ => decide
  | 4, _ => decide
  | 5, _ => decide
  | 6, _ => decide
  | 7, _ => decide
theorem ok_allPairs {f : Addr} {fd : FuncData} (F : Fun K "all_pairs" "all_pairs" sAllPairs f fd) (mr : mg "range" = none) : FnOk P w K mg base CX0 1 f fd ["size"] spAllPairs := by
  refine F.ok scAllPairs (fun vs H Q E h => ?_) (fun cdv A outer s H vs Q E hr h => ?_)
  · obtain ⟨n, rfl, _⟩ := h
    rfl
  · obtain ⟨n, rfl, hn, k⟩ := h
    refine ⟨_, pss_cons (ps_set (i := 1) scAllPairs.nd rfl (.inl rfl) (pe_lst pa_nil))
      (pss_cons (ps_for PassesOwn.never rfl (pi_range2 (by rfl) mr (pa_cons pe_int (pa_cons (pe_op op_add (pv 0) pe_int) pa_nil))) (pg_name (i := 2) scAllPairs.nd rfl (.inl rfl))
        (pss_one (ps_for PassesOwn.never rfl (pi_range2 (by rfl) mr (pa_cons (pe_op op_add (pv 2) pe_int) (pa_cons (pe_op op_add (pv 0) pe_int) pa_nil))) (pg_name (i := 3) scAllPairs.nd rfl (.inl rfl))
          (pss_one (ps_expr (pe_bm PySem.F.plainAttrs_list PySem.F.slot_list_append PySem.F.type_list_append mt_append (pv 1) (pa_cons (pe_tup (pa_cons (pv 2) (pa_cons (pv 3) pa_nil))) pa_nil)))))))
      (pss_one (ps_ret (pv 1)))), ?_⟩
    refine ⟨Nat.zero_le _, fun p hp => ?_⟩
    have e0 : Ex H (upd H p (.lst [])) := Ex.new hp
    refine ⟨_, rfl, _, _, rfl, rfl, 1, (n : Int) + 1, rfl, ⟨by omega, by omega, by omega, by omega⟩, ?_⟩
    refine for_range (lo := 1) (n := ((n : Int) + 1 - 1).toNat) (fun i σ H' => ∃ v2 v3 : Option V, σ = [some (.int (n : Int)), some (.ref p), v2, v3] ∧ Ex H H' ∧ i ≤ n ∧
      Rows H' p pO ((List.range' 1 i).flatMap fun a => (List.range' (a + 1) (n - a)).map fun j => (a, j))) ⟨none, none, rfl, e0, Nat.zero_le _, rows_nil upd_same⟩ ?_ ?_
    · rintro i σ H1 hi ⟨v2, v3, rfl, e1, hi', R⟩
      refine ⟨_, rfl, _, _, rfl, rfl, _, rfl, _, _, rfl, rfl, 1 + (i : Int) + 1, (n : Int) + 1, rfl, ⟨by omega, by omega, by omega, by omega⟩, ?_⟩
      refine for_range (lo := 1 + (i : Int) + 1) (n := ((n : Int) + 1 - (1 + (i : Int) + 1)).toNat) (fun j σ H' => ∃ v3 : Option V, σ = [some (.int (n : Int)), some (.ref p), some (.int (1 + (i : Int))), v3] ∧ Ex H H' ∧
        Rows H' p pO (((List.range' 1 i).flatMap fun a => (List.range' (a + 1) (n - a)).map fun j => (a, j)) ++ (List.range' (1 + i + 1) j).map fun j => (1 + i, j))) ⟨v3, rfl, e1, by rw [List.range'_zero, List.map_nil, List.append_nil]; exact R⟩ ?_ ?_
      · rintro j σ H2 hj ⟨v3, rfl, e2, ts, R2, er⟩
        refine ⟨_, rfl, .inl ⟨rfl, _, SqL.of R2.lst⟩, ?_⟩
        refine ⟨_, rfl, _, rfl, (by show 2 ≤ sizeLine; decide), fun t ht => ?_⟩
        have e3 : Ex H2 (upd H2 t (.tup [.int (1 + (i : Int)), .int (1 + (i : Int) + 1 + (j : Int))])) := Ex.new ht
        have hl : ts.length < 100 := by
          have := congrArg List.length er
          rw [List.length_map] at this
          rw [this, List.length_append, List.length_map, List.length_range']
          have hsub : ((List.range' 1 i).flatMap fun a => (List.range' (a + 1) (n - a)).map fun j => (a, j)).length ≤ (pairsN n).length := by
            unfold pairsN
            have : List.range' 1 n = List.range' 1 i ++ List.range' (1 + i) (n - i) := by
              rw [List.range'_append_1]
              congr 1
              omega
            rw [this, List.flatMap_append, List.length_append]
            omega
          have := pairsN_len hn
          omega
        refine ⟨p, _, _, rfl, rfl, e3 _ _ R2.lst, by rw [List.length_map]; exact Nat.lt_trans hl (by decide), ?_⟩
        refine ⟨_, rfl, fun b o hb => ?_, ts ++ [(t, (1 + i, 1 + i + 1 + j))], R2.push e3 (x := (1 + i, 1 + i + 1 + j)) ?_ ht, ?_⟩
        · rw [upd_ne (ne_of_none hb hp)]
          exact e3 _ _ (e2 _ _ hb)
        · rw [upd_same]
          show some (HO.tup [V.int (1 + (i : Int)), V.int (1 + (i : Int) + 1 + (j : Int))]) = some (HO.tup [V.int ((1 + i : Nat) : Int), V.int ((1 + i + 1 + j : Nat) : Int)])
          have a1 : (1 + (i : Int)) = ((1 + i : Nat) : Int) := by omega
          have a2 : (1 + (i : Int) + 1 + (j : Int)) = ((1 + i + 1 + j : Nat) : Int) := by omega
          rw [a2, a1]
        · rw [List.map_append, er, List.append_assoc, range'_snoc, List.map_append]
          rfl
      · rintro σ H2 ⟨v3, rfl, e2, R2⟩
        refine ⟨_, _, rfl, e2, by omega, ?_⟩
        have a1 : ((n : Int) + 1 - (1 + (i : Int) + 1)).toNat = n - (1 + i) := by omega
        rw [a1] at R2
        rw [range'_snoc, List.flatMap_append]
        have a2 : ([1 + i] : List Nat).flatMap (fun a => (List.range' (a + 1) (n - a)).map fun j => (a, j)) = (List.range' (1 + i + 1) (n - (1 + i))).map fun j => (1 + i, j) := by
          rw [List.flatMap_cons, List.flatMap_nil, List.append_nil]
        rw [a2]
        exact R2
    · rintro σ H1 ⟨v2, v3, rfl, e1, hi', R⟩
      refine ⟨_, rfl, ?_⟩
      have a1 : ((n : Int) + 1 - 1).toNat = n := by omega
      rw [a1] at R
      exact k H1 p e1 hp R
end
end Lp

namespace Lp
open PySem PySem.Spec PyProof.Rows L2 Evl
/-! ### rules that the layer lacks -/
theorem maxOf_best : ∀ (ys : List Int) (y : Int), PySem.W.maxOf y ys ∈ y :: ys ∧ ∀ z ∈ y :: ys, z ≤ PySem.W.maxOf y ys
  | [], y => ⟨List.mem_cons_self, fun z hz => by rw [List.mem_singleton] at hz; subst hz; exact Int.le_refl _⟩
  | a :: ys, y => by
    have e : PySem.W.maxOf y (a :: ys) = PySem.W.maxOf (if decide (y < a) = true then a else y) ys := rfl
    rw [e]
    obtain ⟨h1, h2⟩ := maxOf_best ys (if decide (y < a) = true then a else y)
    by_cases q : y < a
    · rw [if_pos (decide_eq_true q)] at h1 h2 ⊢
      refine ⟨List.mem_cons_of_mem _ h1, fun z hz => ?_⟩
      rcases List.mem_cons.mp hz with rfl | hz
      · exact Int.le_trans (Int.le_of_lt q) (h2 a List.mem_cons_self)
      · exact h2 z hz
    · have hq : ¬ decide (y < a) = true := by simpa using q
      rw [if_neg hq] at h1 h2 ⊢
      refine ⟨?_, fun z hz => ?_⟩
      · rcases List.mem_cons.mp h1 with h | h
        · rw [h]; exact List.mem_cons_self
        · exact List.mem_cons_of_mem _ (List.mem_cons_of_mem _ h)
      · have := h2 y List.mem_cons_self
        rcases List.mem_cons.mp hz with rfl | hz
        · exact this
        · rcases List.mem_cons.mp hz with rfl | hz
          · omega
          · exact h2 z (List.mem_cons_of_mem _ hz)
theorem minOf_best : ∀ (ys : List Int) (y : Int), PySem.W.minOf y ys ∈ y :: ys ∧ ∀ z ∈ y :: ys, PySem.W.minOf y ys ≤ z
  | [], y => ⟨List.mem_cons_self, fun z hz => by rw [List.mem_singleton] at hz; subst hz; exact Int.le_refl _⟩
  | a :: ys, y => by
    have e : PySem.W.minOf y (a :: ys) = PySem.W.minOf (if decide (a < y) = true then a else y) ys := rfl
    rw [e]
    obtain ⟨h1, h2⟩ := minOf_best ys (if decide (a < y) = true then a else y)
    by_cases q : a < y
    · rw [if_pos (decide_eq_true q)] at h1 h2 ⊢
      refine ⟨List.mem_cons_of_mem _ h1, fun z hz => ?_⟩
      rcases List.mem_cons.mp hz with rfl | hz
      · exact Int.le_trans (h2 a List.mem_cons_self) (Int.le_of_lt q)
      · exact h2 z hz
    · have hq : ¬ decide (a < y) = true := by simpa using q
      rw [if_neg hq] at h1 h2 ⊢
      refine ⟨?_, fun z hz => ?_⟩
      · rcases List.mem_cons.mp h1 with h | h
        · rw [h]; exact List.mem_cons_self
        · exact List.mem_cons_of_mem _ (List.mem_cons_of_mem _ h)
      · have := h2 y List.mem_cons_self
        rcases List.mem_cons.mp hz with rfl | hz
        · exact this
        · rcases List.mem_cons.mp hz with rfl | hz
          · omega
          · exact h2 z (List.mem_cons_of_mem _ hz)
/-- max(xs, default=d), min(xs, default=d) of a list of whole numbers -/
def rMaxDf (K : PySem.W.Frag) : List V → List V → Hp → VK → Prop := fun vs zs H Q => ∃ (a : Addr) (ns : List Int) (d : Int), vs = [V.ref a] ∧ zs = [.int d] ∧ SqL K H a (ns.map V.int) ∧
  (ns = [] → Q (.int d) H) ∧ ∀ m, m ∈ ns → (∀ y, y ∈ ns → y ≤ m) → Q (.int m) H
def rMinDf (K : PySem.W.Frag) : List V → List V → Hp → VK → Prop := fun vs zs H Q => ∃ (a : Addr) (ns : List Int) (d : Int), vs = [V.ref a] ∧ zs = [.int d] ∧ SqL K H a (ns.map V.int) ∧
  (ns = [] → Q (.int d) H) ∧ ∀ m, m ∈ ns → (∀ y, y ∈ ns → m ≤ y) → Q (.int m) H
section
variable {X : Cx}
theorem cr_maxDf (hc : X.calm = true) (hu : X.A.units + 1 < cLine) : CallRK X (.builtin "max") [Str.ofString "default"] (rMaxDf X.K) := by
  intro pins s σ H vs zs us ws Q I r rz h
  obtain ⟨a, ns, d, rfl, rfl, hs, q0, q⟩ := h
  obtain rfl := Vals.ref1 r
  obtain ⟨w1, rfl, e1⟩ := vals1 rz
  obtain ⟨t1, rfl⟩ := e1
  obtain ⟨its, rv, hl, _⟩ := I.list hs
  refine PySem.W.max_list_datum_default (α := Int) (I.ok.hd hc) hl.isList (PySem.W.HoldAll.of_ints rv.ints) hu ?_ ?_
  · intro e h' tk hk
    exact ⟨.int d, H, I.kept hk, ⟨_, rfl⟩, q0 e⟩
  · intro y ys i v h' tk e hi hv hk
    obtain ⟨t, rfl⟩ := PySem.W.int_of_holds hv
    subst e
    obtain ⟨h1, h2⟩ := maxOf_best ys y
    exact ⟨.int _, H, I.kept hk, ⟨_, rfl⟩, q _ h1 h2⟩
theorem cr_minDf (hc : X.calm = true) (hu : X.A.units + 1 < cLine) : CallRK X (.builtin "min") [Str.ofString "default"] (rMinDf X.K) := by
  intro pins s σ H vs zs us ws Q I r rz h
  obtain ⟨a, ns, d, rfl, rfl, hs, q0, q⟩ := h
  obtain rfl := Vals.ref1 r
  obtain ⟨w1, rfl, e1⟩ := vals1 rz
  obtain ⟨t1, rfl⟩ := e1
  obtain ⟨its, rv, hl, _⟩ := I.list hs
  refine PySem.W.min_list_datum_default (α := Int) (I.ok.hd hc) hl.isList (PySem.W.HoldAll.of_ints rv.ints) hu ?_ ?_
  · intro e h' tk hk
    exact ⟨.int d, H, I.kept hk, ⟨_, rfl⟩, q0 e⟩
  · intro y ys i v h' tk e hi hv hk
    obtain ⟨t, rfl⟩ := PySem.W.int_of_holds hv
    subst e
    obtain ⟨h1, h2⟩ := minOf_best ys y
    exact ⟨.int _, H, I.kept hk, ⟨_, rfl⟩, q _ h1 h2⟩
/-- xs.extend(t) by a tuple -/
def rExtendT : V → List V → Hp → VK → Prop := fun x vs H Q => ∃ l b xs zs, x = .ref l ∧ vs = [.ref b] ∧ H l = some (.lst xs) ∧ H b = some (.tup zs) ∧ xs.length + zs.length ≤ sizeLine ∧ Q .non (upd H l (.lst (xs ++ zs)))
theorem extend_tup (l b : Addr) (xs ys : Array Value) (n m : Nat) (dd : Option Addr) (sl : Array (Option Value)) (hlong : ¬(!xs.isEmpty && Builtin.List.listTooLong (xs.size + ys.size)) = true) (hx : xs.size ≤ sizeLine) (hxy : xs.size + ys.size ≤ sizeLine + 1) :
    Meets (Builtin.«list.extend» ⟨[.ref l, .ref b], []⟩) fun _ R s => s.heap.get? l = some ⟨.type "list", none, .seq xs n, #[]⟩ ∧ s.heap.get? b = some ⟨.type "tuple", dd, .seq ys m, sl⟩ ∧
      R (.ok (.ret Value.none)) { s with heap := s.heap.update l (Obj.mapSeq fun x => x ++ ys), toks := s.toks } := by
  refine .of_wp fun prog w A R s h => ?_
  obtain ⟨hp, g, d, tk, os⟩ := s
  obtain ⟨h1, h2, h3⟩ := h
  have f1 := AutoSeq1.idx_int
  have f2 := AutoSeq1.sub_tuple_tuple
  have f3 := AutoSeq1.sub_list_list
  have f4 := AutoSeq1.sub_tuple_list
  have f5 := AutoSeq1.sub_list_tuple
  have hz : (xs ++ ys).size ≤ sizeLine + 1 := by rw [Array.size_append]; exact hxy
  wp_walk using (wpAny_updateSeq h1 rfl (hz := hx) (_hz' := hz)), AutoSeq1.wpAny_loadPart' h1, AutoSeq1.wpAny_loadPart' h2
  exact ⟨_, rfl, h3⟩
theorem mt_extendT : MtM X "list.extend" rExtendT := by
  intro pins s σ H x vs v us Q I rx rv h
  obtain ⟨l, b, xs, zs, rfl, rfl, hH, hB, hz, q⟩ := h
  cases rx
  obtain ⟨u, rfl, ru⟩ := rv.one
  cases ru
  obtain ⟨z, its, n, r, hl, e⟩ := I.lstM hH
  obtain ⟨z2, its2, r2, o2, e2, c2, m2, d2⟩ := I.hok b _ hB
  have hl2 : zs.length = its2.length := r2.length
  obtain ⟨cls2, dd, data2, sl2⟩ := o2
  subst c2 d2
  have hsz : its.toArray.size + its2.toArray.size ≤ sizeLine := by rw [List.size_toArray, List.size_toArray]; omega
  have hlong : ¬ (!its.toArray.isEmpty && Builtin.List.listTooLong (its.toArray.size + its2.toArray.size)) = true := by
    rw [notLongL hsz, Bool.and_false]
    exact Bool.false_ne_true
  refine call_meets F.slot_list_extend ⟨_, e, rfl⟩ F.entry_list_extend (F.args_list_extend_2 _ _)
    (extend_tup l b its.toArray its2.toArray n m2 dd sl2 hlong (by rw [List.size_toArray]; omega) (by omega)) ⟨e, e2, ?_⟩
  refine ⟨.non, _, I.lset (its' := its ++ its2) hH e (by simp) (r.append r2) ?_, rfl, q⟩
  rw [List.length_append]
  omega
end
end Lp

namespace Lp
open PySem PySem.Spec PyProof.Rows L2 Evl
theorem iv_ints (g : List Nat) : iv g = (Rl05.ints g).map V.int := by
  unfold iv Rl05.ints
  rw [List.map_map]
  rfl
theorem mem_ints {g : List Nat} {z : Int} : z ∈ Rl05.ints g ↔ ∃ n ∈ g, (n : Int) = z := by
  unfold Rl05.ints
  exact List.mem_map
theorem mx_max {g : List Nat} {m : Nat} (h : m ∈ g) (hm : ∀ y ∈ g, y ≤ m) : mx 0 g = m + 1 := by
  have h1 := lt_mx g 0 m h
  have : ∀ (l : List Nat) (a b : Nat), (∀ y ∈ l, y + 1 ≤ b) → a ≤ b → mx a l ≤ b := by
    intro l
    induction l with
    | nil => exact fun a b _ h => h
    | cons y l ih =>
      intro a b h hab
      rw [mx_cons]
      refine ih _ b (fun z hz => h z (List.mem_cons_of_mem _ hz)) ?_
      have := h y List.mem_cons_self
      omega
  have h2 := this g 0 (m + 1) (fun y hy => by have := hm y hy; omega) (Nat.zero_le _)
  omega
theorem mx_le {l : List Nat} {a b : Nat} (h : ∀ y ∈ l, y + 1 ≤ b) (hab : a ≤ b) : mx a l ≤ b := by
  induction l generalizing a with
  | nil => exact hab
  | cons y l ih =>
    rw [mx_cons]
    refine ih (fun z hz => h z (List.mem_cons_of_mem _ hz)) ?_
    have := h y List.mem_cons_self
    omega
theorem all_len {n : Nat} (h : n ≤ 7) : (Rl05.all n).length ≤ 877 := by
  match n, h with
  | 0, _ => decide
  | 1, _ => decide +kernel
  | 2, _ => decide +kernel
  | 3, _ => decide +kernel
  | 4, _ => decide +kernel
  | 5, _ => decide +kernel
  | 6, _ => decide +kernel
  | 7, _ => decide +kernel
def grown (l : List Nat) : List (List Nat) := (List.range (mx 0 l + 1)).map fun x => l ++ [x]
theorem all_grown (n : Nat) : Rl05.all (n + 1) = (Rl05.all n).flatMap grown := all_succ n
theorem flat_take_len {α β : Type} (f : α → List β) (l : List α) (j : Nat) : ((l.take j).flatMap f).length ≤ (l.flatMap f).length := by
  conv => rhs; rw [← List.take_append_drop j l, List.flatMap_append, List.length_append]
  omega
theorem max_of {K : PySem.W.Frag} {H : Hp} {Q : VK} {a : Addr} {g : List Nat} (ha : SqL K H a (iv g)) (k : ∀ M : Int, M + 1 = (mx 0 g : Int) → Q (.int M) H) : rMaxDf K [.ref a] [.int (-1)] H Q := by
  refine ⟨a, Rl05.ints g, -1, rfl, rfl, by rw [← iv_ints]; exact ha, fun eg => k _ ?_, fun m hm hmax => k _ ?_⟩
  · have : g = [] := List.map_eq_nil_iff.mp eg
    rw [this]
    rfl
  · obtain ⟨m', h1, rfl⟩ := mem_ints.mp hm
    rw [mx_max h1 fun y hy => by have := hmax _ (mem_ints.mpr ⟨y, hy, rfl⟩); omega]
    rfl
theorem ev_max {K : PySem.W.Frag} {H : Hp} {σ : L2.St} {i : Nat} {a : Addr} {g : List Nat} {te : TE} (h : σ[i]? = some (some (.ref a))) (ha : SqL K H a (iv g)) (hd : Ev te σ H (.int (-1))) :
    Ev (tCKw (rMaxDf K) (tCons (tVar i) tNil) (tCons te tNil)) σ H (.int ((mx 0 g : Int) - 1)) := fun H1 e Q q =>
  ⟨.ref a, h, hd H1 e _ fun H2 e2 => max_of (ex_l (e.trans e2) ha) fun M hM => by
    have : M = (mx 0 g : Int) - 1 := by omega
    subst this
    exact q H2 e2⟩
theorem scAllGroups : FnScope ["size", "ways", "place", "longer", "groups", "number"] ["size"] (defScope sAllGroups) := ⟨rfl, rfl, rfl, by decide +kernel, rfl, by decide +kernel, by decide +kernel⟩
def spAllGroups : Sp := fun vs H Q _ => ∃ (n : Nat), vs = [.int (n : Int)] ∧ n ≤ 7 ∧ ∀ (H' : Hp) (p : Addr), Ex H H' → Rows H' p gO (Rl05.all n) → Q (.ref p) H'
section
variable {P : Program} {w : World} {K : PySem.W.Frag} {mg : Str → Option Value} {base : Heap}
theorem ok_allGroups {f : Addr} {fd : FuncData} (F : Fun K "all_groups" "all_groups" sAllGroups f fd) (mr : mg "range" = none) (mm : mg "max" = none) : FnOk P w K mg base CX0 1 f fd ["size"] spAllGroups := by
  refine F.ok scAllGroups (fun vs H Q E h => ?_) (fun cdv A outer s H vs Q E hr h => ?_)
  · obtain ⟨n, rfl, _⟩ := h
    rfl
  · obtain ⟨n, rfl, hn, k⟩ := h
    refine ⟨_, pss_cons (ps_set (i := 1) scAllGroups.nd rfl (.inl rfl) (pe_lst (pa_cons (pe_lst pa_nil) pa_nil)))
      (pss_cons (ps_for PassesOwn.never rfl (pi_range1 (by rfl) mr (pa_cons (pv 0) pa_nil)) (pg_name (i := 2) scAllGroups.nd rfl (.inl rfl))
        (pss_cons (ps_set (i := 3) scAllGroups.nd rfl (.inl rfl) (pe_lst pa_nil))
        (pss_cons (ps_for PassesOwn.never rfl (pi_list (pv 1)) (pg_name (i := 4) scAllGroups.nd rfl (.inl rfl))
          (pss_one (ps_for PassesOwn.never rfl (pi_range1 (by rfl) mr (pa_cons (pe_op op_add (pe_callBK (cr_maxDf rfl (hu_of hr)) (by rfl) mm (by decide +kernel) (pa_cons (pv 4) pa_nil) (pk_cons (pe_un un_neg pe_int) pk_nil)) pe_int) pa_nil)) (pg_name (i := 5) scAllGroups.nd rfl (.inl rfl))
            (pss_one (ps_expr (pe_bm PySem.F.plainAttrs_list PySem.F.slot_list_append PySem.F.type_list_append mt_append (pv 3) (pa_cons (pe_op op_cat (pv 4) (pe_lst (pa_cons (pv 5) pa_nil))) pa_nil)))))))
        (pss_one (ps_set (i := 1) scAllGroups.nd rfl (.inl rfl) (pv 3))))))
      (pss_one (ps_ret (pv 1)))), ?_⟩
    refine ⟨Nat.zero_le _, fun p0 hp0 => ⟨(by show 1 ≤ sizeLine; decide), fun q0 hq0 => ?_⟩⟩
    have e0 : Ex H (upd (upd H p0 (.lst [])) q0 (.lst [.ref p0])) := (Ex.new hp0).trans (Ex.new hq0)
    have pq : p0 ≠ q0 := fun z => by rw [← z, upd_same] at hq0; cases hq0
    refine ⟨_, rfl, (n : Int), rfl, by omega, by omega, ?_⟩
    refine for_range (lo := 0) (n := ((n : Int)).toNat) (fun i σ H' => ∃ (q : Addr) (v2 v3 v4 v5 : Option V), σ = [some (.int (n : Int)), some (.ref q), v2, v3, v4, v5] ∧ Ex H H' ∧ Rows H' q gO (Rl05.all i))
      ⟨q0, none, none, none, none, rfl, e0, [(p0, [])], ⟨upd_same, fun t ht => ?_⟩, rfl⟩ ?_ ?_
    · rw [List.mem_singleton] at ht
      subst ht
      exact ⟨by rw [upd_ne pq, upd_same]; rfl, pq⟩
    · rintro i σ H1 hi ⟨q, v2, v3, v4, v5, rfl, e1, ts, R, er⟩
      have hi7 : i + 1 ≤ 7 := by omega
      refine ⟨Nat.zero_le _, fun l hl => ?_⟩
      have e2 : Ex H1 (upd H1 l (.lst [])) := Ex.new hl
      have ql : q ≠ l := fun z => by rw [← z, R.lst] at hl; cases hl
      refine ⟨_, rfl, q, rfl, ⟨_, SqL.of (e2 _ _ R.lst)⟩, for_list (K := K) (a := q) (xs := ts.map fun t => V.ref t.1)
        (fun j σ H' => ∃ (v4 v5 : Option V), σ = [some (.int (n : Int)), some (.ref q), some (.int (0 + (i : Int))), some (.ref l), v4, v5] ∧ Ex H1 H' ∧ Rows H' l gO (((Rl05.all i).take j).flatMap grown))
        ⟨v4, v5, rfl, e2, rows_nil upd_same⟩ (fun j σ H' _ ⟨_, _, _, e, _⟩ => SqL.of (e _ _ R.lst)) ?_ ?_⟩
      · rintro j y σ H2 hj ⟨v4, v5, rfl, e3, R3⟩
        obtain ⟨⟨a, g⟩, ht, rfl⟩ : ∃ t, ts[j]? = some t ∧ V.ref t.1 = y := by
          rw [List.getElem?_map, Option.map_eq_some_iff] at hj
          exact hj
        have hg : (Rl05.all i)[j]? = some g := by rw [← er, List.getElem?_map, ht]; rfl
        have ha1 := (R.at_ _ (List.mem_of_getElem? ht)).1
        have ha : H2 a = some (.lst (iv g)) := e3 _ _ ha1
        have hgl : g.length = i := (mem_all.mp (List.mem_of_getElem? hg)).1
        have hlen : (((Rl05.all i).take (j + 1)).flatMap grown).length ≤ 877 := Nat.le_trans (flat_take_len _ _ _) (by rw [← all_grown]; exact all_len hi7)
        rw [take_snoc' hg, List.flatMap_append, List.length_append, List.flatMap_cons, List.flatMap_nil, List.append_nil] at hlen
        have hmx : mx 0 g ≤ 7 := Nat.le_trans (mx_len (mem_all.mp (List.mem_of_getElem? hg)).2) (by omega)
        refine s_forR1 (n := (mx 0 g : Int) - 1 + 2) (ea_cons (ev_op (ev_max (g := g) rfl (SqL.of ha) (ev_un ev_c ru_neg)) ev_c rv_I0) ea_nil) ⟨by omega, by omega⟩ (fun x σ H' => ∃ (v5 : Option V), σ = [some (.int (n : Int)), some (.ref q), some (.int (0 + (i : Int))), some (.ref l), some (.ref a), v5] ∧ Ex H1 H' ∧
          Rows H' l gO (((Rl05.all i).take j).flatMap grown ++ (List.range x).map fun x => g ++ [x])) (fun H5 e5 => ⟨v5, rfl, e3.trans e5, by rw [List.range_zero, List.map_nil, List.append_nil]; exact R3.mono e5⟩) ?_ ?_
        · intro x σ H4 hx ⟨v5, eσ, e4, us, R4, er4⟩
          subst eσ
          refine ⟨_, rfl, .inl ⟨rfl, _, SqL.of R4.lst⟩, _, rfl, _, rfl, (by show 1 ≤ sizeLine; decide), fun b hb => ?_⟩
          have e5 : Ex H4 (upd H4 b (.lst [.int (x : Int)])) := Ex.new hb
          refine ⟨a, b, _, _, rfl, rfl, e5 _ _ (e4 _ _ ha1), upd_same, ?_, fun c hc => ?_⟩
          · rw [iv_len, hgl]
            exact Nat.le_trans (show i + 1 ≤ 8 by omega) (by decide)
          · have e6 : Ex H4 (upd (upd H4 b (.lst [.int (x : Int)])) c (.lst (iv g ++ [.int (x : Int)]))) := e5.trans (Ex.new hc)
            have hc4 : H4 c = none := fresh_back e5 hc
            have hul : us.length < 1000 := by
              have := congrArg List.length er4
              rw [List.length_map] at this
              rw [this, List.length_append, List.length_map, List.length_range]
              have hgr : (grown g).length = mx 0 g + 1 := by unfold grown; rw [List.length_map, List.length_range]
              omega
            refine ⟨l, _, _, rfl, rfl, e6 _ _ R4.lst, by rw [List.length_map]; exact Nat.lt_trans hul (by decide), ?_⟩
            refine ⟨_, rfl, fun z o hz => ?_, us ++ [(c, g ++ [x])], R4.push e6 (x := g ++ [x]) ?_ hc4, ?_⟩
            · rw [upd_ne (ne_of_none hz hl)]
              exact e6 _ _ (e4 _ _ hz)
            · rw [upd_same]
              unfold gO iv
              rw [List.map_append]
              rfl
            · rw [List.map_append, er4, List.append_assoc, List.range_succ, List.map_append]
              rfl
        · rintro σ H4 ⟨v5, rfl, e4, R4⟩
          refine ⟨_, _, rfl, e4, ?_⟩
          have : ((mx 0 g : Int) - 1 + 2).toNat = mx 0 g + 1 := by omega
          rw [this] at R4
          rw [take_snoc' hg, List.flatMap_append, List.flatMap_cons, List.flatMap_nil, List.append_nil]
          exact R4
      · rintro σ H2 ⟨v4, v5, rfl, e3, R3⟩
        refine ⟨_, rfl, l, _, _, _, _, rfl, e1.trans e3, ?_⟩
        rw [all_grown]
        have : (Rl05.all i).take (ts.map fun t => V.ref t.1).length = Rl05.all i := by
          rw [← er]
          exact List.take_of_length_le (by rw [List.length_map, List.length_map]; exact Nat.le_refl _)
        rw [this] at R3
        exact R3
    · rintro σ H1 ⟨q, v2, v3, v4, v5, rfl, e1, R⟩
      refine ⟨_, rfl, k H1 q e1 ?_⟩
      rw [Int.toNat_natCast] at R
      exact R
end
end Lp

namespace Lp
open PySem PySem.Spec PyProof.Rows L2 Evl
/-! ### more of what evaluates to what -/
section
variable {K : PySem.W.Frag} {σ : L2.St} {H H' : Hp} {ta tb te td tk tl : TE} {t u : TT} {x y z v : V}
theorem ev_fld {a C dx : Addr} {fs : List (Str × V)} {f : Str} (ha : Ev ta σ H (.ref a)) (ho : H a = some (.ins C dx fs)) (c : Cls K C) (n : NoAttr K C f) (l : fs.lookup f = some v) : Ev (tFld K ta f) σ H v := fun H1 e Q q =>
  ha H1 e _ fun H2 e2 => ⟨a, C, dx, fs, v, rfl, (e.trans e2) _ _ ho, c, n, l, q H2 e2⟩
theorem rd_ex {a : Addr} {o : HO} (e : Ex H H') (h : Rd H a o) : Rd H' a o := ex_rd e h
theorem dget_ex {d : Addr} {r : Option V} (e : Ex H H') (h : DGet H d y r) : DGet H' d y r := by
  rcases h with ⟨kvs, k, h1, h2, h3⟩ | ⟨kvs, k, b, h1, h2, h3, h4⟩
  · exact .inl ⟨kvs, k, rd_ex e h1, h2, h3⟩
  · exact .inr ⟨kvs, k, b, rd_ex e h1, h2, e _ _ h3, h4⟩
theorem ev_dget {d : Addr} (hd : Ev td σ H (.ref d)) (hk : Ev tk σ H y) (g : DGet H d y (some v)) : Ev (tDGet td tk) σ H v := fun H1 e Q q =>
  hd H1 e _ fun H2 e2 => hk H2 (e.trans e2) _ fun H3 e3 => ⟨d, v, rfl, dget_ex ((e.trans e2).trans e3) g, q H3 (e2.trans e3)⟩
theorem ev_sumN {ns : List Int} (h : EvL te σ H (ns.map V.int)) : Ev (tCB (rSum K) (tCons te tNil)) σ H (.int ns.sum) := fun H1 e Q q =>
  h H1 e _ fun p H2 _ e2 hp => ⟨p, ns, rfl, SqL.of hp, q H2 e2⟩
theorem ev_allN {bs : List Bool} (h : EvL te σ H (bs.map V.bl)) : Ev (tCB (rAll K) (tCons te tNil)) σ H (.bl (bs.all id)) := fun H1 e Q q =>
  h H1 e _ fun p H2 _ e2 hp => ⟨p, bs, rfl, SqL.of hp, q H2 e2⟩
theorem ev_anyN {bs : List Bool} (h : EvL te σ H (bs.map V.bl)) : Ev (tCB (rAny K) (tCons te tNil)) σ H (.bl (bs.any id)) := fun H1 e Q q =>
  h H1 e _ fun p H2 _ e2 hp => ⟨p, bs, rfl, SqL.of hp, q H2 e2⟩
theorem et_yes : EvT tYes σ H true := fun H1 _ _ q => q H1 (Ex.refl H1)
theorem et_cmp {r : R2} {b : Bool} (ha : Ev ta σ H x) (hb : Ev tb σ H y) (hr : RV r x y H (.bl b)) : EvT (tTest (tOp r ta tb)) σ H b := et_test (ev_op ha hb hr)
theorem et_eqI {i j : Int} (ha : Ev ta σ H (.int i)) (hb : Ev tb σ H (.int j)) : EvT (tTest (tOp rEq ta tb)) σ H (decide (i = j)) := by
  have e : decide (V.int i = V.int j) = decide (i = j) := by
    by_cases h : i = j
    · rw [h]; simp
    · rw [decide_eq_false h, decide_eq_false fun q => h (by injection q)]
  rw [← e]
  exact et_cmp ha hb (rv_eq rfl)
/-! ### comprehensions over a list of things -/
theorem given_list {α : Type} (F : α → Bool) (G : α → V) : ∀ (ts : List α), given ts.length (fun i => (ts[i]?.map F).getD false) (fun i => (ts[i]?.map G).getD .non) = (ts.filter F).map G := by
  have key : ∀ (ts : List α) (n : Nat), n ≤ ts.length → given n (fun i => (ts[i]?.map F).getD false) (fun i => (ts[i]?.map G).getD .non) = ((ts.take n).filter F).map G := by
    intro ts n
    induction n with
    | zero => intro _; rfl
    | succ n ih =>
      intro hn
      have hx : ts[n]? = some ts[n] := List.getElem?_eq_getElem hn
      rw [take_snoc' hx, List.filter_append, List.map_append, ← ih (by omega)]
      cases hf : F ts[n] with
      | true =>
        rw [given_yes (by rw [hx]; exact hf), List.filter_cons, if_pos hf, hx]
        rfl
      | false =>
        rw [given_no (by rw [hx]; exact hf), List.filter_cons, if_neg (by rw [hf]; exact Bool.false_ne_true), List.filter_nil, List.map_nil, List.append_nil]
  intro ts
  rw [key ts ts.length (Nat.le_refl _), List.take_length]
theorem el_comp {α : Type} {ts : List α} {a : Addr} {j : Nat} {vs : List Nat} (val : α → V) (F : α → Bool) (G : α → V) (h : Ev tl σ H (.ref a)) (hx : SqL K H a (ts.map val)) (hz : ts.length ≤ 40000) (hw : ∀ x, wipe ((wipe σ vs).set j (some x)) vs = wipe σ vs)
    (ht : ∀ x ∈ ts, EvT t ((wipe σ vs).set j (some (val x))) H (F x)) (he : ∀ x ∈ ts, F x = true → Ev te ((wipe σ vs).set j (some (val x))) H (G x)) : EvL (tLc (iList K tl) (gName j) t te vs) σ H ((ts.filter F).map G) := by
  rw [← given_list F G ts, ← List.length_map (f := val) (as := ts)]
  refine el_lcL _ _ h hx (by rw [List.length_map]; exact hz) hw (fun i x H1 e hi => ?_) (fun i x H1 e hi hf => ?_)
  · rw [List.getElem?_map, Option.map_eq_some_iff] at hi
    obtain ⟨y, hy, rfl⟩ := hi
    rw [hy]
    exact (ht y (List.mem_of_getElem? hy)).mono e
  · rw [List.getElem?_map, Option.map_eq_some_iff] at hi
    obtain ⟨y, hy, rfl⟩ := hi
    rw [hy] at hf ⊢
    exact (he y (List.mem_of_getElem? hy) hf).mono e
theorem el_compN {α : Type} {ts : List α} {j : Nat} {vs : List Nat} (val : α → V) (F : α → Bool) (G : α → V) (h : EvL tl σ H (ts.map val)) (hz : ts.length ≤ 40000) (hw : ∀ x, wipe ((wipe σ vs).set j (some x)) vs = wipe σ vs)
    (ht : ∀ x ∈ ts, EvT t ((wipe σ vs).set j (some (val x))) H (F x)) (he : ∀ x ∈ ts, F x = true → Ev te ((wipe σ vs).set j (some (val x))) H (G x)) : EvL (tLc (iList K tl) (gName j) t te vs) σ H ((ts.filter F).map G) := by
  rw [← given_list F G ts, ← List.length_map (f := val) (as := ts)]
  refine el_lcNL _ _ h (by rw [List.length_map]; exact hz) hw (fun i x H1 e hi => ?_) (fun i x H1 e hi hf => ?_)
  · rw [List.getElem?_map, Option.map_eq_some_iff] at hi
    obtain ⟨y, hy, rfl⟩ := hi
    rw [hy]
    exact (ht y (List.mem_of_getElem? hy)).mono e
  · rw [List.getElem?_map, Option.map_eq_some_iff] at hi
    obtain ⟨y, hy, rfl⟩ := hi
    rw [hy] at hf ⊢
    exact (he y (List.mem_of_getElem? hy) hf).mono e
/-- the same, over a list whose place is known -/
theorem lc_go {α : Type} {ts : List α} {a : Addr} {j : Nat} {vs : List Nat} {Q : VK} (val : α → V) (F : α → Bool) (G : α → V) (hx : SqL K H a (ts.map val)) (hz : ts.length ≤ 40000) (hw : ∀ x, wipe ((wipe σ vs).set j (some x)) vs = wipe σ vs)
    (ht : ∀ x ∈ ts, EvT t ((wipe σ vs).set j (some (val x))) H (F x)) (he : ∀ x ∈ ts, F x = true → Ev te ((wipe σ vs).set j (some (val x))) H (G x))
    (q : ∀ p H2, H p = none → Ex H H2 → H2 p = some (.lst ((ts.filter F).map G)) → Q (.ref p) H2) : ∃ a', V.ref a = .ref a' ∧ (∃ xs, SqL K H a' xs) ∧ ∀ D, H D = none → ∃ W : Nat → Nat → Hp → Prop, (∃ m, W 0 m (upd H D (.lst []))) ∧ ∀ i m H, W i m H →
      ((Itl K a').stop i H ∧ Q (.ref D) H) ∨ ((Itl K a').go i H ∧ ∃ Nx : Hp → Prop, (∀ H', Nx H' → ∃ m', m' < m ∧ W (i + 1) m' H') ∧ ∀ x H', (Itl K a').yld i H x H' → gName j x (wipe σ vs) H' fun σ2 H2 => wipe σ2 vs = wipe σ vs ∧ t σ2 H2 fun b H3 =>
        if b = true then te σ2 H3 fun y H4 => ∃ acc, H4 D = some (.lst acc) ∧ acc.length < sizeLine ∧ Nx (upd H4 D (.lst (acc ++ [y]))) else Nx H3) :=
  el_comp (tl := tC (.ref a)) val F G ev_c hx hz hw ht he H (Ex.refl H) Q q
/-- .. and its list is given a name -/
theorem lc_goA {α : Type} {ts : List α} {a : Addr} {j i0 : Nat} {vs : List Nat} {σ0 : L2.St} {N : L2.St → Hp → Prop} (val : α → V) (F : α → Bool) (G : α → V) (hx : SqL K H a (ts.map val)) (hz : ts.length ≤ 40000) (hw : ∀ x, wipe ((wipe σ vs).set j (some x)) vs = wipe σ vs)
    (ht : ∀ x ∈ ts, EvT t ((wipe σ vs).set j (some (val x))) H (F x)) (he : ∀ x ∈ ts, F x = true → Ev te ((wipe σ vs).set j (some (val x))) H (G x))
    (q : ∀ p H2, H p = none → Ex H H2 → H2 p = some (.lst ((ts.filter F).map G)) → N (σ0.set i0 (some (.ref p))) H2) : ∃ a', V.ref a = .ref a' ∧ (∃ xs, SqL K H a' xs) ∧ ∀ D, H D = none → ∃ W : Nat → Nat → Hp → Prop, (∃ m, W 0 m (upd H D (.lst []))) ∧ ∀ i m H, W i m H →
      ((Itl K a').stop i H ∧ gName i0 (.ref D) σ0 H N) ∨ ((Itl K a').go i H ∧ ∃ Nx : Hp → Prop, (∀ H', Nx H' → ∃ m', m' < m ∧ W (i + 1) m' H') ∧ ∀ x H', (Itl K a').yld i H x H' → gName j x (wipe σ vs) H' fun σ2 H2 => wipe σ2 vs = wipe σ vs ∧ t σ2 H2 fun b H3 =>
        if b = true then te σ2 H3 fun y H4 => ∃ acc, H4 D = some (.lst acc) ∧ acc.length < sizeLine ∧ Nx (upd H4 D (.lst (acc ++ [y]))) else Nx H3) :=
  lc_go (Q := fun x H => gName i0 x σ0 H N) val F G hx hz hw ht he q
/-- over zip of two lists -/
theorem el_zipc {α : Type} {ts : List α} {a b : Addr} {j k : Nat} {vs : List Nat} {tz : TA} (va vb : α → V) (F : α → Bool) (G : α → V) (h : EvA tz σ H [.ref a, .ref b]) (ha : SqL K H a (ts.map va)) (hb : SqL K H b (ts.map vb)) (hz : ts.length ≤ 40000)
    (hw : ∀ x y, wipe (((wipe σ vs).set j (some x)).set k (some y)) vs = wipe σ vs)
    (ht : ∀ x ∈ ts, EvT t (((wipe σ vs).set j (some (va x))).set k (some (vb x))) H (F x)) (he : ∀ x ∈ ts, F x = true → Ev te (((wipe σ vs).set j (some (va x))).set k (some (vb x))) H (G x)) :
    EvL (tLc (iZip K tz) (gTup K 2 (gCons (gName j) (gCons (gName k) gNil))) t te vs) σ H ((ts.filter F).map G) := by
  rw [← given_list F G ts]
  refine fun H0 e Q q => h H0 e _ fun H1 e1 => ⟨a, b, _, _, rfl, ex_l (e.trans e1) ha, ex_l (e.trans e1) hb, fun Dl hD => ?_⟩
  refine lc_it (n := ts.length) (walk_zip (xs := ts.map va) (ys := ts.map vb) (by simp)) (Cw H1 _ _ Dl) ⟨hD, Ex.new hD, upd_same⟩ (fun i H' _ p => ⟨ex_l ((e.trans e1).trans p.2.1) ha, ex_l ((e.trans e1).trans p.2.1) hb⟩) (fun i x H' H'' hi p y => ?_) (fun H' p => q Dl H' (fresh_back e1 p.1) (e1.trans p.2.1) p.2.2)
  obtain ⟨T, x1, x2, rfl, hT, rfl, h1, h2⟩ := y
  have hx : ts[i]? = some ts[i] := List.getElem?_eq_getElem hi
  have h1 : va ts[i] = x1 := by
    have : (ts.map va)[i]? = some x1 := h1
    rw [List.getElem?_map, hx] at this
    exact Option.some.inj this
  have h2 : vb ts[i] = x2 := by
    have : (ts.map vb)[i]? = some x2 := h2
    rw [List.getElem?_map, hx] at this
    exact Option.some.inj this
  subst h1 h2
  refine ⟨T, _, rfl, st_of upd_same, rfl, _, _, rfl, _, _, rfl, rfl, ?_⟩
  refine ⟨hw _ _, cw_turn ⟨p.1, p.2.1.trans (Ex.new hT), (Ex.new hT) _ _ p.2.2⟩ (by omega) ?_ (fun hf => ?_)⟩
  · rw [hx]
    exact (ht _ (List.getElem_mem hi)).mono (e.trans e1)
  · rw [hx] at hf ⊢
    exact (he _ (List.getElem_mem hi) hf).mono (e.trans e1)
/-- is_together, called -/
theorem sv_tog {a b : Addr} {g : List Nat} {q : Nat × Nat} (ha : SqL K H a (iv g)) (hb : H b = some (pO q)) (h1 : InR g.length q.1) (h2 : InR g.length q.2) : SpV (spTog K) [.ref a, .ref b] H (.bl (Rl05.together g q.1 q.2)) := fun H1 e Q q0 E =>
  ⟨a, b, g, q.1, q.2, rfl, ex_l e ha, st_of (e _ _ hb), h1, h2, q0 H1 (Ex.refl H1)⟩
end
end Lp

namespace Lp
open PySem PySem.Spec PyProof.Rows L2 Evl
abbrev sDesk : Stmt := top 34
abbrev sInit : Stmt := inClass sDesk 0
abbrev sBegin : Stmt := inClass sDesk 1
abbrev sIsPair : Stmt := inClass sDesk 2
abbrev sCostOf : Stmt := inClass sDesk 3
abbrev sKeeps : Stmt := inClass sDesk 4
abbrev sAllKeep : Stmt := inClass sDesk 5
abbrev sCheapest : Stmt := inClass sDesk 6
/-! ### The desk in the heap -/
def pk (q : Nat × Nat) : List Key := [.inl (q.1 : Int), .inl (q.2 : Int)]
theorem pk_inj {q r : Nat × Nat} (h : pk q = pk r) : q = r := by
  unfold pk at h
  injection h with h1 h2
  injection h2 with h2 _
  injection h1 with h1
  injection h2 with h2
  exact Prod.ext (by omega) (by omega)
theorem pk_tup (q : Nat × Nat) : HO.tup ((pk q).map kV) = pO q := rfl
/-- a dict by pairs -/
def tab (l : List (Nat × Nat)) (f : Nat × Nat → Nat) : List (List Key × V) := l.map fun q => (pk q, V.int (f q : Int))
theorem tab_val {l : List (Nat × Nat)} {f : Nat × Nat → Nat} {q : Nat × Nat} (h : q ∈ l) : valV (tab l f) (pk q) = some (V.int (f q : Int)) := by
  unfold valV tab
  induction l with
  | nil => cases h
  | cons r l ih =>
    rw [List.map_cons, List.find?_cons]
    by_cases e : r = q
    · subst e
      simp
    · have : decide (pk r = pk q) = false := decide_eq_false fun z => e (pk_inj z)
      simp only [this]
      exact ih ((List.mem_cons.mp h).resolve_left fun z => e z.symm)
theorem tab_none {l : List (Nat × Nat)} {f : Nat × Nat → Nat} {q : Nat × Nat} (h : q ∉ l) : valV (tab l f) (pk q) = none := by
  unfold valV tab
  rw [Option.map_eq_none_iff, List.find?_eq_none]
  intro x hx
  obtain ⟨r, hr, rfl⟩ := List.mem_map.mp hx
  simp
  intro z
  exact h (pk_inj z ▸ hr)
def deskF (s : Rl05.St) (pa pr co ru : Addr) : List (Str × V) := [("size", .int (s.n : Int)), ("pairs", .ref pa), ("pro", .ref pr), ("contra", .ref co), ("rules", .ref ru)]
def proF (s : Rl05.St) (q : Nat × Nat) : Nat := (Rl05.voteOf s q.1 q.2).pro
def conF (s : Rl05.St) (q : Nat × Nat) : Nat := (Rl05.voteOf s q.1 q.2).con
def ruleF (s : Rl05.St) (q : Nat × Nat) : Nat := (Rl05.voteOf s q.1 q.2).rule
structure DeskBy (C : Addr) (H : Hp) (p : Addr) (s : Rl05.St) (dx pa pr co ru : Addr) : Prop where
  ins : H p = some (.ins C dx (deskF s pa pr co ru))
  pairs : Rows H pa pO (Rl05.pairs s)
  pro : H pr = some (.dT (tab (Rl05.pairs s) (proF s)))
  con : H co = some (.dT (tab (Rl05.pairs s) (conF s)))
  rule : H ru = some (.dT (tab (Rl05.pairs s) (ruleF s)))
  d1 : pr ≠ co
  d2 : pr ≠ ru
  d3 : co ≠ ru
  lo : 2 ≤ s.n
  hi : s.n ≤ 7
def DeskAt (C : Addr) (H : Hp) (p : Addr) (s : Rl05.St) : Prop := ∃ dx pa pr co ru, DeskBy C H p s dx pa pr co ru
theorem DeskBy.mono {C : Addr} {H H' : Hp} {p : Addr} {s : Rl05.St} {dx pa pr co ru : Addr} (e : Ex H H') (h : DeskBy C H p s dx pa pr co ru) : DeskBy C H' p s dx pa pr co ru :=
  ⟨e _ _ h.ins, h.pairs.mono e, e _ _ h.pro, e _ _ h.con, e _ _ h.rule, h.d1, h.d2, h.d3, h.lo, h.hi⟩
theorem DeskAt.mono {C : Addr} {H H' : Hp} {p : Addr} {s : Rl05.St} (e : Ex H H') (h : DeskAt C H p s) : DeskAt C H' p s := by
  obtain ⟨dx, pa, pr, co, ru, h⟩ := h
  exact ⟨dx, pa, pr, co, ru, h.mono e⟩
/-- the same, with the place of its pairs -/
def DeskP (C : Addr) (H : Hp) (p : Addr) (s : Rl05.St) (pa : Addr) : Prop := ∃ dx pr co ru, DeskBy C H p s dx pa pr co ru
theorem DeskP.desk {C : Addr} {H : Hp} {p pa : Addr} {s : Rl05.St} (h : DeskP C H p s pa) : DeskAt C H p s := by
  obtain ⟨dx, pr, co, ru, h⟩ := h
  exact ⟨dx, pa, pr, co, ru, h⟩
theorem DeskP.mono {C : Addr} {H H' : Hp} {p pa : Addr} {s : Rl05.St} (e : Ex H H') (h : DeskP C H p s pa) : DeskP C H' p s pa := by
  obtain ⟨dx, pr, co, ru, h⟩ := h
  exact ⟨dx, pr, co, ru, h.mono e⟩
theorem lk_at {k : Str} {v : V} {r : List (Str × V)} : List.lookup k ((k, v) :: r) = some v := by
  have e : (k == k) = true := beq_self_eq_true k
  simp only [List.lookup, e]
theorem lk_on {k g : Str} {v : V} {r : List (Str × V)} (h : (k == g) = false) : List.lookup k ((g, v) :: r) = List.lookup k r := by
  simp only [List.lookup, h]
section
variable {s : Rl05.St} {pa pr co ru : Addr}
theorem df_size : (deskF s pa pr co ru).lookup ("size" : Str) = some (.int (s.n : Int)) := lk_at
theorem df_pairs : (deskF s pa pr co ru).lookup ("pairs" : Str) = some (.ref pa) := (lk_on (by decide +kernel)).trans lk_at
theorem df_pro : (deskF s pa pr co ru).lookup ("pro" : Str) = some (.ref pr) := (lk_on (by decide +kernel)).trans ((lk_on (by decide +kernel)).trans lk_at)
theorem df_con : (deskF s pa pr co ru).lookup ("contra" : Str) = some (.ref co) := (lk_on (by decide +kernel)).trans ((lk_on (by decide +kernel)).trans ((lk_on (by decide +kernel)).trans lk_at))
theorem df_rule : (deskF s pa pr co ru).lookup ("rules" : Str) = some (.ref ru) := (lk_on (by decide +kernel)).trans ((lk_on (by decide +kernel)).trans ((lk_on (by decide +kernel)).trans ((lk_on (by decide +kernel)).trans lk_at)))
theorem df_no {m : Str} (h1 : (m == ("size" : Str)) = false) (h2 : (m == ("pairs" : Str)) = false) (h3 : (m == ("pro" : Str)) = false) (h4 : (m == ("contra" : Str)) = false) (h5 : (m == ("rules" : Str)) = false) :
    (deskF s pa pr co ru).lookup m = none := (lk_on h1).trans ((lk_on h2).trans ((lk_on h3).trans ((lk_on h4).trans ((lk_on h5).trans rfl))))
end
theorem tab_get {H : Hp} {d b : Addr} {l : List (Nat × Nat)} {f : Nat × Nat → Nat} {q : Nat × Nat} (hd : H d = some (.dT (tab l f))) (hb : H b = some (pO q)) (hq : q ∈ l) : DGet H d (.ref b) (some (.int (f q : Int))) := by
  rw [← tab_val (f := f) hq]
  exact DGet.t hd hb
theorem vint_eq {i j : Int} : (V.int i = V.int j) ↔ i = j := ⟨fun h => by injection h, fun h => by rw [h]⟩
theorem iteTd {c A B : Prop} [Decidable c] (hc : c) (h : A) : if decide c = true then A else B := by
  rw [decide_eq_true hc]
  exact iteT h
theorem iteFd {c A B : Prop} [Decidable c] (hc : ¬ c) (h : B) : if decide c = true then A else B := by
  rw [decide_eq_false hc]
  exact iteF h
/-- what the top has written -/
structure Txt (K : PySem.W.Frag) (mg : Str → Option Value) (C : Addr) : Prop where
  cl : Cls K C
  nSize : NoAttr K C "size"
  nPairs : NoAttr K C "pairs"
  nPro : NoAttr K C "pro"
  nCon : NoAttr K C "contra"
  nRules : NoAttr K C "rules"
  gC : mg "Desk" = some (.ref C)
  gMUST : ∃ t, mg "MUST" = some (.int 1 t)
  gMUSTNOT : ∃ t, mg "MUST_NOT" = some (.int 2 t)
  gFREE : ∃ t, mg "FREE" = some (.int 0 t)
  gFEW : ∃ t, mg "FEWEST_RECORDS" = some (.int 2 t)
  gMOST : ∃ t, mg "MOST_RECORDS" = some (.int 7 t)
  gMV : ∃ t, mg "MOST_VOTES" = some (.int 1000 t)
  gOUT : ∃ t, mg "OUT_OF_BOUNDS" = some (.int (-1) t)
  gNP : ∃ t, mg "NO_RECORD" = some (.int (-3) t)
  gNS : ∃ t, mg "NO_SUCH_ONE" = some (.int (-5) t)
  gNK : ∃ t, mg "NONE_KEEP" = some (.int (-6) t)
  gRange : mg "range" = none
  gMax : mg "max" = none
  gMin : mg "min" = none
  gSum : mg "sum" = none
  gLen : mg "len" = none
  gAll : mg "all" = none
  gAny : mg "any" = none
  gZip : mg "zip" = none
  gList : mg "list" = none
  gHM : ∃ t, mg "HIGHEST_MARK" = some (.int 100 t)
  gLENGTHS : ∃ a, mg "LENGTHS" = some (.ref a) ∧ ∀ H, SqT K H a [.int 2, .int 5, .int 4, .int 1, .int 2, .int 1, .int 3, .int 2, .int 2, .int 1, .int 2, .int 1]
  gc0 : ∃ t, mg "RECORDS" = some (.int 0 t)
  gc1 : ∃ t, mg "VOTE" = some (.int 1 t)
  gc2 : ∃ t, mg "RULE" = some (.int 2 t)
  gc3 : ∃ t, mg "LEAST" = some (.int 3 t)
  gc4 : ∃ t, mg "NTH" = some (.int 4 t)
  gc5 : ∃ t, mg "SURE" = some (.int 5 t)
  gc6 : ∃ t, mg "MARGIN" = some (.int 6 t)
  gc7 : ∃ t, mg "COST" = some (.int 7 t)
  gc8 : ∃ t, mg "CHAIN" = some (.int 8 t)
  gc9 : ∃ t, mg "GREEDY" = some (.int 9 t)
  gc10 : ∃ t, mg "WITHOUT" = some (.int 10 t)
/-- groups, told for n records -/
def GroupsAt (K : PySem.W.Frag) (H : Hp) (a : Addr) (n : Nat) (g : List Nat) : Prop := SqL K H a (iv g) ∧ g.length = n
/-- cost_of, keeps: a desk and groups -/
def spCostOf (K : PySem.W.Frag) (C : Addr) : Sp := fun vs H Q _ => ∃ (p a : Addr) (s : Rl05.St) (g : List Nat), vs = [.ref p, .ref a] ∧ DeskAt C H p s ∧ SqL K H a (iv g) ∧ g.length = s.n ∧
  ∀ H', Ex H H' → Q (.int (Rl05.cost s g : Int)) H'
def spKeeps (K : PySem.W.Frag) (C : Addr) : Sp := fun vs H Q _ => ∃ (p a : Addr) (s : Rl05.St) (g : List Nat), vs = [.ref p, .ref a] ∧ DeskAt C H p s ∧ SqL K H a (iv g) ∧ g.length = s.n ∧
  ∀ H', Ex H H' → Q (.bl (Rl05.keeps s g)) H'
def costOf1 (s : Rl05.St) (g : List Nat) (q : Nat × Nat) : Nat := if Rl05.together g q.1 q.2 = true then conF s q else proF s q
theorem cost_sum (s : Rl05.St) (g : List Nat) : (((Rl05.pairs s).map fun q => (costOf1 s g q : Int)).sum) = (Rl05.cost s g : Int) := by
  unfold Rl05.cost
  rw [total_eq, ← sum_cast, List.map_map]
  rfl
section
variable {P : Program} {w : World} {K : PySem.W.Frag} {mg : Str → Option Value} {base : Heap} {C : Addr}
theorem scKeeps : FnScope ["self", "groups", "pair"] ["self", "groups"] (defScope sKeeps) := ⟨rfl, rfl, rfl, by decide +kernel, rfl, by decide +kernel, by decide +kernel⟩
theorem ok_keeps {f fT : Addr} {fd fdT : FuncData} (F : Fun K "keeps" "Desk.keeps" sKeeps f fd) (T : Txt K mg C) (FT : Fun K "is_together" "is_together" sTog fT fdT) (gT : mg "is_together" = some (.ref fT)) (bT : Binds K fdT ["groups", "pair"] []) :
    FnOk P w K mg base CX0 2 f fd ["self", "groups"] (spKeeps K C) := by
  have GT : FnOk P w K mg base CX0 1 fT fdT ["groups", "pair"] (spTog K) := ok_tog FT
  refine F.ok scKeeps (fun vs H Q E h => ?_) (fun cdv A outer s0 H vs Q E hr h => ?_)
  · obtain ⟨p, a, s, g, rfl, _⟩ := h
    rfl
  · obtain ⟨p, a, s, g, rfl, ⟨dx, pa, pr, co, ru, D⟩, hg, hl, k⟩ := h
    obtain ⟨t1, gM⟩ := T.gMUST
    obtain ⟨t2, gMN⟩ := T.gMUSTNOT
    refine ⟨_, pss_cons (ps_for PassesOwn.never rfl (pi_list (pe_fld (pv 0) rfl)) (pg_name (i := 2) scKeeps.nd rfl (.inl rfl))
        (pss_cons (ps_if (PW.pt (pw_and (pt_cmpR op_eq (pe_dget (hu_of hr) (pe_fld (pv 0) rfl) (pv 2) (fun _ _ => rfl)) (pe_glob (v := .int 1) rfl gM ⟨_, rfl⟩) (nomark _))
            (pw_and1 (pt_not (pt_val (pe_call GT hr rfl gT FT.kp bT .nil pass0 (pa_cons (pv 1) (pa_cons (pv 2) pa_nil)))))))) (pss_one (ps_ret pe_bl)) pss_nil)
        (pss_one (ps_if (PW.pt (pw_and (pt_cmpR op_eq (pe_dget (hu_of hr) (pe_fld (pv 0) rfl) (pv 2) (fun _ _ => rfl)) (pe_glob (v := .int 2) rfl gMN ⟨_, rfl⟩) (nomark _))
            (pw_and1 (pt_val (pe_call GT hr rfl gT FT.kp bT .nil pass0 (pa_cons (pv 1) (pa_cons (pv 2) pa_nil))))))) (pss_one (ps_ret pe_bl)) pss_nil))))
      (pss_one (ps_ret pe_bl)), ?_⟩
    obtain ⟨ts, R, er⟩ := D.pairs
    refine q_forL (K := K) (xs := ts.map fun t => V.ref t.1) (ev_fld (ev_var rfl) D.ins T.cl T.nPairs df_pairs) (SqL.of R.lst)
      (fun i σ H' => ∃ v : Option V, σ = [some (.ref p), some (.ref a), v] ∧ Ex H H' ∧ ((Rl05.pairs s).take i).all (fun q => if Rl05.together g q.1 q.2 = true then ruleF s q != 2 else ruleF s q != 1) = true)
      (fun H1 e1 => ⟨none, rfl, e1, rfl⟩) (fun i σ H' _ ⟨_, _, e, _⟩ => SqL.of (e _ _ R.lst)) ?_ ?_
    · rintro i y σ H1 hi ⟨v, rfl, e1, hall⟩
      obtain ⟨⟨b, q⟩, ht, rfl⟩ : ∃ t, ts[i]? = some t ∧ V.ref t.1 = y := by
        rw [List.getElem?_map, Option.map_eq_some_iff] at hi
        exact hi
      have hq : (Rl05.pairs s)[i]? = some q := by rw [← er, List.getElem?_map, ht]; rfl
      have hb : H1 b = some (pO q) := e1 _ _ (R.at_ _ (List.mem_of_getElem? ht)).1
      have hqm : q ∈ Rl05.pairs s := List.mem_of_getElem? hq
      have D1 := D.mono e1
      have hi1 : InR g.length q.1 := by rw [hl]; exact (pairs_in hqm).1
      have hi2 : InR g.length q.2 := by rw [hl]; exact (pairs_in hqm).2
      have hrl : DGet H1 ru (.ref b) (some (.int (ruleF s q : Int))) := tab_get D1.rule hb hqm
      have ht : SpV (spTog K) [.ref a, .ref b] H1 (.bl (Rl05.together g q.1 q.2)) := sv_tog (ex_l e1 hg) hb hi1 hi2
      have stop : (if Rl05.together g q.1 q.2 = true then ruleF s q != 2 else ruleF s q != 1) = false → Rl05.keeps s g = false := fun z => by
        unfold Rl05.keeps
        rw [List.all_eq_false]
        refine ⟨q, hqm, ?_⟩
        show ¬ (if Rl05.together g q.1 q.2 = true then ruleF s q != 2 else ruleF s q != 1) = true
        rw [z]
        exact Bool.false_ne_true
      refine q_when (et_and (et_eqI (ev_dget (ev_fld (ev_var rfl) D1.ins T.cl T.nRules df_rule) (ev_var rfl) hrl) ev_c) fun _ => et_not (et_B (ev_call (ea_cons (ev_var rfl) (ea_cons (ev_var rfl) ea_nil)) ht))) (fun hT H2 e2 => ?_) (fun hF H2 e2 => ?_)
      · rw [Bool.and_eq_true, decide_eq_true_eq, Bool.not_eq_true'] at hT
        refine s_ret ev_c fun H3 e3 => ?_
        have := stop (by rw [hT.2, if_neg Bool.false_ne_true, show ruleF s q = 1 by omega]; rfl)
        rw [← this]
        exact k H3 ((e1.trans e2).trans e3)
      · have D2 := D1.mono e2
        refine s_when (et_and (et_eqI (ev_dget (ev_fld (ev_var rfl) D2.ins T.cl T.nRules df_rule) (ev_var rfl) (dget_ex e2 hrl)) ev_c) fun _ => (et_B (ev_call (ea_cons (ev_var rfl) (ea_cons (ev_var rfl) ea_nil)) (sv_tog (ex_l (e1.trans e2) hg) (e2 _ _ hb) hi1 hi2)))) (fun hT H3 e3 => ?_) (fun hF2 H3 e3 => ?_)
        · rw [Bool.and_eq_true, decide_eq_true_eq] at hT
          refine s_ret ev_c fun H4 e4 => ?_
          have := stop (by rw [hT.2, if_pos rfl, show ruleF s q = 2 by omega]; rfl)
          rw [← this]
          exact k H4 (((e1.trans e2).trans e3).trans e4)
        · refine ⟨_, rfl, (e1.trans e2).trans e3, ?_⟩
          rw [take_snoc' hq, List.all_append, hall, List.all_cons, List.all_nil, Bool.and_true, Bool.true_and]
          cases hc : Rl05.together g q.1 q.2 with
          | true =>
            rw [hc, Bool.and_true] at hF2
            rw [if_pos rfl]
            have := of_decide_eq_false hF2
            simp
            omega
          | false =>
            rw [hc, Bool.not_false, Bool.and_true] at hF
            rw [if_neg Bool.false_ne_true]
            have := of_decide_eq_false hF
            simp
            omega
    · rintro σ H1 ⟨v, rfl, e1, hall⟩
      refine s_ret ev_c fun H2 e2 => ?_
      have : Rl05.keeps s g = true := by
        unfold Rl05.keeps
        rw [show (Rl05.pairs s).take (ts.map fun t => V.ref t.1).length = Rl05.pairs s by rw [← er]; exact List.take_of_length_le (by rw [List.length_map, List.length_map]; exact Nat.le_refl _)] at hall
        exact hall
      rw [← this]
      exact k H2 (e1.trans e2)
theorem scCostOf : FnScope ["self", "groups", "pair"] ["self", "groups"] (defScope sCostOf) := ⟨rfl, rfl, rfl, by decide +kernel, rfl, by decide +kernel, by decide +kernel⟩
theorem ok_costOf {f fT : Addr} {fd fdT : FuncData} (F : Fun K "cost_of" "Desk.cost_of" sCostOf f fd) (T : Txt K mg C) (FT : Fun K "is_together" "is_together" sTog fT fdT) (gT : mg "is_together" = some (.ref fT)) (bT : Binds K fdT ["groups", "pair"] []) :
    FnOk P w K mg base CX0 2 f fd ["self", "groups"] (spCostOf K C) := by
  have GT : FnOk P w K mg base CX0 1 fT fdT ["groups", "pair"] (spTog K) := ok_tog FT
  refine F.ok scCostOf (fun vs H Q E h => ?_) (fun cdv A outer s0 H vs Q E hr h => ?_)
  · obtain ⟨p, a, s, g, rfl, _⟩ := h
    rfl
  · obtain ⟨p, a, s, g, rfl, ⟨dx, pa, pr, co, ru, D⟩, hg, hl, k⟩ := h
    refine ⟨_, pss_one (ps_ret (pe_callB (cr_sum rfl) (by rfl) T.gSum (by decide +kernel) (pa_cons
      (pe_lc (own := [("pair", 2)]) (g := gName 2) (tt := tYes) (te := tIf (tB (tCall (spTog K) [] E0 (tCons (tVar 1) (tCons (tVar 2) tNil)))) (tDGet (tFld K (tVar 0) "contra") (tVar 2)) (tDGet (tFld K (tVar 0) "pro") (tVar 2))) rfl scCostOf.nd (pi_list (pe_fld (pv 0) rfl)) (blkOk_by (own := [("pair", 2)]) (N := ["self", "groups", "pair"]) (sc := defScope sCostOf) (by decide +kernel))
        (fun _ _ _ _ _ => pg_name (i := 2) scCostOf.nd rfl (Or.inl rfl)) (fun _ _ _ _ _ => pts_nil)
        (fun _ _ _ _ _ => ?elt)) pa_nil))), ?_⟩
    case elt => exact pe_ifExp (pt_val (pe_call GT hr rfl gT FT.kp bT .nil pass0 (pa_cons (pv 1) (pa_cons (pv 2) pa_nil)))) (pe_dget (hu_of hr) (pe_fld (pv 0) rfl) (pv 2) (fun _ _ => rfl)) (pe_dget (hu_of hr) (pe_fld (pv 0) rfl) (pv 2) (fun _ _ => rfl))
    obtain ⟨ts, R, er⟩ := D.pairs
    have hts : ts.length ≤ 40000 := by
      have := congrArg List.length er
      rw [List.length_map, pairsN_eq] at this
      have := pairsN_len D.hi
      omega
    refine s_ret (ev_sumN (ns := ts.map fun t => (costOf1 s g t.2 : Int)) ?_) fun H1 e1 => ?_
    · have key := el_comp (K := K) (σ := start ["self", "groups", "pair"] [.ref p, .ref a]) (H := H) (j := 2) (vs := [2]) (t := tYes)
        (te := tIf (tB (tCall (spTog K) [] E0 (tCons (tVar 1) (tCons (tVar 2) tNil)))) (tDGet (tFld K (tVar 0) "contra") (tVar 2)) (tDGet (tFld K (tVar 0) "pro") (tVar 2)))
        (fun t : Addr × Nat × Nat => V.ref t.1) (fun _ => true) (fun t => V.int (costOf1 s g t.2 : Int)) (ev_fld (ev_var (i := 0) rfl) D.ins T.cl T.nPairs df_pairs) (SqL.of R.lst) hts (fun x => rfl) (fun t ht => et_yes) (fun t ht _ => ?_)
      · rw [List.filter_eq_self.mpr (fun _ _ => rfl)] at key
        rw [List.map_map]
        exact key
      · have hqm : t.2 ∈ Rl05.pairs s := by rw [← er]; exact List.mem_map_of_mem ht
        have hb := (R.at_ t ht).1
        refine ev_if (et_B (ev_call (ea_cons (ev_var rfl) (ea_cons (ev_var rfl) ea_nil)) (sv_tog hg hb (by rw [hl]; exact (pairs_in hqm).1) (by rw [hl]; exact (pairs_in hqm).2)))) (fun hT => ?_) (fun hF => ?_)
        · refine ev_is (ev_dget (ev_fld (ev_var rfl) D.ins T.cl T.nCon df_con) (ev_var rfl) (tab_get D.con hb hqm)) ?_
          unfold costOf1
          rw [if_pos hT]
        · refine ev_is (ev_dget (ev_fld (ev_var rfl) D.ins T.cl T.nPro df_pro) (ev_var rfl) (tab_get D.pro hb hqm)) ?_
          unfold costOf1
          rw [if_neg (by rw [hF]; exact Bool.false_ne_true)]
    · have : (ts.map fun t => (costOf1 s g t.2 : Int)).sum = (Rl05.cost s g : Int) := by
        rw [← cost_sum, ← er, List.map_map]
        rfl
      rw [this]
      exact k H1 e1
end
end Lp

namespace Lp
open PySem PySem.Spec PyProof.Rows L2 Evl
section
variable {K : PySem.W.Frag} {σ : L2.St} {H H' : Hp} {ta tb te td tk tl : TE} {x y z v : V}
theorem ev_meth {C a dx : Addr} {fs : List (Str × V)} {m : Str} {sp : Sp} {dvs vs : List V} {E : XK} {t : TA} (ha : Ev ta σ H (.ref a)) (ho : H a = some (.ins C dx fs)) (hl : fs.lookup m = none) (hA : EvA t σ H vs) (hs : SpV sp (.ref a :: (vs ++ dvs)) H z) :
    Ev (tMeth C m sp dvs E ta t) σ H z := fun H1 e Q q =>
  ha H1 e _ fun H2 e2 => ⟨a, dx, fs, rfl, (e.trans e2) _ _ ho, hl, hA H2 (e.trans e2) _ fun H3 e3 => hs H3 ((e.trans e2).trans e3) Q (fun H4 e4 => q H4 ((e2.trans e3).trans e4)) E⟩
theorem sv_keeps {C p a : Addr} {s : Rl05.St} {g : List Nat} (D : DeskAt C H p s) (ha : SqL K H a (iv g)) (hl : g.length = s.n) : SpV (spKeeps K C) [.ref p, .ref a] H (.bl (Rl05.keeps s g)) := fun H1 e Q q E =>
  ⟨p, a, s, g, rfl, D.mono e, ex_l e ha, hl, q⟩
theorem sv_costOf {C p a : Addr} {s : Rl05.St} {g : List Nat} (D : DeskAt C H p s) (ha : SqL K H a (iv g)) (hl : g.length = s.n) : SpV (spCostOf K C) [.ref p, .ref a] H (.int (Rl05.cost s g : Int)) := fun H1 e Q q E =>
  ⟨p, a, s, g, rfl, D.mono e, ex_l e ha, hl, q⟩
/-- min(costs, default=d) -/
theorem ev_minD {a : Addr} {ns : List Nat} {i : Nat} {d : Int} (h : σ[i]? = some (some (.ref a))) (ha : SqL K H a (iv ns)) (hd : Ev te σ H (.int d)) :
    Ev (tCKw (rMinDf K) (tCons (tVar i) tNil) (tCons te tNil)) σ H (.int (((Rl05.least? ns).map fun (n : Nat) => (n : Int)).getD d)) := fun H1 e Q q =>
  ⟨.ref a, h, hd H1 e _ fun H2 e2 => ⟨a, Rl05.ints ns, d, rfl, rfl, by rw [← iv_ints]; exact ex_l (e.trans e2) ha, fun eg => by
      have : ns = [] := List.map_eq_nil_iff.mp eg
      subst this
      exact q H2 e2, fun m hm hmin => by
      obtain ⟨m', h1, rfl⟩ := mem_ints.mp hm
      have : Rl05.least? ns = some m' := least_some.mpr ⟨h1, fun x hx => by have := hmin _ (mem_ints.mpr ⟨x, hx, rfl⟩); omega⟩
      rw [this] at q
      exact q H2 e2⟩⟩
end
/-- the cheapest, as a list -/
def cheapL (s : Rl05.St) : List (List Nat) := (Rl05.may s).filter fun g => decide ((Rl05.cost s g : Int) = ((Rl05.least? ((Rl05.may s).map (Rl05.cost s))).map fun (n : Nat) => (n : Int)).getD 0)
theorem cheapL_none {s : Rl05.St} (h : Rl05.cheapest s = none) : cheapL s = [] := by
  rw [cheapest_eq, Option.map_eq_none_iff, least_none, List.map_eq_nil_iff] at h
  unfold cheapL
  rw [h]
  rfl
theorem cheapL_some {s : Rl05.St} {c : Nat} {gs : List (List Nat)} (h : Rl05.cheapest s = some (c, gs)) : cheapL s = gs ∧ gs ≠ [] ∧ ∀ g ∈ gs, Rl05.cost s g = c := by
  rw [cheapest_eq, Option.map_eq_some_iff] at h
  obtain ⟨c', hc, e⟩ := h
  cases e
  unfold cheapL
  rw [hc]
  obtain ⟨h1, h2⟩ := least_some.mp hc
  obtain ⟨g, hg, he⟩ := List.mem_map.mp h1
  refine ⟨?_, ?_, fun g hg => ?_⟩
  · refine List.filter_congr fun g _ => ?_
    show decide ((Rl05.cost s g : Int) = (c : Int)) = (Rl05.cost s g == c)
    by_cases q : Rl05.cost s g = c
    · rw [q]; simp
    · rw [decide_eq_false (by omega), beq_eq_false_iff_ne.mpr q]
  · intro q
    have : g ∈ (Rl05.may s).filter fun g => Rl05.cost s g == c := List.mem_filter.mpr ⟨hg, by rw [he]; exact beq_self_eq_true c⟩
    rw [q] at this
    cases this
  · exact eq_of_beq (List.mem_filter.mp hg).2
theorem mem_cheapL {s : Rl05.St} {g : List Nat} (h : g ∈ cheapL s) : g.length = s.n := (mem_may.mp (List.mem_filter.mp h).1).1.1
theorem may_len {s : Rl05.St} (h : s.n ≤ 7) : (Rl05.may s).length ≤ 877 := Nat.le_trans (List.length_filter_le _ _) (all_len h)
def spCheapest (C : Addr) : Sp := fun vs H Q _ => ∃ (p : Addr) (s : Rl05.St), vs = [.ref p] ∧ DeskAt C H p s ∧ ∀ (H' : Hp) (r : Addr), Ex H H' → Rows H' r gO (cheapL s) → Q (.ref r) H'
theorem no_keeps {s : Rl05.St} {pa pr co ru : Addr} : (deskF s pa pr co ru).lookup ("keeps" : Str) = none := df_no (by decide +kernel) (by decide +kernel) (by decide +kernel) (by decide +kernel) (by decide +kernel)
theorem no_costOf {s : Rl05.St} {pa pr co ru : Addr} : (deskF s pa pr co ru).lookup ("cost_of" : Str) = none := df_no (by decide +kernel) (by decide +kernel) (by decide +kernel) (by decide +kernel) (by decide +kernel)
theorem rows_filter {α : Type} {H H' : Hp} {p r : Addr} {f : α → HO} {ts : List (Addr × α)} {G : α → Bool} (R : RowsBy H p f ts) (e : Ex H H') (hr : H r = none) (h : H' r = some (.lst ((ts.filter fun t => G t.2).map fun t => V.ref t.1))) : RowsBy H' r f (ts.filter fun t => G t.2) :=
  ⟨h, fun t ht => by
    have := R.at_ t (List.mem_filter.mp ht).1
    exact ⟨e _ _ this.1, fun q => by rw [← q, this.1] at hr; cases hr⟩⟩
section
variable {P : Program} {w : World} {K : PySem.W.Frag} {mg : Str → Option Value} {base : Heap} {C : Addr}
def spAllKeep (C : Addr) : Sp := fun vs H Q _ => ∃ (p : Addr) (s : Rl05.St), vs = [.ref p] ∧ DeskAt C H p s ∧ ∀ (H' : Hp) (r : Addr), Ex H H' → Rows H' r gO (Rl05.may s) → Q (.ref r) H'
theorem no_allKeep {s : Rl05.St} {pa pr co ru : Addr} : (deskF s pa pr co ru).lookup ("all_that_keep" : Str) = none := df_no (by decide +kernel) (by decide +kernel) (by decide +kernel) (by decide +kernel) (by decide +kernel)
theorem scAllKeep : FnScope ["self", "groups"] ["self"] (defScope sAllKeep) := ⟨rfl, rfl, rfl, by decide +kernel, rfl, by decide +kernel, by decide +kernel⟩
theorem ok_allKeep {f fG fK : Addr} {fd fdG fdK : FuncData} (F : Fun K "all_that_keep" "Desk.all_that_keep" sAllKeep f fd) (T : Txt K mg C)
    (GG : FnOk P w K mg base CX0 1 fG fdG ["size"] spAllGroups) (gG : mg "all_groups" = some (.ref fG)) (kG : PySem.W.keepIn K (.ref fG) = true) (bG : Binds K fdG ["size"] [])
    (GK : FnOk P w K mg base CX0 2 fK fdK ["self", "groups"] (spKeeps K C)) (mK : Meth K C "keeps" fK) (bK : Binds K fdK ["self", "groups"] []) :
    FnOk P w K mg base CX0 3 f fd ["self"] (spAllKeep C) := by
  refine F.ok scAllKeep (fun vs H Q E h => ?_) (fun cdv A outer s0 H vs Q E hr h => ?_)
  · obtain ⟨p, s, rfl, _⟩ := h
    rfl
  · obtain ⟨p, s, rfl, ⟨dx, pa, pr, co, ru, D⟩, k⟩ := h
    have hr1 : Room 1 _ := hr.mono (by decide)
    refine ⟨_, pss_one (ps_ret (pe_lc (own := [("groups", 1)]) (g := gName 1) (tt := tB (tMeth C "keeps" (spKeeps K C) [] E0 (tVar 0) (tCons (tVar 1) tNil))) (te := tVar 1) rfl scAllKeep.nd
        (pi_list (pe_call GG hr1 rfl gG kG bG .nil pass0 (pa_cons (pe_fld (pv 0) rfl) pa_nil))) (blkOk_by (own := [("groups", 1)]) (N := ["self", "groups"]) (sc := defScope sAllKeep) (by decide +kernel))
        (fun _ _ _ _ _ => pg_name (i := 1) scAllKeep.nd rfl (Or.inl rfl)) (fun _ _ _ _ _ => ?t1) (fun _ _ _ _ _ => pv 1))), ?_⟩
    case t1 => exact pts_one (pt_val (pe_meth (pv 0) T.cl mK GK hr bK .nil pass0 (pa_cons (pv 1) pa_nil)))
    refine ⟨_, rfl, p, C, dx, _, _, rfl, D.ins, T.cl, T.nSize, df_size, s.n, rfl, D.hi, fun H1 q0 e1 ⟨ts, R, er⟩ => ?_⟩
    have D1 := D.mono e1
    have hts : ts.length ≤ 877 := by
      have := congrArg List.length er
      rw [List.length_map] at this
      have := all_len D.hi
      omega
    have hgl : ∀ t ∈ ts, t.2.length = s.n := fun t ht => (mem_all.mp (by rw [← er]; exact List.mem_map_of_mem ht)).1
    refine lc_go (K := K) (σ := [some (.ref p), none]) (j := 1) (vs := [1]) (t := tB (tMeth C "keeps" (spKeeps K C) [] E0 (tVar 0) (tCons (tVar 1) tNil))) (te := tVar 1) (ts := ts) (fun t : Addr × List Nat => V.ref t.1) (fun t => Rl05.keeps s t.2) (fun t => V.ref t.1)
      (SqL.of R.lst) (by omega) (fun x => rfl) (fun t ht => et_B (ev_meth (ev_var rfl) D1.ins no_keeps (ea_cons (ev_var rfl) ea_nil) (sv_keeps ⟨_, _, _, _, _, D1⟩ (SqL.of (R.at_ t ht).1) (hgl t ht)))) (fun t ht _ => ev_var rfl) (fun q1 H2 hq1 e2 hl1 => ?_)
    have R2 : RowsBy H2 q1 gO (ts.filter fun t => Rl05.keeps s t.2) := rows_filter (G := Rl05.keeps s) R e2 hq1 hl1
    have em : (ts.filter fun t => Rl05.keeps s t.2).map (·.2) = Rl05.may s := by
      unfold Rl05.may
      rw [← er, List.filter_map]
      rfl
    exact k H2 q1 (e1.trans e2) ⟨_, R2, em⟩
theorem scCheapest : FnScope ["self", "kept", "costs", "lowest", "groups", "cost"] ["self"] (defScope sCheapest) := ⟨rfl, rfl, rfl, by decide +kernel, rfl, by decide +kernel, by decide +kernel⟩
theorem ok_cheapest {f fA fO : Addr} {fd fdA fdO : FuncData} (F : Fun K "cheapest" "Desk.cheapest" sCheapest f fd) (T : Txt K mg C)
    (GA : FnOk P w K mg base CX0 3 fA fdA ["self"] (spAllKeep C)) (mA : Meth K C "all_that_keep" fA) (bA : Binds K fdA ["self"] [])
    (GO : FnOk P w K mg base CX0 2 fO fdO ["self", "groups"] (spCostOf K C)) (mO : Meth K C "cost_of" fO) (bO : Binds K fdO ["self", "groups"] []) :
    FnOk P w K mg base CX0 4 f fd ["self"] (spCheapest C) := by
  refine F.ok scCheapest (fun vs H Q E h => ?_) (fun cdv A outer s0 H vs Q E hr h => ?_)
  · obtain ⟨p, s, rfl, _⟩ := h
    rfl
  · obtain ⟨p, s, rfl, ⟨dx, pa, pr, co, ru, D⟩, k⟩ := h
    have hr2 : Room 2 _ := hr.mono (by decide)
    refine ⟨_, pss_cons (ps_set (i := 1) scCheapest.nd rfl (.inl rfl) (pe_meth0 (pv 0) T.cl mA GA hr bA .nil pass0))
      (pss_cons (ps_setLc (i := 2) (own := [("groups", 4)]) (g := gName 4) (tt := tYes) (te := tMeth C "cost_of" (spCostOf K C) [] E0 (tVar 0) (tCons (tVar 4) tNil)) rfl scCheapest.nd rfl rfl (sw_true rfl rfl rfl (by decide +kernel))
        (pi_list (pv 1)) (blkOk_by (own := [("groups", 4)]) (N := ["self", "kept", "costs", "lowest", "groups", "cost"]) (sc := defScope sCheapest) (by decide +kernel))
        (fun _ _ _ _ _ => pg_name (i := 4) scCheapest.nd rfl (Or.inl rfl)) (fun _ _ _ _ _ => pts_nil) (fun _ _ _ _ _ => ?e2))
      (pss_cons (ps_set (i := 3) scCheapest.nd rfl (.inr rfl) (pe_callBK (cr_minDf rfl (hu_of hr)) (by rfl) T.gMin (by decide +kernel) (pa_cons (pv 2) pa_nil) (pk_cons pe_int pk_nil)))
      (pss_one (ps_ret (pe_lc (own := [("groups", 4), ("cost", 5)]) (g := gTup K 2 (gCons (gName 4) (gCons (gName 5) gNil))) (tt := tTest (tOp rEq (tVar 5) (tVar 3))) (te := tVar 4) rfl scCheapest.nd
        (pi_zip (by rfl) T.gZip (pa_cons (pv 1) (pa_cons (pv 2) pa_nil))) (blkOk_by (own := [("groups", 4), ("cost", 5)]) (N := ["self", "kept", "costs", "lowest", "groups", "cost"]) (sc := defScope sCheapest) (by decide +kernel))
        (fun _ _ _ _ _ => ?g3) (fun _ _ _ _ _ => ?t3) (fun _ _ _ _ _ => pv 4)))))), ?_⟩
    case e2 => exact pe_meth (pv 0) T.cl mO GO hr2 bO .nil pass0 (pa_cons (pv 4) pa_nil)
    case g3 => exact pg_tup rfl (pgs_cons (pg_name (i := 4) scCheapest.nd rfl (Or.inl rfl)) (pgs_cons (pg_name (i := 5) scCheapest.nd rfl (Or.inl rfl)) pgs_nil))
    case t3 => exact pts_one (pt_cmpR op_eq (pv 5) (pv 3) (nomark _))
    -- kept = ..
    refine ⟨_, rfl, p, dx, _, rfl, D.ins, no_allKeep, p, s, rfl, ⟨_, _, _, _, _, D⟩, fun H2 q1 e2 ⟨us, R2, em⟩ => ?_⟩
    have D2 := D.mono e2
    have hus : us.length ≤ 877 := by
      have := congrArg List.length em
      rw [List.length_map] at this
      have := may_len D.hi
      omega
    have hul : ∀ t ∈ us, t.2.length = s.n := fun t ht => (mem_may.mp (by rw [← em]; exact List.mem_map_of_mem ht)).1.1
    -- costs = ..
    refine q_asgL (el_comp (K := K) (σ := [some (.ref p), some (.ref q1), none, none, none, none]) (j := 4) (vs := [4]) (t := tYes) (te := tMeth C "cost_of" (spCostOf K C) [] E0 (tVar 0) (tCons (tVar 4) tNil)) (ts := us) (fun t : Addr × List Nat => V.ref t.1) (fun _ => true) (fun t => V.int (Rl05.cost s t.2 : Int))
      (ev_var rfl) (SqL.of R2.lst) (by omega) (fun x => rfl) (fun t ht => et_yes) (fun t ht _ => ev_meth (ev_var rfl) D2.ins no_costOf (ea_cons (ev_var rfl) ea_nil) (sv_costOf ⟨_, _, _, _, _, D2⟩ (SqL.of (R2.at_ t ht).1) (hul t ht)))) (fun q2 H3 hq2 e3 hl2 => ?_)
    rw [List.filter_eq_self.mpr (fun _ _ => rfl)] at hl2
    have hl2' : H3 q2 = some (.lst (iv ((Rl05.may s).map (Rl05.cost s)))) := by
      rw [hl2, ← em]
      unfold iv
      rw [List.map_map, List.map_map]
      rfl
    -- lowest = ..
    refine q_asg (ev_minD (K := K) (ns := (Rl05.may s).map (Rl05.cost s)) rfl (SqL.of hl2') ev_c) (fun H4 e4 => ?_)
    -- return ..
    refine s_retL (el_zipc (K := K) (σ := [some (.ref p), some (.ref q1), some (.ref q2), some (.int (((Rl05.least? ((Rl05.may s).map (Rl05.cost s))).map fun (n : Nat) => (n : Int)).getD 0)), none, none]) (j := 4) (k := 5) (vs := [4, 5]) (ts := us) (t := tTest (tOp rEq (tVar 5) (tVar 3))) (te := tVar 4)
      (fun t : Addr × List Nat => V.ref t.1) (fun t => V.int (Rl05.cost s t.2 : Int)) (fun t => decide ((Rl05.cost s t.2 : Int) = ((Rl05.least? ((Rl05.may s).map (Rl05.cost s))).map fun (n : Nat) => (n : Int)).getD 0)) (fun t => V.ref t.1)
      (ea_cons (ev_var rfl) (ea_cons (ev_var rfl) ea_nil)) (SqL.of (e4 _ _ (e3 _ _ R2.lst))) (SqL.of (e4 _ _ hl2)) (by omega) (fun x y => rfl) (fun t ht => et_eqI (ev_var rfl) (ev_var rfl)) (fun t ht _ => ev_var rfl)) (fun q3 H5 hq3 e5 hl3 => ?_)
    refine k H5 q3 (((e2.trans e3).trans e4).trans e5) ⟨_, rows_filter (G := fun g => decide ((Rl05.cost s g : Int) = ((Rl05.least? ((Rl05.may s).map (Rl05.cost s))).map fun (n : Nat) => (n : Int)).getD 0)) (R2.mono (e3.trans e4)) e5 hq3 hl3, ?_⟩
    unfold cheapL
    rw [← em, List.filter_map]
    rfl
end
end Lp

namespace Lp
open PySem PySem.Spec PyProof.Rows L2 Evl
/-- all but p stands as it did -/
def But (p : Addr) (H H' : Hp) : Prop := ∀ b o, H b = some o → b ≠ p → H' b = some o
section
variable {p q : Addr} {H H' H2 : Hp} {o : HO}
theorem But.refl : But p H H := fun _ _ h _ => h
theorem But.ex (h : But p H H') (e : Ex H' H2) : But p H H2 := fun b u hb n => e _ _ (h b u hb n)
theorem But.here (h : But p H H') : But p H (upd H' p o) := fun b u hb n => by rw [upd_ne n]; exact h b u hb n
theorem But.new (h : But p H H') (hq : H q = none) : But p H (upd H' q o) := fun b u hb n => by rw [upd_ne (ne_of_none hb hq)]; exact h b u hb n
theorem But.trans (h : But p H H') (h2 : But p H' H2) : But p H H2 := fun b u hb n => h2 _ _ (h b u hb n) n
theorem But.free (h : But p H H') (hq : H' q = none) (n : q ≠ p) : H q = none := by
  cases e : H q with
  | none => rfl
  | some u =>
    rw [h q u e n] at hq
    cases hq
theorem Ex.but (e : Ex H H') : But p H H' := fun b u hb _ => e _ _ hb
end
theorem put_at {f : Str} {v x : V} {r : List (Str × V)} : putF f v ((f, x) :: r) = (f, v) :: r := if_pos rfl
theorem put_on {f g : Str} {v x : V} {r : List (Str × V)} (h : ¬ g = f) : putF f v ((g, x) :: r) = (g, x) :: putF f v r := if_neg h
def dL (a b c d e : V) : List (Str × V) := [("size", a), ("pairs", b), ("pro", c), ("contra", d), ("rules", e)]
section
variable {a b c d e v : V}
theorem dL1 : putF "size" v (dL a b c d e) = dL v b c d e := put_at
theorem dL2 : putF "pairs" v (dL a b c d e) = dL a v c d e := by
  unfold dL
  rw [put_on (by decide +kernel), put_at]
theorem dL3 : putF "pro" v (dL a b c d e) = dL a b v d e := by
  unfold dL
  rw [put_on (by decide +kernel), put_on (by decide +kernel), put_at]
theorem dL4 : putF "contra" v (dL a b c d e) = dL a b c v e := by
  unfold dL
  rw [put_on (by decide +kernel), put_on (by decide +kernel), put_on (by decide +kernel), put_at]
theorem dL5 : putF "rules" v (dL a b c d e) = dL a b c d v := by
  unfold dL
  rw [put_on (by decide +kernel), put_on (by decide +kernel), put_on (by decide +kernel), put_on (by decide +kernel), put_at]
end
/-- the five fields, set one after another -/
theorem fields_set {fs : List (Str × V)} (h : fs = [] ∨ ∃ s pa pr co ru, fs = deskF s pa pr co ru) (n : Nat) (pa pr co ru : Addr) :
    putF "rules" (.ref ru) (putF "contra" (.ref co) (putF "pro" (.ref pr) (putF "pairs" (.ref pa) (putF "size" (.int (n : Int)) fs)))) = deskF ⟨n, []⟩ pa pr co ru := by
  rcases h with rfl | ⟨s, pa', pr', co', ru', rfl⟩
  · unfold deskF
    show putF "rules" (.ref ru) (putF "contra" (.ref co) (putF "pro" (.ref pr) (putF "pairs" (.ref pa) [("size", .int (n : Int))]))) = _
    rw [put_on (by decide +kernel)]
    show putF "rules" (.ref ru) (putF "contra" (.ref co) (putF "pro" (.ref pr) [("size", .int (n : Int)), ("pairs", .ref pa)])) = _
    rw [put_on (by decide +kernel), put_on (by decide +kernel)]
    show putF "rules" (.ref ru) (putF "contra" (.ref co) [("size", .int (n : Int)), ("pairs", .ref pa), ("pro", .ref pr)]) = _
    rw [put_on (by decide +kernel), put_on (by decide +kernel), put_on (by decide +kernel)]
    show putF "rules" (.ref ru) [("size", .int (n : Int)), ("pairs", .ref pa), ("pro", .ref pr), ("contra", .ref co)] = _
    rw [put_on (by decide +kernel), put_on (by decide +kernel), put_on (by decide +kernel), put_on (by decide +kernel)]
    rfl
  · show putF "rules" (.ref ru) (putF "contra" (.ref co) (putF "pro" (.ref pr) (putF "pairs" (.ref pa) (putF "size" (.int (n : Int)) (dL _ _ _ _ _))))) = dL _ _ _ _ _
    rw [dL1, dL2, dL3, dL4, dL5]
theorem putF_len (f : Str) (v : V) : ∀ fs : List (Str × V), (putF f v fs).length ≤ fs.length + 1
  | [] => Nat.le_refl _
  | (g, x) :: r => by
    unfold putF
    split
    · exact Nat.le_succ _
    · have := putF_len f v r
      rw [List.length_cons, List.length_cons]
      omega
theorem rowsP_upd {H : Hp} {pa p : Addr} {o o' : HO} {xs : List (Nat × Nat)} (R : Rows H pa pO xs) (hp : H p = some o) (ht : ∀ l, o ≠ .tup l) (hl : ∀ l, o ≠ .lst l) : Rows (upd H p o') pa pO xs := by
  obtain ⟨ts, R, er⟩ := R
  refine ⟨ts, ⟨?_, fun t h => ⟨?_, (R.at_ t h).2⟩⟩, er⟩
  · have h0 := R.lst
    rw [upd_ne (fun q => by rw [q, hp] at h0; exact hl _ (Option.some.inj h0))]
    exact h0
  · have := (R.at_ t h).1
    rw [upd_ne (fun q => by rw [q, hp] at this; exact ht _ (Option.some.inj this))]
    exact this
theorem pairsN_nodup (n : Nat) : (pairsN n).Nodup := pairsN_eq ⟨n, []⟩ ▸ pairs_nodup ⟨n, []⟩
theorem not_in_take {l : List (Nat × Nat)} (hn : l.Nodup) {i : Nat} {q : Nat × Nat} (h : l[i]? = some q) : q ∉ l.take i := by
  intro m
  obtain ⟨j, hj, e⟩ := List.mem_take_iff_getElem.mp m
  obtain ⟨hi, e2⟩ := List.getElem?_eq_some_iff.mp h
  have := (List.getElem_inj hn).mp (e.trans e2.symm)
  omega
def spBegin (C : Addr) : Sp := fun vs H Q _ => ∃ (p dx : Addr) (fs : List (Str × V)) (n : Nat), vs = [.ref p, .int (n : Int)] ∧ H p = some (.ins C dx fs) ∧ (fs = [] ∨ ∃ s pa pr co ru, fs = deskF s pa pr co ru) ∧ 2 ≤ n ∧ n ≤ 7 ∧
  ∀ (H' : Hp) (pa pr co ru : Addr), DeskBy C H' p ⟨n, []⟩ dx pa pr co ru → H pa = none → H pr = none → H co = none → H ru = none → But p H H' → Q .non H'
theorem voteOf_new (n i j : Nat) : (Rl05.voteOf ⟨n, []⟩ i j).pro = 0 ∧ (Rl05.voteOf ⟨n, []⟩ i j).con = 0 ∧ (Rl05.voteOf ⟨n, []⟩ i j).rule = 0 := ⟨rfl, rfl, rfl⟩
theorem tab_put_new {l : List (Nat × Nat)} {q : Nat × Nat} (h : q ∉ l) (f : Nat × Nat → Nat) : putK (tab l f) (pk q) (V.int (f q : Int)) = tab (l ++ [q]) f := by
  rw [putK_new _ (tab_none h)]
  unfold tab
  rw [List.map_append]
  rfl
section
variable {P : Program} {w : World} {K : PySem.W.Frag} {mg : Str → Option Value} {base : Heap} {C : Addr}
theorem scBegin : FnScope ["self", "size", "pair"] ["self", "size"] (defScope sBegin) := ⟨rfl, rfl, rfl, by decide +kernel, rfl, by decide +kernel, by decide +kernel⟩
theorem ok_begin {f fP : Addr} {fd fdP : FuncData} (F : Fun K "begin" "Desk.begin" sBegin f fd) (T : Txt K mg C)
    (GP : FnOk P w K mg base CX0 1 fP fdP ["size"] spAllPairs) (gP : mg "all_pairs" = some (.ref fP)) (kP : PySem.W.keepIn K (.ref fP) = true) (bP : Binds K fdP ["size"] []) :
    FnOk P w K mg base CX0 2 f fd ["self", "size"] (spBegin C) := by
  refine F.ok scBegin (fun vs H Q E h => ?_) (fun cdv A outer s0 H vs Q E hr h => ?_)
  · obtain ⟨p, dx, fs, n, rfl, _⟩ := h
    rfl
  · obtain ⟨p, dx, fs, n, rfl, hp, hfs, hlo, hhi, k⟩ := h
    obtain ⟨t1, gF⟩ := T.gFREE
    refine ⟨_, pss_cons (ps_fld (pv 0) (pv 1) rfl)
      (pss_cons (ps_fld (pv 0) (pe_call GP hr rfl gP kP bP .nil pass0 (pa_cons (pv 1) pa_nil)) rfl)
      (pss_cons (ps_fld (pv 0) pe_dnewT rfl)
      (pss_cons (ps_fld (pv 0) pe_dnewT rfl)
      (pss_cons (ps_fld (pv 0) pe_dnewT rfl)
      (pss_one (ps_for PassesOwn.never rfl (pi_list (pe_fld (pv 0) rfl)) (pg_name (i := 2) scBegin.nd rfl (.inl rfl))
        (pss_cons (ps_dput (hu_of hr) (pe_fld (pv 0) rfl) (pv 2) pe_int rfl)
        (pss_cons (ps_dput (hu_of hr) (pe_fld (pv 0) rfl) (pv 2) pe_int rfl)
        (pss_one (ps_dput (hu_of hr) (pe_fld (pv 0) rfl) (pv 2) (pe_glob (v := .int 0) rfl gF ⟨_, rfl⟩) rfl)))))))))), ?_⟩
    have hfl : fs.length ≤ 5 := by
      rcases hfs with rfl | ⟨s, pa, pr, co, ru, rfl⟩
      · exact Nat.zero_le _
      · exact Nat.le_refl _
    have l1 := putF_len "size" (.int (n : Int)) fs
    -- self.size = size
    refine ⟨_, rfl, _, rfl, p, C, dx, fs, rfl, hp, T.cl, T.nSize, by omega, ?_⟩
    -- self.pairs = all_pairs(size)
    refine ⟨_, rfl, n, rfl, hhi, fun H2 pa e2 hpa R2 => ⟨_, rfl, p, C, dx, _, rfl, e2 _ _ upd_same, T.cl, T.nPairs, by omega, ?_⟩⟩
    have l2 := putF_len "pairs" (.ref pa) (putF "size" (.int (n : Int)) fs)
    have pap : pa ≠ p := fun q => by rw [q, upd_same] at hpa; cases hpa
    have hpa0 : H pa = none := by rw [upd_ne pap] at hpa; exact hpa
    have b2 : But p H (upd H2 p (.ins C dx (putF "pairs" (.ref pa) (putF "size" (.int (n : Int)) fs)))) := ((But.here But.refl).ex e2).here
    have R3 : Rows (upd H2 p (.ins C dx (putF "pairs" (.ref pa) (putF "size" (.int (n : Int)) fs)))) pa pO (pairsN n) := by
      obtain ⟨ts, R, er⟩ := R2
      refine ⟨ts, ⟨by rw [upd_ne pap]; exact R.lst, fun t ht => ⟨?_, (R.at_ t ht).2⟩⟩, er⟩
      have h1 := (R.at_ t ht).1
      have h2 : H2 p = some _ := e2 _ _ upd_same
      rw [upd_ne (ne_of h1 h2 (by intro z; cases z))]
      exact h1
    generalize eH3 : upd H2 p (.ins C dx (putF "pairs" (.ref pa) (putF "size" (.int (n : Int)) fs))) = H3 at b2 R3
    have p3 : H3 p = some (.ins C dx (putF "pairs" (.ref pa) (putF "size" (.int (n : Int)) fs))) := by rw [← eH3]; exact upd_same
    -- self.pro = {}
    refine fun pr hpr => ⟨_, rfl, p, C, dx, _, rfl, Ex.new hpr _ _ p3, T.cl, T.nPro, by omega, ?_⟩
    have l3 := putF_len "pro" (.ref pr) (putF "pairs" (.ref pa) (putF "size" (.int (n : Int)) fs))
    have prp : pr ≠ p := fun q => by rw [q, p3] at hpr; cases hpr
    refine fun co hco => ⟨_, rfl, p, C, dx, _, rfl, Ex.new hco _ _ upd_same, T.cl, T.nCon, by omega, ?_⟩
    have l4 := putF_len "contra" (.ref co) (putF "pro" (.ref pr) (putF "pairs" (.ref pa) (putF "size" (.int (n : Int)) fs)))
    have cop : co ≠ p := fun q => by rw [q, upd_same] at hco; cases hco
    have cor : co ≠ pr := fun q => by rw [q, upd_ne prp, upd_same] at hco; cases hco
    refine fun ru hru => ⟨_, rfl, p, C, dx, _, rfl, Ex.new hru _ _ upd_same, T.cl, T.nRules, by omega, ?_⟩
    have rup : ru ≠ p := fun q => by rw [q, upd_same] at hru; cases hru
    have ruc : ru ≠ co := fun q => by rw [q, upd_ne cop, upd_same] at hru; cases hru
    have rur : ru ≠ pr := fun q => by rw [q, upd_ne prp, upd_ne cor.symm, upd_ne prp, upd_same] at hru; cases hru
    rw [fields_set hfs]
    have hpr3 : H3 pr = none := hpr
    have hco3 : H3 co = none := by rw [upd_ne cop, upd_ne cor] at hco; exact hco
    have hru3 : H3 ru = none := by rw [upd_ne rup, upd_ne ruc, upd_ne rup, upd_ne rur] at hru; exact hru
    have f0 : But p H H3 := b2
    have g1 := f0.free hpr3 prp
    have g2 := f0.free hco3 cop
    have g3 := f0.free hru3 rup
    have R6 := rowsP_upd (o' := .ins C dx (deskF ⟨n, []⟩ pa pr co ru)) ((rowsP_upd (o' := .ins C dx (putF "contra" (.ref co) (putF "pro" (.ref pr) (putF "pairs" (.ref pa) (putF "size" (.int (n : Int)) fs))))) ((rowsP_upd (o' := .ins C dx (putF "pro" (.ref pr) (putF "pairs" (.ref pa) (putF "size" (.int (n : Int)) fs)))) (R3.mono (Ex.new (o := .dT []) hpr)) (Ex.new hpr _ _ p3) (by intro l z; cases z) (by intro l z; cases z)).mono (Ex.new (o := .dT []) hco)) (Ex.new hco _ _ upd_same) (by intro l z; cases z) (by intro l z; cases z)).mono (Ex.new (o := .dT []) hru)) (Ex.new hru _ _ upd_same) (by intro l z; cases z) (by intro l z; cases z)
    have b6 : But p H (upd (upd (upd (upd (upd (upd H3 pr (.dT [])) p (.ins C dx (putF "pro" (.ref pr) (putF "pairs" (.ref pa) (putF "size" (.int (n : Int)) fs))))) co (.dT [])) p (.ins C dx (putF "contra" (.ref co) (putF "pro" (.ref pr) (putF "pairs" (.ref pa) (putF "size" (.int (n : Int)) fs)))))) ru (.dT [])) p (.ins C dx (deskF ⟨n, []⟩ pa pr co ru))) :=
      ((((b2.new g1).here.new g2).here).new g3).here
    have c1 : (upd (upd (upd (upd (upd (upd H3 pr (.dT [])) p (.ins C dx (putF "pro" (.ref pr) (putF "pairs" (.ref pa) (putF "size" (.int (n : Int)) fs))))) co (.dT [])) p (.ins C dx (putF "contra" (.ref co) (putF "pro" (.ref pr) (putF "pairs" (.ref pa) (putF "size" (.int (n : Int)) fs)))))) ru (.dT [])) p (.ins C dx (deskF ⟨n, []⟩ pa pr co ru))) pr = some (.dT []) := by
      rw [upd_ne prp, upd_ne rur.symm, upd_ne prp, upd_ne cor.symm, upd_ne prp, upd_same]
    have c2 : (upd (upd (upd (upd (upd (upd H3 pr (.dT [])) p (.ins C dx (putF "pro" (.ref pr) (putF "pairs" (.ref pa) (putF "size" (.int (n : Int)) fs))))) co (.dT [])) p (.ins C dx (putF "contra" (.ref co) (putF "pro" (.ref pr) (putF "pairs" (.ref pa) (putF "size" (.int (n : Int)) fs)))))) ru (.dT [])) p (.ins C dx (deskF ⟨n, []⟩ pa pr co ru))) co = some (.dT []) := by
      rw [upd_ne cop, upd_ne ruc.symm, upd_ne cop, upd_same]
    have c3 : (upd (upd (upd (upd (upd (upd H3 pr (.dT [])) p (.ins C dx (putF "pro" (.ref pr) (putF "pairs" (.ref pa) (putF "size" (.int (n : Int)) fs))))) co (.dT [])) p (.ins C dx (putF "contra" (.ref co) (putF "pro" (.ref pr) (putF "pairs" (.ref pa) (putF "size" (.int (n : Int)) fs)))))) ru (.dT [])) p (.ins C dx (deskF ⟨n, []⟩ pa pr co ru))) ru = some (.dT []) := by
      rw [upd_ne rup, upd_same]
    have c0 : (upd (upd (upd (upd (upd (upd H3 pr (.dT [])) p (.ins C dx (putF "pro" (.ref pr) (putF "pairs" (.ref pa) (putF "size" (.int (n : Int)) fs))))) co (.dT [])) p (.ins C dx (putF "contra" (.ref co) (putF "pro" (.ref pr) (putF "pairs" (.ref pa) (putF "size" (.int (n : Int)) fs)))))) ru (.dT [])) p (.ins C dx (deskF ⟨n, []⟩ pa pr co ru))) p = some (.ins C dx (deskF ⟨n, []⟩ pa pr co ru)) := upd_same
    generalize (upd (upd (upd (upd (upd (upd H3 pr (.dT [])) p (.ins C dx (putF "pro" (.ref pr) (putF "pairs" (.ref pa) (putF "size" (.int (n : Int)) fs))))) co (.dT [])) p (.ins C dx (putF "contra" (.ref co) (putF "pro" (.ref pr) (putF "pairs" (.ref pa) (putF "size" (.int (n : Int)) fs)))))) ru (.dT [])) p (.ins C dx (deskF ⟨n, []⟩ pa pr co ru))) = H6 at R6 b6 c0 c1 c2 c3
    obtain ⟨ts, R, er⟩ := R6
    refine ⟨_, rfl, p, C, dx, _, _, rfl, c0, T.cl, T.nPairs, df_pairs, pa, rfl, ⟨_, SqL.of R.lst⟩, for_list (K := K) (a := pa) (xs := ts.map fun t => V.ref t.1)
      (fun i σ H' => ∃ v : Option V, σ = [some (.ref p), some (.int (n : Int)), v] ∧ But p H H' ∧ H' p = some (.ins C dx (deskF ⟨n, []⟩ pa pr co ru)) ∧ RowsBy H' pa pO ts ∧
        H' pr = some (.dT (tab ((pairsN n).take i) fun _ => 0)) ∧ H' co = some (.dT (tab ((pairsN n).take i) fun _ => 0)) ∧ H' ru = some (.dT (tab ((pairsN n).take i) fun _ => 0)))
      ⟨none, rfl, b6, c0, R, c1, c2, c3⟩ (fun i σ H' _ ⟨_, _, _, _, r, _⟩ => SqL.of r.lst) ?_ ?_⟩
    · rintro i y σ H7 hi ⟨v, rfl, b7, d0, R7, d1, d2, d3⟩
      obtain ⟨⟨b, q⟩, ht, rfl⟩ : ∃ t, ts[i]? = some t ∧ V.ref t.1 = y := by
        rw [List.getElem?_map, Option.map_eq_some_iff] at hi
        exact hi
      have hq : (pairsN n)[i]? = some q := by rw [← er, List.getElem?_map, ht]; rfl
      have hnt : q ∉ (pairsN n).take i := not_in_take (pairsN_nodup n) hq
      have hb : H7 b = some (pO q) := (R7.at_ _ (List.mem_of_getElem? ht)).1
      have hlen : ∀ f, (tab ((pairsN n).take i) f).length < sizeLine := fun f => by
        unfold tab
        rw [List.length_map, List.length_take]
        have := pairsN_len hhi
        exact Nat.lt_of_le_of_lt (Nat.min_le_right _ _) (Nat.lt_of_le_of_lt this (by decide))
      have nbp : b ≠ pr := ne_of hb d1 (by intro z; cases z)
      have nbc : b ≠ co := ne_of hb d2 (by intro z; cases z)
      have npp : p ≠ pr := prp.symm
      have npc : p ≠ co := cop.symm
      -- self.pro[pair] = 0
      refine ⟨_, rfl, p, C, dx, _, _, rfl, d0, T.cl, T.nPro, df_pro, _, rfl, pr, _, rfl, DPut.t (k := pk q) d1 hb (hlen _), ?_⟩
      -- self.contra[pair] = 0
      refine ⟨_, rfl, p, C, dx, _, _, rfl, (upd_ne npp).trans d0, T.cl, T.nCon, df_con, _, rfl, co, _, rfl, DPut.t (k := pk q) ((upd_ne cor).trans d2) ((upd_ne nbp).trans hb) (hlen _), ?_⟩
      -- self.rules[pair] = FREE
      refine ⟨_, rfl, p, C, dx, _, _, rfl, (upd_ne npc).trans ((upd_ne npp).trans d0), T.cl, T.nRules, df_rule, _, rfl, ru, _, rfl, DPut.t (k := pk q) ((upd_ne ruc).trans ((upd_ne rur).trans d3)) ((upd_ne nbc).trans ((upd_ne nbp).trans hb)) (hlen _), ?_⟩
      have tp : ∀ f : Nat × Nat → Nat, f = (fun _ => 0) → putK (tab ((pairsN n).take i) f) (pk q) (V.int 0) = tab ((pairsN n).take (i + 1)) f := fun f hf => by
        rw [take_snoc' hq]
        subst hf
        exact tab_put_new hnt fun _ => 0
      rw [tp _ rfl]
      refine ⟨_, rfl, ((b7.new g1).new g2).new g3, ?_, ⟨?_, fun t h => ⟨?_, (R7.at_ t h).2⟩⟩, ?_, ?_, upd_same⟩
      · rw [upd_ne rup.symm, upd_ne npc, upd_ne npp]
        exact d0
      · rw [upd_ne (ne_of R7.lst d3 (by intro z; cases z)), upd_ne (ne_of R7.lst d2 (by intro z; cases z)), upd_ne (ne_of R7.lst d1 (by intro z; cases z))]
        exact R7.lst
      · have h1 := (R7.at_ t h).1
        rw [upd_ne (ne_of h1 d3 (by intro z; cases z)), upd_ne (ne_of h1 d2 (by intro z; cases z)), upd_ne (ne_of h1 d1 (by intro z; cases z))]
        exact h1
      · rw [upd_ne rur.symm, upd_ne cor.symm, upd_same]
      · rw [upd_ne ruc.symm, upd_same]
    · rintro σ H7 ⟨v, rfl, b7, d0, R7, d1, d2, d3⟩
      have et : (pairsN n).take (ts.map fun t => V.ref t.1).length = pairsN n := by
        rw [← er]
        exact List.take_of_length_le (by rw [List.length_map, List.length_map]; exact Nat.le_refl _)
      rw [et, ← pairsN_eq ⟨n, []⟩] at d1 d2 d3
      rw [← pairsN_eq ⟨n, []⟩] at er
      refine k H7 pa pr co ru ⟨d0, ⟨ts, R7, er⟩, d1, d2, d3, cor.symm, rur.symm, ruc.symm, hlo, hhi⟩ hpa0 g1 g2 g3 b7
end
end Lp

namespace Lp
open PySem PySem.Spec PyProof.Rows L2 Evl
abbrev sRecords : Stmt := inClass sDesk 15
abbrev sVote : Stmt := inClass sDesk 16
abbrev sRule : Stmt := inClass sDesk 17
/-- all but objects of classes and dicts by tuples stands as it did -/
def KeepS (H H' : Hp) : Prop := ∀ b o, H b = some o → (∀ C dx fs, o ≠ .ins C dx fs) → (∀ kvs, o ≠ .dT kvs) → H' b = some o
section
variable {H H' H2 : Hp}
theorem KeepS.refl : KeepS H H := fun _ _ h _ _ => h
theorem KeepS.ex (h : KeepS H H') (e : Ex H' H2) : KeepS H H2 := fun b o hb h1 h2 => e _ _ (h b o hb h1 h2)
theorem Ex.keepS (e : Ex H H') : KeepS H H' := fun b o hb _ _ => e _ _ hb
theorem KeepS.trans (h : KeepS H H') (h2 : KeepS H' H2) : KeepS H H2 := fun b o hb a c => h2 _ _ (h b o hb a c) a c
theorem But.keepS {p C dx : Addr} {fs : List (Str × V)} (h : But p H H') (hp : H p = some (.ins C dx fs)) : KeepS H H' := fun b o hb h1 _ => h b o hb fun q => by
  rw [q, hp] at hb
  exact h1 _ _ _ (Option.some.inj hb).symm
theorem KeepS.dict {d : Addr} {kvs : List (List Key × V)} {o : HO} (h : KeepS H H') (hd : H' d = some (.dT kvs)) (h0 : H d = none ∨ H d = some (.dT kvs)) : KeepS H (upd H' d o) := fun b u hb h1 h2 => by
  rw [upd_ne fun q => ?_]
  · exact h b u hb h1 h2
  · rw [q] at hb
    rcases h0 with h0 | h0
    · rw [h0] at hb; cases hb
    · rw [h0] at hb
      exact h2 _ (Option.some.inj hb).symm
theorem KeepS.seq {K : PySem.W.Frag} {a : Addr} {xs : List V} (h : KeepS H H') (ha : SqL K H a xs) : SqL K H' a xs := by
  rcases ha with (ha | ⟨o, ha⟩) | ha
  · exact .inl (.inl (h _ _ ha (by intro _ _ _ z; cases z) (by intro _ z; cases z)))
  · exact .inl (.inr ⟨o, h _ _ ha (by intro _ _ _ z; cases z) (by intro _ z; cases z)⟩)
  · exact .inr ha
end
/-- what one of the desk's calls promises -/
def spOp (C : Addr) (args : List V → Rl05.Call → Prop) : Sp := fun vs H Q _ => ∃ (p pa : Addr) (s : Rl05.St) (as : List V) (c : Rl05.Call), vs = .ref p :: as ∧ args as c ∧ DeskP C H p s pa ∧
  ∀ (H' : Hp) (r pa' : Addr), DeskP C H' p (Rl05.step s c).1 pa' → (pa' = pa ∨ H pa' = none) → KeepS H H' → H r = none → H' r = some (.lst ((Rl05.step s c).2.map V.int)) → Q (.ref r) H'
def aRecords : List V → Rl05.Call → Prop := fun as c => ∃ n : Nat, as = [.int (n : Int)] ∧ c = .records n
def aVote : List V → Rl05.Call → Prop := fun as c => ∃ i j x y : Nat, as = [.int (i : Int), .int (j : Int), .int (x : Int), .int (y : Int)] ∧ c = .vote i j x y
def aRule : List V → Rl05.Call → Prop := fun as c => ∃ i j x : Nat, as = [.int (i : Int), .int (j : Int), .int (x : Int)] ∧ c = .rule i j x
def spIsPair (C : Addr) : Sp := fun vs H Q _ => ∃ (p b : Addr) (s : Rl05.St) (q : Nat × Nat), vs = [.ref p, .ref b] ∧ DeskAt C H p s ∧ H b = some (pO q) ∧ ∀ H', Ex H H' → Q (.bl (decide (q ∈ Rl05.pairs s))) H'
def spInit (C : Addr) : Sp := fun vs H Q _ => ∃ (p dx : Addr), vs = [.ref p] ∧ H p = some (.ins C dx []) ∧ ∀ (H' : Hp) (pa : Addr), DeskP C H' p Rl05.init pa → H pa = none → But p H H' → Q .non H'
theorem tab_put {l : List (Nat × Nat)} {f : Nat × Nat → Nat} {q : Nat × Nat} (h : q ∈ l) (x : Nat) : putK (tab l f) (pk q) (V.int (x : Int)) = tab l fun r => if r = q then x else f r := by
  unfold putK
  rw [if_pos]
  · unfold tab
    rw [List.map_map]
    refine List.map_congr_left fun r _ => ?_
    show (if pk r = pk q then (pk r, V.int (x : Int)) else (pk r, V.int (f r : Int))) = (pk r, V.int ((if r = q then x else f r : Nat) : Int))
    by_cases e : r = q
    · rw [if_pos (by rw [e]), if_pos e]
    · rw [if_neg fun z => e (pk_inj z), if_neg e]
  · rw [List.any_eq_true]
    exact ⟨_, List.mem_map_of_mem h, decide_eq_true rfl⟩
/-- what a change of one pair changes -/
theorem tab_set (s : Rl05.St) (v : Rl05.Vote) (F : Rl05.Vote → Nat) (hv : v.i < v.j) : tab (Rl05.pairs (Rl05.setVote s v)) (fun q => F (Rl05.voteOf (Rl05.setVote s v) q.1 q.2)) = tab (Rl05.pairs s) fun r => if r = (v.i, v.j) then F v else F (Rl05.voteOf s r.1 r.2) := by
  rw [pairs_n (Rl05.setVote s v) s rfl]
  unfold tab
  refine List.map_congr_left fun q hq => ?_
  have hq := mem_pairs.mp hq
  show (pk q, V.int (F (Rl05.voteOf (Rl05.setVote s v) q.1 q.2) : Int)) = (pk q, V.int ((if q = (v.i, v.j) then F v else F (Rl05.voteOf s q.1 q.2) : Nat) : Int))
  rw [voteOf_set, Nat.min_eq_left (by omega), Nat.max_eq_right (by omega)]
  by_cases e : q = (v.i, v.j)
  · rw [if_pos e, if_pos (by rw [e]; exact ⟨rfl, rfl⟩)]
  · rw [if_neg e, if_neg fun z => e (Prod.ext z.1.symm z.2.symm)]
theorem voteOf_mm (s : Rl05.St) (i j : Nat) : Rl05.voteOf s (min i j) (max i j) = Rl05.voteOf s i j := by
  unfold Rl05.voteOf
  rw [show min (min i j) (max i j) = min i j by omega, show max (min i j) (max i j) = max i j by omega]
theorem tab_congr {l : List (Nat × Nat)} {f g : Nat × Nat → Nat} (h : ∀ q ∈ l, f q = g q) : tab l f = tab l g := List.map_congr_left fun q hq => by rw [h q hq]
/-- the desk behind a change of one pair -/
theorem DeskBy.set {C : Addr} {H H' : Hp} {p : Addr} {s : Rl05.St} {dx pa pr co ru : Addr} {i j : Nat} {v : Rl05.Vote} (D : DeskBy C H p s dx pa pr co ru) (hm : (min i j, max i j) ∈ Rl05.pairs s) (hv : v.i = min i j ∧ v.j = max i j)
    (kp : ∀ b o, H b = some o → (∀ kvs, o ≠ .dT kvs) → H' b = some o)
    (h1 : H' pr = some (.dT (tab (Rl05.pairs s) fun r => if r = (min i j, max i j) then v.pro else proF s r)))
    (h2 : H' co = some (.dT (tab (Rl05.pairs s) fun r => if r = (min i j, max i j) then v.con else conF s r)))
    (h3 : H' ru = some (.dT (tab (Rl05.pairs s) fun r => if r = (min i j, max i j) then v.rule else ruleF s r))) : DeskBy C H' p (Rl05.setVote s v) dx pa pr co ru := by
  have hlt := mem_pairs.mp hm
  have hvl : v.i < v.j := by rw [hv.1, hv.2]; exact hlt.2.1
  refine ⟨kp _ _ D.ins (by intro _ z; cases z), ?_, ?_, ?_, ?_, D.d1, D.d2, D.d3, D.lo, D.hi⟩
  · obtain ⟨ts, R, er⟩ := D.pairs
    exact ⟨ts, ⟨kp _ _ R.lst (by intro _ z; cases z), fun t ht => ⟨kp _ _ (R.at_ t ht).1 (by intro _ z; cases z), (R.at_ t ht).2⟩⟩, er⟩
  · rw [h1]
    have := tab_set s v (·.pro) hvl
    rw [hv.1, hv.2] at this
    exact congrArg (fun z => some (HO.dT z)) this.symm
  · rw [h2]
    have := tab_set s v (·.con) hvl
    rw [hv.1, hv.2] at this
    exact congrArg (fun z => some (HO.dT z)) this.symm
  · rw [h3]
    have := tab_set s v (·.rule) hvl
    rw [hv.1, hv.2] at this
    exact congrArg (fun z => some (HO.dT z)) this.symm
section
variable {P : Program} {w : World} {K : PySem.W.Frag} {mg : Str → Option Value} {base : Heap} {C : Addr}
theorem scIsPair : FnScope ["self", "pair"] ["self", "pair"] (defScope sIsPair) := ⟨rfl, rfl, rfl, by decide +kernel, rfl, by decide +kernel, by decide +kernel⟩
theorem ok_isPair {f : Addr} {fd : FuncData} (F : Fun K "is_pair" "Desk.is_pair" sIsPair f fd) (T : Txt K mg C) : FnOk P w K mg base CX0 1 f fd ["self", "pair"] (spIsPair C) := by
  refine F.ok scIsPair (fun vs H Q E h => ?_) (fun cdv A outer s0 H vs Q E hr h => ?_)
  · obtain ⟨p, b, s, q, rfl, _⟩ := h
    rfl
  · obtain ⟨p, b, s, q, rfl, ⟨dx, pa, pr, co, ru, D⟩, hb, k⟩ := h
    refine ⟨_, pss_one (ps_ret (pe_cmp (pc_din (hu_of hr) (pv 1) (pe_fld (pv 0) rfl)) rfl)), ?_⟩
    refine ⟨_, rfl, _, rfl, p, C, dx, _, _, rfl, D.ins, T.cl, T.nRules, df_rule, ru, _, rfl, DGet.t (k := pk q) D.rule hb, ?_⟩
    by_cases e : q ∈ Rl05.pairs s
    · have := k H (Ex.refl H)
      rw [decide_eq_true e] at this
      rw [tab_val e]
      exact this
    · have := k H (Ex.refl H)
      rw [decide_eq_false e] at this
      rw [tab_none e]
      exact this
theorem scInit : FnScope ["self"] ["self"] (defScope sInit) := ⟨rfl, rfl, rfl, by decide +kernel, rfl, by decide +kernel, by decide +kernel⟩
theorem no_begin {s : Rl05.St} {pa pr co ru : Addr} : (deskF s pa pr co ru).lookup ("begin" : Str) = none := df_no (by decide +kernel) (by decide +kernel) (by decide +kernel) (by decide +kernel) (by decide +kernel)
theorem no_isPair {s : Rl05.St} {pa pr co ru : Addr} : (deskF s pa pr co ru).lookup ("is_pair" : Str) = none := df_no (by decide +kernel) (by decide +kernel) (by decide +kernel) (by decide +kernel) (by decide +kernel)
theorem ok_init {f fB : Addr} {fd fdB : FuncData} (F : Fun K "__init__" "Desk.__init__" sInit f fd) (T : Txt K mg C) (GB : FnOk P w K mg base CX0 2 fB fdB ["self", "size"] (spBegin C)) (mB : Meth K C "begin" fB) (bB : Binds K fdB ["self", "size"] []) :
    FnOk P w K mg base CX0 3 f fd ["self"] (spInit C) := by
  refine F.ok scInit (fun vs H Q E h => ?_) (fun cdv A outer s0 H vs Q E hr h => ?_)
  · obtain ⟨p, dx, rfl, _⟩ := h
    rfl
  · obtain ⟨p, dx, rfl, hp, k⟩ := h
    obtain ⟨t1, g1⟩ := T.gFEW
    refine ⟨_, pss_one (ps_expr (pe_meth (pv 0) T.cl mB GB hr bB .nil pass0 (pa_cons (pe_glob (v := .int 2) rfl g1 ⟨_, rfl⟩) pa_nil))), ?_⟩
    refine ⟨_, rfl, p, dx, _, rfl, hp, rfl, ?_⟩
    exact ⟨p, dx, [], 2, rfl, hp, .inl rfl, by omega, by omega, fun H' pa pr co ru D hpa _ _ _ hb => k H' pa ⟨_, pr, co, ru, D⟩ hpa hb⟩
theorem scRecords : FnScope ["self", "n"] ["self", "n"] (defScope sRecords) := ⟨rfl, rfl, rfl, by decide +kernel, rfl, by decide +kernel, by decide +kernel⟩
theorem ok_records {f fB : Addr} {fd fdB : FuncData} (F : Fun K "records" "Desk.records" sRecords f fd) (T : Txt K mg C) (GB : FnOk P w K mg base CX0 2 fB fdB ["self", "size"] (spBegin C)) (mB : Meth K C "begin" fB) (bB : Binds K fdB ["self", "size"] []) :
    FnOk P w K mg base CX0 3 f fd ["self", "n"] (spOp C aRecords) := by
  refine F.ok scRecords (fun vs H Q E h => ?_) (fun cdv A outer s0 H vs Q E hr h => ?_)
  · obtain ⟨p, pa, s, as, c, rfl, ⟨n, rfl, rfl⟩, _⟩ := h
    rfl
  · obtain ⟨p, pa, s, as, c, rfl, ⟨n, rfl, rfl⟩, ⟨dx, pr, co, ru, D⟩, k⟩ := h
    obtain ⟨t1, g1⟩ := T.gFEW
    obtain ⟨t2, g2⟩ := T.gMOST
    obtain ⟨t3, g3⟩ := T.gOUT
    refine ⟨_, pss_cons (ps_if (PW.pt (pw_or (pt_cmpR op_lt (pv 1) (pe_glob (v := .int 2) rfl g1 ⟨_, rfl⟩) (nomark _)) (pw_or1 (pt_cmpR op_gt (pv 1) (pe_glob (v := .int 7) rfl g2 ⟨_, rfl⟩) (nomark _)))))
        (pss_one (ps_ret (pe_lst (pa_cons (pe_glob (v := .int (-1)) rfl g3 ⟨_, rfl⟩) pa_nil)))) pss_nil)
      (pss_cons (ps_expr (pe_meth (pv 0) T.cl mB GB hr bB .nil pass0 (pa_cons (pv 1) pa_nil)))
      (pss_one (ps_ret (pe_lst (pa_cons pe_int pa_nil))))), ?_⟩
    refine q_when (et_or (et_cmp (ev_var rfl) ev_c rv_I0) fun _ => et_cmp (ev_var rfl) ev_c rv_I0) (fun hT H1 e1 => ?_) (fun hF H1 e1 => ?_)
    · rw [Bool.or_eq_true, decide_eq_true_eq, decide_eq_true_eq] at hT
      have es : Rl05.step s (.records n) = (s, [-1]) := by
        show (if n < 2 ∨ 7 < n then (s, [-1]) else (⟨n, []⟩, [0])) = _
        rw [if_pos (by omega)]
      rw [es] at k
      refine s_retL (el_lst (ea_cons ev_c ea_nil) (by decide)) fun r H2 hr2 e2 h2 => ?_
      exact k H2 r pa ⟨dx, pr, co, ru, D.mono (e1.trans e2)⟩ (.inl rfl) (Ex.keepS (e1.trans e2)) (fresh_back e1 hr2) h2
    · have hF' : ¬ ((n : Int) < 2) ∧ ¬ ((7 : Int) < (n : Int)) := by
        rw [Bool.or_eq_false_iff, decide_eq_false_iff_not, decide_eq_false_iff_not] at hF
        exact hF
      have es : Rl05.step s (.records n) = (⟨n, []⟩, [0]) := by
        show (if n < 2 ∨ 7 < n then (s, [-1]) else (⟨n, []⟩, [0])) = _
        rw [if_neg (by omega)]
      rw [es] at k
      have D1 := D.mono e1
      refine ⟨_, rfl, p, dx, _, rfl, D1.ins, no_begin, _, rfl, p, dx, _, n, rfl, D1.ins, .inr ⟨_, _, _, _, _, rfl⟩, by omega, by omega, fun H2 pa2 pr2 co2 ru2 D2' hpa2 _ _ _ b2 => ?_⟩
      have D2 : DeskP C H2 p ⟨n, []⟩ pa2 := ⟨dx, pr2, co2, ru2, D2'⟩
      refine s_retL (σ := [some (.ref p), some (.int (n : Int))]) (el_lst (ea_cons ev_c ea_nil) (by decide)) fun r H3 hr3 e3 h3 => ?_
      have hpp : H2 p ≠ none := by
        obtain ⟨_, _, _, _, DD⟩ := D2
        rw [DD.ins]
        exact fun z => by cases z
      exact k H3 r pa2 (D2.mono e3) (.inr (fresh_back e1 hpa2)) ((Ex.keepS e1).trans ((b2.keepS D1.ins).ex e3)) (fresh_back e1 (b2.free hr3 fun q => hpp (q ▸ hr3))) h3
theorem scVote : FnScope ["self", "i", "j", "pro", "contra", "pair"] ["self", "i", "j", "pro", "contra"] (defScope sVote) := ⟨rfl, rfl, rfl, by decide +kernel, rfl, by decide +kernel, by decide +kernel⟩
theorem min_int (i j : Nat) : (if (j : Int) < (i : Int) then (j : Int) else (i : Int)) = ((min i j : Nat) : Int) := by
  split <;> omega
theorem max_int (i j : Nat) : (if (j : Int) > (i : Int) then (j : Int) else (i : Int)) = ((max i j : Nat) : Int) := by
  split <;> omega
theorem sv_isPair {H : Hp} {p b : Addr} {s : Rl05.St} {q : Nat × Nat} (D : DeskAt C H p s) (hb : H b = some (pO q)) : SpV (spIsPair C) [.ref p, .ref b] H (.bl (decide (q ∈ Rl05.pairs s))) := fun H1 e Q q0 E =>
  ⟨p, b, s, q, rfl, D.mono e, e _ _ hb, q0⟩
theorem ev_min2 {H : Hp} {σ : L2.St} {ta tb : TE} {i j : Nat} (ha : Ev ta σ H (.int (i : Int))) (hb : Ev tb σ H (.int (j : Int))) :
    Ev (tCB (fun xs H Q => ∃ i j, xs = [V.int i, V.int j] ∧ Q (V.int (if j < i then j else i)) H) (tCons ta (tCons tb tNil))) σ H (.int ((min i j : Nat) : Int)) := fun H1 e Q q =>
  ha H1 e _ fun H2 e2 => hb H2 (e.trans e2) _ fun H3 e3 => ⟨_, _, rfl, by rw [min_int]; exact q H3 (e2.trans e3)⟩
theorem ev_max2' {H : Hp} {σ : L2.St} {ta tb : TE} {i j : Nat} (ha : Ev ta σ H (.int (i : Int))) (hb : Ev tb σ H (.int (j : Int))) :
    Ev (tCB (fun xs H Q => ∃ i j, xs = [V.int i, V.int j] ∧ Q (V.int (if j > i then j else i)) H) (tCons ta (tCons tb tNil))) σ H (.int ((max i j : Nat) : Int)) := fun H1 e Q q =>
  ha H1 e _ fun H2 e2 => hb H2 (e.trans e2) _ fun H3 e3 => ⟨_, _, rfl, by rw [max_int]; exact q H3 (e2.trans e3)⟩
theorem isPair_no {s : Rl05.St} {i j : Nat} (h : (min i j, max i j) ∉ Rl05.pairs s) : Rl05.isPair s i j = false := by
  rw [Bool.eq_false_iff]
  exact fun z => h (isPair_mem.mp z)
theorem ok_vote {f fI : Addr} {fd fdI : FuncData} (F : Fun K "vote" "Desk.vote" sVote f fd) (T : Txt K mg C) (GI : FnOk P w K mg base CX0 1 fI fdI ["self", "pair"] (spIsPair C)) (mI : Meth K C "is_pair" fI) (bI : Binds K fdI ["self", "pair"] []) :
    FnOk P w K mg base CX0 2 f fd ["self", "i", "j", "pro", "contra"] (spOp C aVote) := by
  refine F.ok scVote (fun vs H Q E h => ?_) (fun cdv A outer s0 H vs Q E hr h => ?_)
  · obtain ⟨p, pa, s, as, c, rfl, ⟨i, j, x, y, rfl, rfl⟩, _⟩ := h
    rfl
  · obtain ⟨p, pa, s, as, c, rfl, ⟨i, j, x, y, rfl, rfl⟩, ⟨dx, pr, co, ru, D⟩, k⟩ := h
    obtain ⟨t1, g1⟩ := T.gNP
    obtain ⟨t2, g2⟩ := T.gMV
    obtain ⟨t3, g3⟩ := T.gOUT
    refine ⟨_, pss_cons (ps_set (i := 5) scVote.nd rfl (.inl rfl) (pe_tup (pa_cons (pe_callB (call_min2 rfl) (by rfl) T.gMin (by decide +kernel) (pa_cons (pv 1) (pa_cons (pv 2) pa_nil))) (pa_cons (pe_callB (call_max2 rfl) (by rfl) T.gMax (by decide +kernel) (pa_cons (pv 1) (pa_cons (pv 2) pa_nil))) pa_nil))))
      (pss_cons (ps_if (pt_not (pt_val (pe_meth (pv 0) T.cl mI GI hr bI .nil pass0 (pa_cons (pv 5) pa_nil)))) (pss_one (ps_ret (pe_lst (pa_cons (pe_glob (v := .int (-3)) rfl g1 ⟨_, rfl⟩) pa_nil)))) pss_nil)
      (pss_cons (ps_if (PW.pt (pw_or (pt_cmpR op_gt (pv 3) (pe_glob (v := .int 1000) rfl g2 ⟨_, rfl⟩) (nomark _)) (pw_or1 (pt_cmpR op_gt (pv 4) (pe_glob (v := .int 1000) rfl g2 ⟨_, rfl⟩) (nomark _)))))
        (pss_one (ps_ret (pe_lst (pa_cons (pe_glob (v := .int (-1)) rfl g3 ⟨_, rfl⟩) pa_nil)))) pss_nil)
      (pss_cons (ps_dput (hu_of hr) (pe_fld (pv 0) rfl) (pv 5) (pv 3) rfl)
      (pss_cons (ps_dput (hu_of hr) (pe_fld (pv 0) rfl) (pv 5) (pv 4) rfl)
      (pss_one (ps_ret (pe_lst (pa_cons pe_int pa_nil)))))))), ?_⟩
    refine q_asgU (eu_tup (ea_cons (ev_min2 (ev_var rfl) (ev_var rfl)) (ea_cons (ev_max2' (ev_var rfl) (ev_var rfl)) ea_nil)) (by show 2 ≤ 100000; decide)) (fun t H1 ht e1 h1 => ?_)
    have h1 : H1 t = some (pO (min i j, max i j)) := h1
    have D1 := D.mono e1
    refine q_when (et_not (et_B (ev_meth (ev_var rfl) D1.ins no_isPair (ea_cons (ev_var rfl) ea_nil) (sv_isPair ⟨_, _, _, _, _, D1⟩ h1)))) (fun hT H2 e2 => ?_) (fun hF H2 e2 => ?_)
    · have hn : (min i j, max i j) ∉ Rl05.pairs s := by simpa using hT
      have es : Rl05.step s (.vote i j x y) = (s, [-3]) := if_pos (isPair_no hn)
      rw [es] at k
      refine s_retL (el_lst (ea_cons ev_c ea_nil) (by decide)) fun r H3 hr3 e3 h3 => ?_
      exact k H3 r pa ⟨dx, pr, co, ru, D1.mono (e2.trans e3)⟩ (.inl rfl) (Ex.keepS ((e1.trans e2).trans e3)) (fresh_back (e1.trans e2) hr3) h3
    · have hm : (min i j, max i j) ∈ Rl05.pairs s := by simpa using hF
      have hip : Rl05.isPair s i j = true := isPair_mem.mpr hm
      have D2 := D1.mono e2
      have h2 := e2 _ _ h1
      refine q_when (et_or (et_cmp (ev_var rfl) ev_c rv_I0) fun _ => et_cmp (ev_var rfl) ev_c rv_I0) (fun hT H3 e3 => ?_) (fun hF H3 e3 => ?_)
      · rw [Bool.or_eq_true, decide_eq_true_eq, decide_eq_true_eq] at hT
        have es : Rl05.step s (.vote i j x y) = (s, [-1]) := (if_neg (by rw [hip]; exact Bool.noConfusion)).trans (if_pos (by omega))
        rw [es] at k
        refine s_retL (el_lst (ea_cons ev_c ea_nil) (by decide)) fun r H4 hr4 e4 h4 => ?_
        exact k H4 r pa ⟨dx, pr, co, ru, D2.mono (e3.trans e4)⟩ (.inl rfl) (Ex.keepS (((e1.trans e2).trans e3).trans e4)) (fresh_back ((e1.trans e2).trans e3) hr4) h4
      · rw [Bool.or_eq_false_iff, decide_eq_false_iff_not, decide_eq_false_iff_not] at hF
        have es : Rl05.step s (.vote i j x y) = (Rl05.setVote s { Rl05.voteOf s i j with pro := x, con := y }, [0]) := (if_neg (by rw [hip]; exact Bool.noConfusion)).trans (if_neg (by omega))
        rw [es] at k
        have D3 := D2.mono e3
        have h3 := e3 _ _ h2
        have e03 := (e1.trans e2).trans e3
        have hlen : ∀ f, (tab (Rl05.pairs s) f).length < sizeLine := fun f => by
          unfold tab
          rw [List.length_map, pairsN_eq]
          exact Nat.lt_of_le_of_lt (pairsN_len D.hi) (by decide)
        have npp : p ≠ pr := ne_of D3.ins D3.pro (by intro z; cases z)
        have npc : p ≠ co := ne_of D3.ins D3.con (by intro z; cases z)
        have ntp : t ≠ pr := ne_of h3 D3.pro (by intro z; cases z)
        refine ⟨_, rfl, _, rfl, p, C, dx, _, _, rfl, D3.ins, T.cl, T.nPro, df_pro, _, rfl, pr, _, rfl, DPut.t (k := pk (min i j, max i j)) D3.pro h3 (hlen _), ?_⟩
        refine ⟨_, rfl, _, rfl, p, C, dx, _, _, rfl, (upd_ne npp).trans D3.ins, T.cl, T.nCon, df_con, _, rfl, co, _, rfl, DPut.t (k := pk (min i j, max i j)) ((upd_ne D.d1.symm).trans D3.con) ((upd_ne ntp).trans h3) (hlen _), ?_⟩
        rw [tab_put hm, tab_put hm]
        have kp : ∀ b o, H3 b = some o → (∀ kvs, o ≠ .dT kvs) → (upd (upd H3 pr (.dT (tab (Rl05.pairs s) fun r => if r = (min i j, max i j) then x else proF s r))) co (.dT (tab (Rl05.pairs s) fun r => if r = (min i j, max i j) then y else conF s r))) b = some o := fun b o hb hn => by
          rw [upd_ne (fun q => by rw [q, D3.con] at hb; exact hn _ (Option.some.inj hb).symm), upd_ne (fun q => by rw [q, D3.pro] at hb; exact hn _ (Option.some.inj hb).symm)]
          exact hb
        have D4 := D3.set (v := { Rl05.voteOf s i j with pro := x, con := y }) hm (voteOf_ij s i j) kp ((upd_ne D.d1).trans upd_same) upd_same (by
          rw [upd_ne D.d3.symm, upd_ne D.d2.symm, D3.rule]
          refine congrArg (fun z => some (HO.dT z)) (tab_congr fun q _ => ?_)
          by_cases e : q = (min i j, max i j)
          · rw [if_pos e, e]
            unfold ruleF
            rw [voteOf_mm]
          · rw [if_neg e])
        refine s_retL (σ := [some (.ref p), some (.int (i : Int)), some (.int (j : Int)), some (.int (x : Int)), some (.int (y : Int)), some (.ref t)]) (el_lst (ea_cons ev_c ea_nil) (by decide)) fun r H5 hr5 e5 h5 => ?_
        refine k H5 r pa ⟨dx, pr, co, ru, D4.mono e5⟩ (.inl rfl) ((Ex.keepS e03).trans (KeepS.ex (fun b o hb _ h2 => kp b o hb h2) e5)) ?_ h5
        cases hz : H r with
        | none => rfl
        | some o =>
          have hz3 := e03 _ _ hz
          have n1 : r ≠ co := fun q => by rw [q, upd_same] at hr5; cases hr5
          have n2 : r ≠ pr := fun q => by rw [q, upd_ne D.d1, upd_same] at hr5; cases hr5
          rw [upd_ne n1, upd_ne n2, hz3] at hr5
          cases hr5
theorem scRule : FnScope ["self", "i", "j", "rule", "pair", "before"] ["self", "i", "j", "rule"] (defScope sRule) := ⟨rfl, rfl, rfl, by decide +kernel, rfl, by decide +kernel, by decide +kernel⟩
theorem ok_rule {f fI : Addr} {fd fdI : FuncData} (F : Fun K "rule" "Desk.rule" sRule f fd) (T : Txt K mg C) (GI : FnOk P w K mg base CX0 1 fI fdI ["self", "pair"] (spIsPair C)) (mI : Meth K C "is_pair" fI) (bI : Binds K fdI ["self", "pair"] []) :
    FnOk P w K mg base CX0 2 f fd ["self", "i", "j", "rule"] (spOp C aRule) := by
  refine F.ok scRule (fun vs H Q E h => ?_) (fun cdv A outer s0 H vs Q E hr h => ?_)
  · obtain ⟨p, pa, s, as, c, rfl, ⟨i, j, x, rfl, rfl⟩, _⟩ := h
    rfl
  · obtain ⟨p, pa, s, as, c, rfl, ⟨i, j, x, rfl, rfl⟩, ⟨dx, pr, co, ru, D⟩, k⟩ := h
    obtain ⟨t1, g1⟩ := T.gNP
    obtain ⟨t2, g2⟩ := T.gMUSTNOT
    obtain ⟨t3, g3⟩ := T.gOUT
    refine ⟨_, pss_cons (ps_set (i := 4) scRule.nd rfl (.inl rfl) (pe_tup (pa_cons (pe_callB (call_min2 rfl) (by rfl) T.gMin (by decide +kernel) (pa_cons (pv 1) (pa_cons (pv 2) pa_nil))) (pa_cons (pe_callB (call_max2 rfl) (by rfl) T.gMax (by decide +kernel) (pa_cons (pv 1) (pa_cons (pv 2) pa_nil))) pa_nil))))
      (pss_cons (ps_if (pt_not (pt_val (pe_meth (pv 0) T.cl mI GI hr bI .nil pass0 (pa_cons (pv 4) pa_nil)))) (pss_one (ps_ret (pe_lst (pa_cons (pe_glob (v := .int (-3)) rfl g1 ⟨_, rfl⟩) pa_nil)))) pss_nil)
      (pss_cons (ps_if (pt_cmpR op_gt (pv 3) (pe_glob (v := .int 2) rfl g2 ⟨_, rfl⟩) (nomark _)) (pss_one (ps_ret (pe_lst (pa_cons (pe_glob (v := .int (-1)) rfl g3 ⟨_, rfl⟩) pa_nil)))) pss_nil)
      (pss_cons (ps_set (i := 5) scRule.nd rfl (.inl rfl) (pe_dget (hu_of hr) (pe_fld (pv 0) rfl) (pv 4) (fun _ _ => rfl)))
      (pss_cons (ps_dput (hu_of hr) (pe_fld (pv 0) rfl) (pv 4) (pv 3) rfl)
      (pss_one (ps_ret (pe_lst (pa_cons (pv 5) pa_nil)))))))), ?_⟩
    refine q_asgU (eu_tup (ea_cons (ev_min2 (ev_var rfl) (ev_var rfl)) (ea_cons (ev_max2' (ev_var rfl) (ev_var rfl)) ea_nil)) (by show 2 ≤ 100000; decide)) (fun t H1 ht e1 h1 => ?_)
    have h1 : H1 t = some (pO (min i j, max i j)) := h1
    have D1 := D.mono e1
    refine q_when (et_not (et_B (ev_meth (ev_var rfl) D1.ins no_isPair (ea_cons (ev_var rfl) ea_nil) (sv_isPair ⟨_, _, _, _, _, D1⟩ h1)))) (fun hT H2 e2 => ?_) (fun hF H2 e2 => ?_)
    · have hn : (min i j, max i j) ∉ Rl05.pairs s := by simpa using hT
      have es : Rl05.step s (.rule i j x) = (s, [-3]) := if_pos (isPair_no hn)
      rw [es] at k
      refine s_retL (el_lst (ea_cons ev_c ea_nil) (by decide)) fun r H3 hr3 e3 h3 => ?_
      exact k H3 r pa ⟨dx, pr, co, ru, D1.mono (e2.trans e3)⟩ (.inl rfl) (Ex.keepS ((e1.trans e2).trans e3)) (fresh_back (e1.trans e2) hr3) h3
    · have hm : (min i j, max i j) ∈ Rl05.pairs s := by simpa using hF
      have hip : Rl05.isPair s i j = true := isPair_mem.mpr hm
      have D2 := D1.mono e2
      have h2 := e2 _ _ h1
      refine q_when (et_cmp (ev_var rfl) ev_c rv_I0) (fun hT H3 e3 => ?_) (fun hF H3 e3 => ?_)
      · rw [decide_eq_true_eq] at hT
        have es : Rl05.step s (.rule i j x) = (s, [-1]) := (if_neg (by rw [hip]; exact Bool.noConfusion)).trans (if_pos (by omega))
        rw [es] at k
        refine s_retL (el_lst (ea_cons ev_c ea_nil) (by decide)) fun r H4 hr4 e4 h4 => ?_
        exact k H4 r pa ⟨dx, pr, co, ru, D2.mono (e3.trans e4)⟩ (.inl rfl) (Ex.keepS (((e1.trans e2).trans e3).trans e4)) (fresh_back ((e1.trans e2).trans e3) hr4) h4
      · rw [decide_eq_false_iff_not] at hF
        have es : Rl05.step s (.rule i j x) = (Rl05.setVote s { Rl05.voteOf s i j with rule := x }, Rl05.ints [(Rl05.voteOf s i j).rule]) := (if_neg (by rw [hip]; exact Bool.noConfusion)).trans (if_neg (by omega))
        rw [es] at k
        have D3 := D2.mono e3
        have h3 := e3 _ _ h2
        refine q_asg (ev_dget (ev_fld (ev_var rfl) D3.ins T.cl T.nRules df_rule) (ev_var rfl) (tab_get D3.rule h3 hm)) (fun H4 e4 => ?_)
        have D4 := D3.mono e4
        have h4 := e4 _ _ h3
        have e04 := ((e1.trans e2).trans e3).trans e4
        have hlen : ∀ f, (tab (Rl05.pairs s) f).length < sizeLine := fun f => by
          unfold tab
          rw [List.length_map, pairsN_eq]
          exact Nat.lt_of_le_of_lt (pairsN_len D.hi) (by decide)
        refine ⟨_, rfl, _, rfl, p, C, dx, _, _, rfl, D4.ins, T.cl, T.nRules, df_rule, _, rfl, ru, _, rfl, DPut.t (k := pk (min i j, max i j)) D4.rule h4 (hlen _), ?_⟩
        rw [tab_put hm]
        have kp : ∀ b o, H4 b = some o → (∀ kvs, o ≠ .dT kvs) → (upd H4 ru (.dT (tab (Rl05.pairs s) fun r => if r = (min i j, max i j) then x else ruleF s r))) b = some o := fun b o hb hn => by
          rw [upd_ne (fun q => by rw [q, D4.rule] at hb; exact hn _ (Option.some.inj hb).symm)]
          exact hb
        have same : ∀ (G : Rl05.Vote → Nat) (q : Nat × Nat), G (Rl05.voteOf s q.1 q.2) = if q = (min i j, max i j) then G (Rl05.voteOf s i j) else G (Rl05.voteOf s q.1 q.2) := fun G q => by
          by_cases e : q = (min i j, max i j)
          · rw [if_pos e, e, voteOf_mm]
          · rw [if_neg e]
        have D5 := D4.set (v := { Rl05.voteOf s i j with rule := x }) hm (voteOf_ij s i j) kp
          (by rw [upd_ne D.d2, D4.pro]; exact congrArg (fun z => some (HO.dT z)) (tab_congr fun q _ => same (·.pro) q))
          (by rw [upd_ne D.d3, D4.con]; exact congrArg (fun z => some (HO.dT z)) (tab_congr fun q _ => same (·.con) q)) upd_same
        refine s_retL (σ := [some (.ref p), some (.int (i : Int)), some (.int (j : Int)), some (.int (x : Int)), some (.ref t), some (.int (ruleF s (min i j, max i j) : Int))]) (el_lst (ea_cons (ev_var rfl) ea_nil) (by show 1 ≤ 100000; decide)) fun r H5 hr5 e5 h5 => ?_
        have er : ruleF s (min i j, max i j) = (Rl05.voteOf s i j).rule := by unfold ruleF; rw [voteOf_mm]
        rw [er] at h5
        refine k H5 r pa ⟨dx, pr, co, ru, D5.mono e5⟩ (.inl rfl) ((Ex.keepS e04).trans (KeepS.ex (fun b o hb _ h2 => kp b o hb h2) e5)) ?_ h5
        cases hz : H r with
        | none => rfl
        | some o =>
          have hz3 := e04 _ _ hz
          have n1 : r ≠ ru := fun q => by rw [q, upd_same] at hr5; cases hr5
          rw [upd_ne n1, hz3] at hr5
          cases hr5
end
end Lp

namespace Lp
open PySem PySem.Spec PyProof.Rows L2 Evl
abbrev sTIA : Stmt := top 30
abbrev sPIA : Stmt := top 31
abbrev sTold : Stmt := top 32
abbrev sLeast : Stmt := inClass sDesk 18
abbrev sNth : Stmt := inClass sDesk 19
abbrev sSure : Stmt := inClass sDesk 20
/-- together_in_all, parted_in_all -/
def spInAll (f : List Bool → Bool) : Sp := fun vs H Q _ => ∃ (a b : Addr) (gs : List (List Nat)) (q : Nat × Nat), vs = [.ref a, .ref b] ∧ Rows H a gO gs ∧ H b = some (pO q) ∧ gs.length ≤ 877 ∧ (∀ g ∈ gs, InR g.length q.1 ∧ InR g.length q.2) ∧
  ∀ H', Ex H H' → Q (.bl (f (gs.map fun g => Rl05.together g q.1 q.2))) H'
def spTold : Sp := fun vs H Q _ => ∃ (a : Addr) (qs : List (Nat × Nat)), vs = [.ref a] ∧ Rows H a pO qs ∧ qs.length ≤ 21 ∧ ∀ H' r, Ex H H' → H r = none → H' r = some (.lst ((Rl05.pairsTold qs).map V.int)) → Q (.ref r) H'
def aNone (c0 : Rl05.Call) : List V → Rl05.Call → Prop := fun as c => as = [] ∧ c = c0
def aNth : List V → Rl05.Call → Prop := fun as c => ∃ n : Nat, as = [.int (n : Int)] ∧ c = .nth n
section
variable {P : Program} {w : World} {K : PySem.W.Frag} {mg : Str → Option Value} {base : Heap} {C : Addr}
theorem scTIA : FnScope ["ways", "pair", "groups"] ["ways", "pair"] (defScope sTIA) := ⟨rfl, rfl, rfl, by decide +kernel, rfl, by decide +kernel, by decide +kernel⟩
theorem scPIA : FnScope ["ways", "pair", "groups"] ["ways", "pair"] (defScope sPIA) := ⟨rfl, rfl, rfl, by decide +kernel, rfl, by decide +kernel, by decide +kernel⟩
theorem el_togs {H : Hp} {a b : Addr} {gs : List (List Nat)} {q : Nat × Nat} (R : Rows H a gO gs) (hb : H b = some (pO q)) (hl : gs.length ≤ 877) (hi : ∀ g ∈ gs, InR g.length q.1 ∧ InR g.length q.2) :
    EvL (tLc (iList K (tVar 0)) (gName 2) tYes (tCall (spTog K) [] E0 (tCons (tVar 2) (tCons (tVar 1) tNil))) [2]) [some (.ref a), some (.ref b), none] H ((gs.map fun g => Rl05.together g q.1 q.2).map V.bl) := by
  obtain ⟨ts, R, er⟩ := R
  have hts : ts.length ≤ 40000 := by
    have := congrArg List.length er
    rw [List.length_map] at this
    omega
  have key := el_comp (K := K) (σ := [some (.ref a), some (.ref b), none]) (H := H) (tl := tVar 0) (j := 2) (vs := [2]) (t := tYes) (te := tCall (spTog K) [] E0 (tCons (tVar 2) (tCons (tVar 1) tNil)))
    (fun t : Addr × List Nat => V.ref t.1) (fun _ => true) (fun t => V.bl (Rl05.together t.2 q.1 q.2)) (ev_var rfl) (SqL.of R.lst) hts (fun x => rfl) (fun t ht => et_yes) (fun t ht _ =>
      ev_call (ea_cons (ev_var rfl) (ea_cons (ev_var rfl) ea_nil)) (sv_tog (SqL.of (R.at_ t ht).1) hb (hi t.2 (by rw [← er]; exact List.mem_map_of_mem ht)).1 (hi t.2 (by rw [← er]; exact List.mem_map_of_mem ht)).2))
  rw [List.filter_eq_self.mpr (fun _ _ => rfl)] at key
  rw [← er, List.map_map, List.map_map]
  exact key
theorem ok_tia {f fT : Addr} {fd fdT : FuncData} (F : Fun K "together_in_all" "together_in_all" sTIA f fd) (T : Txt K mg C) (GT : FnOk P w K mg base CX0 1 fT fdT ["groups", "pair"] (spTog K)) (kT : PySem.W.keepIn K (.ref fT) = true) (gT : mg "is_together" = some (.ref fT)) (bT : Binds K fdT ["groups", "pair"] []) :
    FnOk P w K mg base CX0 2 f fd ["ways", "pair"] (spInAll fun bs => bs.all id) := by
  refine F.ok scTIA (fun vs H Q E h => ?_) (fun cdv A outer s0 H vs Q E hr h => ?_)
  · obtain ⟨a, b, gs, q, rfl, _⟩ := h
    rfl
  · obtain ⟨a, b, gs, q, rfl, R, hb, hl, hi, k⟩ := h
    refine ⟨_, pss_one (ps_ret (pe_callB (cr_all rfl) (by rfl) T.gAll (by decide +kernel) (pa_cons
      (pe_lc (own := [("groups", 2)]) (g := gName 2) (tt := tYes) (te := tCall (spTog K) [] E0 (tCons (tVar 2) (tCons (tVar 1) tNil))) rfl scTIA.nd (pi_list (pv 0)) (blkOk_by (own := [("groups", 2)]) (N := ["ways", "pair", "groups"]) (sc := defScope sTIA) (by decide +kernel))
        (fun _ _ _ _ _ => pg_name (i := 2) scTIA.nd rfl (Or.inl rfl)) (fun _ _ _ _ _ => pts_nil) (fun _ _ _ _ _ => ?e)) pa_nil))), ?_⟩
    case e => exact pe_call GT hr rfl gT kT bT .nil pass0 (pa_cons (pv 2) (pa_cons (pv 1) pa_nil))
    exact s_ret (ev_allN (el_togs R hb hl hi)) k
theorem ok_pia {f fT : Addr} {fd fdT : FuncData} (F : Fun K "parted_in_all" "parted_in_all" sPIA f fd) (T : Txt K mg C) (GT : FnOk P w K mg base CX0 1 fT fdT ["groups", "pair"] (spTog K)) (kT : PySem.W.keepIn K (.ref fT) = true) (gT : mg "is_together" = some (.ref fT)) (bT : Binds K fdT ["groups", "pair"] []) :
    FnOk P w K mg base CX0 2 f fd ["ways", "pair"] (spInAll fun bs => !bs.any id) := by
  refine F.ok scPIA (fun vs H Q E h => ?_) (fun cdv A outer s0 H vs Q E hr h => ?_)
  · obtain ⟨a, b, gs, q, rfl, _⟩ := h
    rfl
  · obtain ⟨a, b, gs, q, rfl, R, hb, hl, hi, k⟩ := h
    refine ⟨_, pss_one (ps_ret (pe_not (pe_callB (cr_any rfl) (by rfl) T.gAny (by decide +kernel) (pa_cons
      (pe_lc (own := [("groups", 2)]) (g := gName 2) (tt := tYes) (te := tCall (spTog K) [] E0 (tCons (tVar 2) (tCons (tVar 1) tNil))) rfl scPIA.nd (pi_list (pv 0)) (blkOk_by (own := [("groups", 2)]) (N := ["ways", "pair", "groups"]) (sc := defScope sPIA) (by decide +kernel))
        (fun _ _ _ _ _ => pg_name (i := 2) scPIA.nd rfl (Or.inl rfl)) (fun _ _ _ _ _ => pts_nil) (fun _ _ _ _ _ => ?e)) pa_nil)))), ?_⟩
    case e => exact pe_call GT hr rfl gT kT bT .nil pass0 (pa_cons (pv 2) (pa_cons (pv 1) pa_nil))
    exact s_ret (ev_notV (ev_anyN (el_togs R hb hl hi))) k
theorem scTold : FnScope ["pairs", "told", "pair"] ["pairs"] (defScope sTold) := ⟨rfl, rfl, rfl, by decide +kernel, rfl, by decide +kernel, by decide +kernel⟩
theorem ok_told {f : Addr} {fd : FuncData} (F : Fun K "told_pairs" "told_pairs" sTold f fd) (T : Txt K mg C) : FnOk P w K mg base CX0 1 f fd ["pairs"] spTold := by
  refine F.ok scTold (fun vs H Q E h => ?_) (fun cdv A outer s0 H vs Q E hr h => ?_)
  · obtain ⟨a, qs, rfl, _⟩ := h
    rfl
  · obtain ⟨a, qs, rfl, ⟨ts, R, er⟩, hl, k⟩ := h
    refine ⟨_, pss_cons (ps_set (i := 1) scTold.nd rfl (.inl rfl) (pe_lst (pa_cons (pe_callB call_len_seq (by rfl) T.gLen PySem.boot_len (pa_cons (pv 0) pa_nil)) pa_nil)))
      (pss_cons (ps_for PassesOwn.never rfl (pi_list (pv 0)) (pg_name (i := 2) scTold.nd rfl (.inl rfl))
        (pss_one (ps_expr (pe_bm PySem.F.plainAttrs_list PySem.F.slot_list_extend PySem.F.type_list_extend mt_extendT (pv 1) (pa_cons (pv 2) pa_nil)))))
      (pss_one (ps_ret (pv 1)))), ?_⟩
    have hts : ts.length = qs.length := by rw [← er, List.length_map]
    refine q_asgL (el_lst (ea_cons (ev_len (K := K) (ev_var rfl) (SqL.of R.lst)) ea_nil) (by show 1 ≤ 100000; decide)) (fun r H1 hr1 e1 h1 => ?_)
    rw [List.length_map, hts] at h1
    have R1 := R.mono e1
    refine ⟨_, rfl, a, rfl, ⟨_, SqL.of R1.lst⟩, for_list (K := K) (a := a) (xs := ts.map fun t => V.ref t.1) (fun i σ H' => ∃ v : Option V, σ = [some (.ref a), some (.ref r), v] ∧ Ex H H' ∧
      H' r = some (.lst ((Rl05.ints (qs.length :: (qs.take i).flatMap fun q => [q.1, q.2])).map V.int))) ⟨none, rfl, e1, h1⟩ (fun i σ H' _ ⟨_, _, e, _⟩ => SqL.of (e _ _ R.lst)) ?_ ?_⟩
    · rintro i y σ H2 hi ⟨v, rfl, e2, h2⟩
      obtain ⟨⟨b, q⟩, ht, rfl⟩ : ∃ t, ts[i]? = some t ∧ V.ref t.1 = y := by
        rw [List.getElem?_map, Option.map_eq_some_iff] at hi
        exact hi
      have hq : qs[i]? = some q := by rw [← er, List.getElem?_map, ht]; rfl
      have hb : H2 b = some (pO q) := e2 _ _ (R.at_ _ (List.mem_of_getElem? ht)).1
      have hiq : i < qs.length := (List.getElem?_eq_some_iff.mp hq).1
      refine ⟨_, rfl, .inl ⟨rfl, _, SqL.of h2⟩, _, rfl, r, b, _, _, rfl, rfl, h2, hb, ?_, ?_⟩
      · have : ∀ l : List (Nat × Nat), (l.flatMap fun q => [q.1, q.2]).length = 2 * l.length := fun l => by
          induction l with
          | nil => rfl
          | cons x l ih =>
            rw [List.flatMap_cons, List.length_append, ih]
            show 2 + 2 * l.length = 2 * (l.length + 1)
            omega
        unfold Rl05.ints
        rw [List.length_map, List.length_map, List.length_cons, this, List.length_take]
        exact Nat.le_trans (show 2 * min i qs.length + 1 + 2 ≤ 100 by omega) (by decide)
      · refine ⟨_, rfl, fun z o hz => by rw [upd_ne (ne_of_none hz hr1)]; exact e2 _ _ hz, ?_⟩
        rw [upd_same, take_snoc' hq, List.flatMap_append]
        unfold Rl05.ints
        simp only [List.map_cons, List.map_append, List.flatMap_cons, List.flatMap_nil, List.append_nil, List.cons_append, List.map_nil]
    · rintro σ H2 ⟨v, rfl, e2, h2⟩
      refine ⟨_, rfl, k H2 r e2 hr1 ?_⟩
      rw [List.length_map, hts, List.take_length] at h2
      exact h2
theorem no_cheapest {s : Rl05.St} {pa pr co ru : Addr} : (deskF s pa pr co ru).lookup ("cheapest" : Str) = none := df_no (by decide +kernel) (by decide +kernel) (by decide +kernel) (by decide +kernel) (by decide +kernel)
theorem scLeast : FnScope ["self", "ways"] ["self"] (defScope sLeast) := ⟨rfl, rfl, rfl, by decide +kernel, rfl, by decide +kernel, by decide +kernel⟩
theorem el_cat {H : Hp} {σ : L2.St} {ta tb : TE} {b : Addr} {xs zs : List V} (ha : EvL ta σ H xs) (hb : Ev tb σ H (.ref b)) (hB : H b = some (.lst zs)) (hz : xs.length + zs.length ≤ 100000) : EvL (tOp rCat ta tb) σ H (xs ++ zs) := fun H1 e Q q =>
  ha H1 e _ fun l H2 hl e2 h2 => hb H2 (e.trans e2) _ fun H3 e3 => ⟨l, b, xs, zs, rfl, rfl, e3 _ _ h2, ((e.trans e2).trans e3) _ _ hB, sz_of hz, fun r hr => q r _ (fresh_back (e2.trans e3) hr) ((e2.trans e3).trans (Ex.new hr)) upd_same⟩
theorem el_catN {H : Hp} {σ : L2.St} {ta tb : TE} {xs zs : List V} (ha : EvL ta σ H xs) (hb : EvL tb σ H zs) (hz : xs.length + zs.length ≤ 100000) : EvL (tOp rCat ta tb) σ H (xs ++ zs) := fun H1 e Q q =>
  ha H1 e _ fun l H2 hl e2 h2 => hb H2 (e.trans e2) _ fun b H3 hb e3 h3 => ⟨l, b, xs, zs, rfl, rfl, e3 _ _ h2, h3, sz_of hz, fun r hr => q r _ (fresh_back (e2.trans e3) hr) ((e2.trans e3).trans (Ex.new hr)) upd_same⟩
theorem et_lenN {H : Hp} {σ : L2.St} {tl tz : TE} {a : Addr} {xs : List V} (ha : Ev tl σ H (.ref a)) (h : SqL K H a xs) (hz : Ev tz σ H (.int 0)) : EvT (tTest (tOp rEq (tCB (rLenS K) (tCons tl tNil)) tz)) σ H (decide (xs = [])) := by
  refine et_is (et_eqI (ev_len ha h) hz) ?_
  by_cases e : xs = []
  · rw [e]; rfl
  · have : xs.length ≠ 0 := fun q => e (List.length_eq_zero_iff.mp q)
    rw [decide_eq_false e, decide_eq_false (by omega)]
theorem ok_least {f fH fO : Addr} {fd fdH fdO : FuncData} (F : Fun K "least" "Desk.least" sLeast f fd) (T : Txt K mg C) (GH : FnOk P w K mg base CX0 4 fH fdH ["self"] (spCheapest C)) (mH : Meth K C "cheapest" fH) (bH : Binds K fdH ["self"] [])
    (GO : FnOk P w K mg base CX0 2 fO fdO ["self", "groups"] (spCostOf K C)) (mO : Meth K C "cost_of" fO) (bO : Binds K fdO ["self", "groups"] []) :
    FnOk P w K mg base CX0 5 f fd ["self"] (spOp C (aNone .least)) := by
  refine F.ok scLeast (fun vs H Q E h => ?_) (fun cdv A outer s0 H vs Q E hr h => ?_)
  · obtain ⟨p, pa, s, as, c, rfl, ⟨rfl, rfl⟩, _⟩ := h
    rfl
  · obtain ⟨p, pa, s, as, c, rfl, ⟨rfl, rfl⟩, ⟨dx, pr, co, ru, D⟩, k⟩ := h
    obtain ⟨t1, g1⟩ := T.gNK
    have hr2 : Room 2 _ := hr.mono (by decide)
    refine ⟨_, pss_cons (ps_set (i := 1) scLeast.nd rfl (.inl rfl) (pe_meth0 (pv 0) T.cl mH GH hr bH .nil pass0))
      (pss_cons (ps_if (pt_cmpR op_eq (pe_callB call_len_seq (by rfl) T.gLen PySem.boot_len (pa_cons (pv 1) pa_nil)) pe_int (nomark _)) (pss_one (ps_ret (pe_lst (pa_cons (pe_glob (v := .int (-6)) rfl g1 ⟨_, rfl⟩) pa_nil)))) pss_nil)
      (pss_one (ps_ret (pe_op op_cat (pe_lst (pa_cons (pe_meth (pv 0) T.cl mO GO hr2 bO .nil pass0 (pa_cons (pe_ix ix_list (pv 1) pe_int (fun _ _ => rfl)) pa_nil)) (pa_cons (pe_callB call_len_seq (by rfl) T.gLen PySem.boot_len (pa_cons (pv 1) pa_nil)) pa_nil)))
        (pe_ix ix_list (pv 1) pe_int (fun _ _ => rfl)))))), ?_⟩
    refine ⟨_, rfl, p, dx, _, rfl, D.ins, no_cheapest, p, s, rfl, ⟨_, _, _, _, _, D⟩, fun H1 wa e1 ⟨ts, R, er⟩ => ?_⟩
    have D1 := D.mono e1
    refine q_when (D := { nx := fun _ H' => Q .non H', rt := Q }) (σ := [some (.ref p), some (.ref wa)]) (et_lenN (K := K) (ev_var rfl) (SqL.of R.lst) ev_c) (fun hT H2 e2 => ?_) (fun hF H2 e2 => ?_)
    · have hts : ts = [] := List.map_eq_nil_iff.mp (of_decide_eq_true hT)
      have hn : Rl05.cheapest s = none := by
        cases h : Rl05.cheapest s with
        | none => rfl
        | some x =>
          obtain ⟨h1, h2, _⟩ := cheapL_some (c := x.1) (gs := x.2) h
          rw [← er, hts] at h1
          exact absurd h1.symm h2
      have es : Rl05.step s .least = (s, [-6]) := by
        show (s, _) = _
        rw [hn]
      rw [es] at k
      refine s_retL (el_lst (ea_cons ev_c ea_nil) (by decide)) fun r H3 hr3 e3 h3 => ?_
      exact k H3 r pa ⟨dx, pr, co, ru, D1.mono (e2.trans e3)⟩ (.inl rfl) (Ex.keepS ((e1.trans e2).trans e3)) (fresh_back (e1.trans e2) hr3) h3
    · have D2 := D1.mono e2
      have R2 := R.mono e2
      obtain ⟨t0, tr, rfl⟩ : ∃ t0 tr, ts = t0 :: tr := by
        cases ts with
        | nil => exact absurd rfl (of_decide_eq_false hF)
        | cons a b => exact ⟨a, b, rfl⟩
      obtain ⟨c, gs, hc⟩ : ∃ c gs, Rl05.cheapest s = some (c, gs) := by
        cases h : Rl05.cheapest s with
        | none => rw [cheapL_none h] at er; cases er
        | some x => exact ⟨x.1, x.2, rfl⟩
      obtain ⟨h1, h2, h3⟩ := cheapL_some hc
      rw [h1] at er
      have es : Rl05.step s .least = (s, Rl05.ints (c :: gs.length :: gs.headD [])) := by
        show (s, _) = _
        rw [hc]
      rw [es] at k
      have ha := (R2.at_ t0 List.mem_cons_self).1
      have hmem : t0.2 ∈ gs := by rw [← er]; exact List.mem_map_of_mem List.mem_cons_self
      have hlen : t0.2.length = s.n := mem_cheapL (h1 ▸ hmem)
      have hix : Ev (tOp (rIxL K) (tVar 1) (tC (.int 0))) [some (.ref p), some (.ref wa)] H2 (.ref t0.1) := ev_op (ev_var rfl) ev_c (rv_ixL (SqL.of R2.lst) (at_of (j := 0) rfl rfl))
      refine s_retL (el_cat (el_lst (ea_cons (ev_meth (ev_var rfl) D2.ins no_costOf (ea_cons hix ea_nil) (sv_costOf ⟨_, _, _, _, _, D2⟩ (SqL.of ha) hlen)) (ea_cons (ev_len (K := K) (ev_var rfl) (SqL.of R2.lst)) ea_nil)) (by show 2 ≤ 100000; decide)) hix ha ?_) fun r H3 hr e3 h4 => ?_
      · rw [iv_len, hlen]
        exact show 2 + s.n ≤ 100000 by have := D.hi; omega
      · have e03 := (e1.trans e2).trans e3
        refine k _ r pa ⟨dx, pr, co, ru, D2.mono e3⟩ (.inl rfl) (Ex.keepS e03) (fresh_back (e1.trans e2) hr) ?_
        rw [h4, h3 _ hmem, List.length_map]
        have e5 : (t0 :: tr).length = gs.length := by rw [← er, List.length_map]
        have e6 : gs.headD [] = t0.2 := by rw [← er]; rfl
        rw [e5, e6, iv_ints]
        rfl
/-- none is there: no groups keep to the rules -/
theorem cheap_nil {s : Rl05.St} {ts : List (Addr × List Nat)} (er : ts.map (·.2) = cheapL s) (h : decide ((ts.map fun t => V.ref t.1) = []) = true) : Rl05.cheapest s = none := by
  have hts : ts = [] := List.map_eq_nil_iff.mp (of_decide_eq_true h)
  cases h : Rl05.cheapest s with
  | none => rfl
  | some x =>
    obtain ⟨h1, h2, _⟩ := cheapL_some (c := x.1) (gs := x.2) h
    rw [← er, hts] at h1
    exact absurd h1.symm h2
theorem cheap_cons {s : Rl05.St} {ts : List (Addr × List Nat)} (er : ts.map (·.2) = cheapL s) (h : decide ((ts.map fun t => V.ref t.1) = []) = false) : ∃ c, Rl05.cheapest s = some (c, cheapL s) ∧ ∀ g ∈ cheapL s, Rl05.cost s g = c := by
  cases hc : Rl05.cheapest s with
  | none =>
    rw [cheapL_none hc, List.map_eq_nil_iff] at er
    rw [er] at h
    cases h
  | some x =>
    obtain ⟨h1, _, h3⟩ := cheapL_some (c := x.1) (gs := x.2) hc
    exact ⟨x.1, by rw [h1], by rw [h1]; exact h3⟩
theorem scNth : FnScope ["self", "k", "ways"] ["self", "k"] (defScope sNth) := ⟨rfl, rfl, rfl, by decide +kernel, rfl, by decide +kernel, by decide +kernel⟩
theorem ok_nth {f fH fO : Addr} {fd fdH fdO : FuncData} (F : Fun K "nth" "Desk.nth" sNth f fd) (T : Txt K mg C) (GH : FnOk P w K mg base CX0 4 fH fdH ["self"] (spCheapest C)) (mH : Meth K C "cheapest" fH) (bH : Binds K fdH ["self"] [])
    (GO : FnOk P w K mg base CX0 2 fO fdO ["self", "groups"] (spCostOf K C)) (mO : Meth K C "cost_of" fO) (bO : Binds K fdO ["self", "groups"] []) :
    FnOk P w K mg base CX0 5 f fd ["self", "k"] (spOp C aNth) := by
  refine F.ok scNth (fun vs H Q E h => ?_) (fun cdv A outer s0 H vs Q E hr h => ?_)
  · obtain ⟨p, pa, s, as, c, rfl, ⟨n, rfl, rfl⟩, _⟩ := h
    rfl
  · obtain ⟨p, pa, s, as, c, rfl, ⟨n, rfl, rfl⟩, ⟨dx, pr, co, ru, D⟩, k⟩ := h
    obtain ⟨t1, g1⟩ := T.gNK
    obtain ⟨t2, g2⟩ := T.gNS
    have hr2 : Room 2 _ := hr.mono (by decide)
    refine ⟨_, pss_cons (ps_set (i := 2) scNth.nd rfl (.inl rfl) (pe_meth0 (pv 0) T.cl mH GH hr bH .nil pass0))
      (pss_cons (ps_if (pt_cmpR op_eq (pe_callB call_len_seq (by rfl) T.gLen PySem.boot_len (pa_cons (pv 2) pa_nil)) pe_int (nomark _)) (pss_one (ps_ret (pe_lst (pa_cons (pe_glob (v := .int (-6)) rfl g1 ⟨_, rfl⟩) pa_nil)))) pss_nil)
      (pss_cons (ps_if (pt_cmpR op_ge (pv 1) (pe_callB call_len_seq (by rfl) T.gLen PySem.boot_len (pa_cons (pv 2) pa_nil)) (nomark _)) (pss_one (ps_ret (pe_lst (pa_cons (pe_glob (v := .int (-5)) rfl g2 ⟨_, rfl⟩) pa_nil)))) pss_nil)
      (pss_one (ps_ret (pe_op op_cat (pe_lst (pa_cons (pe_meth (pv 0) T.cl mO GO hr2 bO .nil pass0 (pa_cons (pe_ix ix_list (pv 2) (pv 1) (fun _ _ => rfl)) pa_nil)) pa_nil))
        (pe_ix ix_list (pv 2) (pv 1) (fun _ _ => rfl))))))), ?_⟩
    refine ⟨_, rfl, p, dx, _, rfl, D.ins, no_cheapest, p, s, rfl, ⟨_, _, _, _, _, D⟩, fun H1 wa e1 ⟨ts, R, er⟩ => ?_⟩
    have D1 := D.mono e1
    refine q_when (D := { nx := fun _ H' => Q .non H', rt := Q }) (σ := [some (.ref p), some (.int (n : Int)), some (.ref wa)]) (et_lenN (K := K) (ev_var rfl) (SqL.of R.lst) ev_c) (fun hT H2 e2 => ?_) (fun hF H2 e2 => ?_)
    · have es : Rl05.step s (.nth n) = (s, [-6]) := by
        show (s, _) = _
        rw [cheap_nil er hT]
      rw [es] at k
      refine s_retL (el_lst (ea_cons ev_c ea_nil) (by decide)) fun r H3 hr3 e3 h3 => ?_
      exact k H3 r pa ⟨dx, pr, co, ru, D1.mono (e2.trans e3)⟩ (.inl rfl) (Ex.keepS ((e1.trans e2).trans e3)) (fresh_back (e1.trans e2) hr3) h3
    · have D2 := D1.mono e2
      have R2 := R.mono e2
      obtain ⟨c, hc, hcost⟩ := cheap_cons er hF
      have hl : ts.length = (cheapL s).length := by rw [← er, List.length_map]
      refine q_when (et_cmp (ev_var rfl) (ev_len (K := K) (ev_var rfl) (SqL.of R2.lst)) rv_I0) (fun hT H3 e3 => ?_) (fun hF H3 e3 => ?_)
      · have hT := of_decide_eq_true hT
        rw [List.length_map, hl] at hT
        have es : Rl05.step s (.nth n) = (s, [-5]) := by
          show (s, match Rl05.cheapest s with
            | none => [-6]
            | some x => match x.2[n]? with
              | none => [-5]
              | some g => Rl05.ints (Rl05.cost s g :: g)) = _
          rw [hc]
          show (s, match (cheapL s)[n]? with
              | none => [-5]
              | some g => Rl05.ints (Rl05.cost s g :: g)) = _
          rw [List.getElem?_eq_none (by omega)]
        rw [es] at k
        refine s_retL (el_lst (ea_cons ev_c ea_nil) (by decide)) fun r H4 hr4 e4 h4 => ?_
        exact k H4 r pa ⟨dx, pr, co, ru, D2.mono (e3.trans e4)⟩ (.inl rfl) (Ex.keepS (((e1.trans e2).trans e3).trans e4)) (fresh_back ((e1.trans e2).trans e3) hr4) h4
      · have hF := of_decide_eq_false hF
        rw [List.length_map, hl] at hF
        have D3 := D2.mono e3
        have R3 := R2.mono e3
        have hn : n < ts.length := by omega
        have ht : ts[n]? = some ts[n] := List.getElem?_eq_getElem hn
        have hg : (cheapL s)[n]? = some ts[n].2 := by rw [← er, List.getElem?_map, ht]; rfl
        generalize ts[n] = t0 at ht hg
        have es : Rl05.step s (.nth n) = (s, Rl05.ints (Rl05.cost s t0.2 :: t0.2)) := by
          show (s, match Rl05.cheapest s with
            | none => [-6]
            | some x => match x.2[n]? with
              | none => [-5]
              | some g => Rl05.ints (Rl05.cost s g :: g)) = _
          rw [hc]
          show (s, match (cheapL s)[n]? with
              | none => [-5]
              | some g => Rl05.ints (Rl05.cost s g :: g)) = _
          rw [hg]
        rw [es] at k
        have ha := (R3.at_ t0 (List.mem_of_getElem? ht)).1
        have hlen : t0.2.length = s.n := mem_cheapL (List.mem_of_getElem? hg)
        have hix : Ev (tOp (rIxL K) (tVar 2) (tVar 1)) [some (.ref p), some (.int (n : Int)), some (.ref wa)] H3 (.ref t0.1) := ev_op (ev_var rfl) (ev_var rfl) (rv_ixL (SqL.of R3.lst) (at_of (j := n) rfl (by rw [List.getElem?_map, ht]; rfl)))
        refine s_retL (el_cat (el_lst (ea_cons (ev_meth (ev_var rfl) D3.ins no_costOf (ea_cons hix ea_nil) (sv_costOf ⟨_, _, _, _, _, D3⟩ (SqL.of ha) hlen)) ea_nil) (by show 1 ≤ 100000; decide)) hix ha ?_) fun r H4 hr e4 h4 => ?_
        · rw [iv_len, hlen]
          exact show 1 + s.n ≤ 100000 by have := D.hi; omega
        · have e04 := ((e1.trans e2).trans e3).trans e4
          refine k _ r pa ⟨dx, pr, co, ru, D3.mono e4⟩ (.inl rfl) (Ex.keepS e04) (fresh_back ((e1.trans e2).trans e3) hr) ?_
          rw [h4, iv_ints]
          rfl
theorem scSure : FnScope ["self", "ways", "together", "parted", "pair"] ["self"] (defScope sSure) := ⟨rfl, rfl, rfl, by decide +kernel, rfl, by decide +kernel, by decide +kernel⟩
theorem sv_inAll {H : Hp} {fF : List Bool → Bool} {a b : Addr} {gs : List (List Nat)} {q : Nat × Nat} (R : Rows H a gO gs) (hb : H b = some (pO q)) (hl : gs.length ≤ 877) (hi : ∀ g ∈ gs, InR g.length q.1 ∧ InR g.length q.2) :
    SpV (spInAll fF) [.ref a, .ref b] H (.bl (fF (gs.map fun g => Rl05.together g q.1 q.2))) := fun H1 e Q q0 E => ⟨a, b, gs, q, rfl, R.mono e, e _ _ hb, hl, hi, q0⟩
theorem sl_told {H : Hp} {a : Addr} {qs : List (Nat × Nat)} (R : Rows H a pO qs) (hl : qs.length ≤ 21) : SpL spTold [.ref a] H ((Rl05.pairsTold qs).map V.int) := fun H1 e Q q E => ⟨a, qs, rfl, R.mono e, hl, fun H' r e' hr h => q r H' hr e' h⟩
theorem told_len {qs : List (Nat × Nat)} (hl : qs.length ≤ 21) : ((Rl05.pairsTold qs).map V.int).length ≤ 100 := by
  have : ∀ l : List (Nat × Nat), (l.flatMap fun q => [q.1, q.2]).length = 2 * l.length := fun l => by
    induction l with
    | nil => rfl
    | cons x l ih =>
      rw [List.flatMap_cons, List.length_append, ih]
      show 2 + 2 * l.length = 2 * (l.length + 1)
      omega
  unfold Rl05.pairsTold Rl05.ints
  rw [List.length_map, List.length_map, List.length_cons, this]
  omega
theorem ok_sure {f fH fT fA fB : Addr} {fd fdH fdT fdA fdB : FuncData} (F : Fun K "sure" "Desk.sure" sSure f fd) (T : Txt K mg C) (GH : FnOk P w K mg base CX0 4 fH fdH ["self"] (spCheapest C)) (mH : Meth K C "cheapest" fH) (bH : Binds K fdH ["self"] [])
    (GA : FnOk P w K mg base CX0 2 fA fdA ["ways", "pair"] (spInAll fun bs => bs.all id)) (gA : mg "together_in_all" = some (.ref fA)) (kA : PySem.W.keepIn K (.ref fA) = true) (bA : Binds K fdA ["ways", "pair"] [])
    (GB : FnOk P w K mg base CX0 2 fB fdB ["ways", "pair"] (spInAll fun bs => !bs.any id)) (gB : mg "parted_in_all" = some (.ref fB)) (kB : PySem.W.keepIn K (.ref fB) = true) (bB : Binds K fdB ["ways", "pair"] [])
    (GT : FnOk P w K mg base CX0 1 fT fdT ["pairs"] spTold) (gT : mg "told_pairs" = some (.ref fT)) (kT : PySem.W.keepIn K (.ref fT) = true) (bT : Binds K fdT ["pairs"] []) :
    FnOk P w K mg base CX0 5 f fd ["self"] (spOp C (aNone .sure)) := by
  refine F.ok scSure (fun vs H Q E h => ?_) (fun cdv A outer s0 H vs Q E hr h => ?_)
  · obtain ⟨p, pa, s, as, c, rfl, ⟨rfl, rfl⟩, _⟩ := h
    rfl
  · obtain ⟨p, pa, s, as, c, rfl, ⟨rfl, rfl⟩, ⟨dx, pr, co, ru, D⟩, k⟩ := h
    obtain ⟨t1, g1⟩ := T.gNK
    have hr2 : Room 2 _ := hr.mono (by decide)
    have hr1 : Room 1 _ := hr.mono (by decide)
    refine ⟨_, pss_cons (ps_set (i := 1) scSure.nd rfl (.inr rfl) (pe_meth0 (pv 0) T.cl mH GH hr bH .nil pass0))
      (pss_cons (ps_if (pt_cmpR op_eq (pe_callB call_len_seq (by rfl) T.gLen PySem.boot_len (pa_cons (pv 1) pa_nil)) pe_int (nomark _)) (pss_one (ps_ret (pe_lst (pa_cons (pe_glob (v := .int (-6)) rfl g1 ⟨_, rfl⟩) pa_nil)))) pss_nil)
      (pss_cons (ps_setLc (i := 2) (own := [("pair", 4)]) (g := gName 4) (tt := tB (tCall (spInAll fun bs => bs.all id) [] E0 (tCons (tVar 1) (tCons (tVar 4) tNil)))) (te := tVar 4) rfl scSure.nd rfl rfl (sw_true rfl rfl rfl (by decide +kernel))
        (pi_list (pe_fld (pv 0) rfl)) (blkOk_by (own := [("pair", 4)]) (N := ["self", "ways", "together", "parted", "pair"]) (sc := defScope sSure) (by decide +kernel))
        (fun _ _ _ _ _ => pg_name (i := 4) scSure.nd rfl (Or.inl rfl)) (fun _ _ _ _ _ => ?e1) (fun _ _ _ _ _ => pv 4))
      (pss_cons (ps_setLc (i := 3) (own := [("pair", 4)]) (g := gName 4) (tt := tB (tCall (spInAll fun bs => !bs.any id) [] E0 (tCons (tVar 1) (tCons (tVar 4) tNil)))) (te := tVar 4) rfl scSure.nd rfl rfl (sw_true rfl rfl rfl (by decide +kernel))
        (pi_list (pe_fld (pv 0) rfl)) (blkOk_by (own := [("pair", 4)]) (N := ["self", "ways", "together", "parted", "pair"]) (sc := defScope sSure) (by decide +kernel))
        (fun _ _ _ _ _ => pg_name (i := 4) scSure.nd rfl (Or.inl rfl)) (fun _ _ _ _ _ => ?e2) (fun _ _ _ _ _ => pv 4))
      (pss_one (ps_ret (pe_op op_cat (pe_call GT hr1 rfl gT kT bT .nil pass0 (pa_cons (pv 2) pa_nil)) (pe_call GT hr1 rfl gT kT bT .nil pass0 (pa_cons (pv 3) pa_nil)))))))), ?_⟩
    case e1 => exact pts_one (pt_val (pe_call GA hr2 rfl gA kA bA .nil pass0 (pa_cons (pv 1) (pa_cons (pv 4) pa_nil))))
    case e2 => exact pts_one (pt_val (pe_call GB hr2 rfl gB kB bB .nil pass0 (pa_cons (pv 1) (pa_cons (pv 4) pa_nil))))
    refine ⟨_, rfl, p, dx, _, rfl, D.ins, no_cheapest, p, s, rfl, ⟨_, _, _, _, _, D⟩, fun H1 wa e1 RW => ?_⟩
    obtain ⟨ws, R, er⟩ := id RW
    have D1 := D.mono e1
    refine q_when (D := { nx := fun _ H' => Q .non H', rt := Q }) (σ := [some (.ref p), some (.ref wa), none, none, none]) (et_lenN (K := K) (ev_var rfl) (SqL.of R.lst) ev_c) (fun hT H2 e2 => ?_) (fun hF H2 e2 => ?_)
    · have es : Rl05.step s .sure = (s, [-6]) := by
        show (s, _) = _
        rw [cheap_nil er hT]
      rw [es] at k
      refine s_retL (el_lst (ea_cons ev_c ea_nil) (by decide)) fun r H3 hr3 e3 h3 => ?_
      exact k H3 r pa ⟨dx, pr, co, ru, D1.mono (e2.trans e3)⟩ (.inl rfl) (Ex.keepS ((e1.trans e2).trans e3)) (fresh_back (e1.trans e2) hr3) h3
    · have D2 := D1.mono e2
      obtain ⟨c, hc, hcost⟩ := cheap_cons er hF
      have hcl : (cheapL s).length ≤ 877 := Nat.le_trans (List.length_filter_le _ _) (may_len D.hi)
      have hin : ∀ q ∈ Rl05.pairs s, ∀ g ∈ cheapL s, InR g.length q.1 ∧ InR g.length q.2 := fun q hq g hg => by rw [mem_cheapL hg]; exact pairs_in hq
      obtain ⟨ts, RP, erp⟩ := D2.pairs
      have hts : ts.length ≤ 21 := by
        have := congrArg List.length erp
        rw [List.length_map, pairsN_eq] at this
        have := pairsN_len D.hi
        omega
      have comp : ∀ (fF : List Bool → Bool) (σ : L2.St) (H3 : Hp), Ex H2 H3 → σ[0]? = some (some (.ref p)) → σ[1]? = some (some (.ref wa)) → (∀ x, wipe ((wipe σ [4]).set 4 (some x)) [4] = wipe σ [4]) → (∀ x, ((wipe σ [4]).set 4 (some x))[1]? = some (some (.ref wa))) → (∀ x, ((wipe σ [4]).set 4 (some x))[4]? = some (some x)) →
          EvL (tLc (iList K (tFld K (tVar 0) "pairs")) (gName 4) (tB (tCall (spInAll fF) [] E0 (tCons (tVar 1) (tCons (tVar 4) tNil)))) (tVar 4) [4]) σ H3 ((ts.filter fun t => fF ((cheapL s).map fun g => Rl05.together g t.2.1 t.2.2)).map fun t => V.ref t.1) := fun fF σ H3 e3 h0 h1 hw hw1 hw4 =>
        el_comp (K := K) (j := 4) (vs := [4]) (fun t : Addr × Nat × Nat => V.ref t.1) (fun t => fF ((cheapL s).map fun g => Rl05.together g t.2.1 t.2.2)) (fun t => V.ref t.1) (ev_fld (ev_var h0) (D2.mono e3).ins T.cl T.nPairs df_pairs) (SqL.of (e3 _ _ RP.lst)) (by omega) hw
          (fun t ht => et_B (ev_call (ea_cons (ev_var (hw1 _)) (ea_cons (ev_var (hw4 _)) ea_nil)) (sv_inAll ((RW.mono e2).mono e3) (e3 _ _ (RP.at_ t ht).1) hcl (hin t.2 (by rw [← erp]; exact List.mem_map_of_mem ht))))) (fun t ht _ => ev_var (hw4 _))
      refine q_asgL (comp (fun bs => bs.all id) _ H2 (Ex.refl H2) rfl rfl (fun x => rfl) (fun x => rfl) (fun x => rfl)) (fun a1 H3 ha1 e3 h3 => ?_)
      refine q_asgL (comp (fun bs => !bs.any id) _ H3 e3 rfl rfl (fun x => rfl) (fun x => rfl) (fun x => rfl)) (fun a2 H4 ha2 e4 h4 => ?_)
      have R3 := rows_filter (G := fun q => ((cheapL s).map fun g => Rl05.together g q.1 q.2).all id) RP e3 ha1 h3
      have R4 := rows_filter (G := fun q => !((cheapL s).map fun g => Rl05.together g q.1 q.2).any id) (RP.mono e3) e4 ha2 h4
      have m3 : (ts.filter fun t => ((cheapL s).map fun g => Rl05.together g t.2.1 t.2.2).all id).map (·.2) = (Rl05.pairs s).filter fun q => (cheapL s).all fun g => Rl05.together g q.1 q.2 := by
        rw [← erp, List.filter_map]
        congr 1
        refine List.filter_congr fun t _ => ?_
        rw [List.all_map]
        rfl
      have m4 : (ts.filter fun t => !((cheapL s).map fun g => Rl05.together g t.2.1 t.2.2).any id).map (·.2) = (Rl05.pairs s).filter fun q => (cheapL s).all fun g => !Rl05.together g q.1 q.2 := by
        rw [← erp, List.filter_map]
        congr 1
        refine List.filter_congr fun t _ => ?_
        rw [List.any_map, List.not_any_eq_all_not]
        rfl
      have l21 : ∀ (f : Nat × Nat → Bool), ((Rl05.pairs s).filter f).length ≤ 21 := fun f => Nat.le_trans (List.length_filter_le _ _) (by rw [pairsN_eq]; exact pairsN_len D.hi)
      have R3' : Rows H4 a1 pO ((Rl05.pairs s).filter fun q => (cheapL s).all fun g => Rl05.together g q.1 q.2) := ⟨_, R3.mono e4, m3⟩
      have R4' : Rows H4 a2 pO ((Rl05.pairs s).filter fun q => (cheapL s).all fun g => !Rl05.together g q.1 q.2) := ⟨_, R4, m4⟩
      have es : Rl05.step s .sure = (s, Rl05.pairsTold ((Rl05.pairs s).filter fun q => (cheapL s).all fun g => Rl05.together g q.1 q.2) ++ Rl05.pairsTold ((Rl05.pairs s).filter fun q => (cheapL s).all fun g => !Rl05.together g q.1 q.2)) := by
        show (s, _) = _
        rw [hc]
      rw [es] at k
      refine s_retL (el_catN (el_call (ea_cons (ev_var rfl) ea_nil) (sl_told R3' (l21 _))) (el_call (ea_cons (ev_var rfl) ea_nil) (sl_told R4' (l21 _))) ?_) fun r H5 hr e5 h5 => ?_
      · have := told_len (l21 fun q => (cheapL s).all fun g => Rl05.together g q.1 q.2)
        have := told_len (l21 fun q => (cheapL s).all fun g => !Rl05.together g q.1 q.2)
        omega
      · have e05 := (((e1.trans e2).trans e3).trans e4).trans e5
        refine k _ r pa ⟨dx, pr, co, ru, D2.mono ((e3.trans e4).trans e5)⟩ (.inl rfl) (Ex.keepS e05) (fresh_back (((e1.trans e2).trans e3).trans e4) hr) ?_
        rw [h5, List.map_append]
end
end Lp

namespace Lp
open PySem PySem.Spec PyProof.Rows L2 Evl
abbrev sGroupsOf : Stmt := top 26
abbrev sWith : Stmt := top 27
abbrev sLinked : Stmt := top 28
abbrev sLowest : Stmt := top 33
/-! ### numbering, one record more -/
theorem frs_snoc (acc l : List Nat) (x : Nat) : frs acc (l ++ [x]) = if (frs acc l).contains x = true then frs acc l else frs acc l ++ [x] := by
  unfold frs
  rw [List.foldl_append]
  rfl
theorem plain_snoc (l : List Nat) (x : Nat) : Rl05.plain (l ++ [x]) = Rl05.plain l ++ [((frs [] (l ++ [x])).findIdx? fun y => y == x).getD 0] := by
  rw [plain_eq, plain_eq, List.map_append]
  congr 1
  refine List.map_congr_left fun y hy => ?_
  have hm : y ∈ frs [] l := (mem_frs l [] y).mpr (.inr hy)
  have hp : frs [] l <+: frs [] (l ++ [x]) := by
    rw [frs_snoc]
    split
    · exact List.prefix_refl _
    · exact List.prefix_append _ _
  rw [findIdx?_prefix hp hm]
/-- numbers by their first coming, as a dict -/
def nk : Nat → List Nat → List (Key × V)
  | _, [] => []
  | k, x :: F => (.inl (x : Int), .int (k : Int)) :: nk (k + 1) F
theorem nk_len : ∀ (F : List Nat) (k : Nat), (nk k F).length = F.length
  | [], _ => rfl
  | x :: F, k => by
    show (nk (k + 1) F).length + 1 = F.length + 1
    rw [nk_len F]
theorem nk_snoc : ∀ (F : List Nat) (k x : Nat), nk k (F ++ [x]) = nk k F ++ [(.inl (x : Int), .int ((k + F.length : Nat) : Int))]
  | [], k, x => rfl
  | y :: F, k, x => by
    show _ :: nk (k + 1) (F ++ [x]) = _ :: (nk (k + 1) F ++ _)
    rw [nk_snoc F, List.length_cons, show k + 1 + F.length = k + (F.length + 1) by omega]
theorem nk_val (x : Nat) : ∀ (F : List Nat) (k : Nat), valV (nk k F) (.inl (x : Int)) = (F.findIdx? fun y => y == x).map fun i => V.int ((k + i : Nat) : Int)
  | [], k => rfl
  | y :: F, k => by
    have ih := nk_val x F (k + 1)
    unfold valV at ih ⊢
    show Option.map _ (List.find? _ ((.inl (y : Int), V.int (k : Int)) :: nk (k + 1) F)) = _
    rw [List.find?_cons, List.findIdx?_cons]
    by_cases h : y = x
    · subst h
      simp
    · have h1 : decide ((Sum.inl (y : Int) : Key) = Sum.inl (x : Int)) = false := decide_eq_false fun q => h (by injection q with q; omega)
      have h2 : (y == x) = false := beq_eq_false_iff_ne.mpr h
      simp only [h1, h2]
      rw [ih]
      cases F.findIdx? fun y => y == x with
      | none => rfl
      | some i =>
        show some (V.int ((k + 1 + i : Nat) : Int)) = some (V.int ((k + (i + 1) : Nat) : Int))
        rw [show k + 1 + i = k + (i + 1) by omega]
theorem frs_at {l : List Nat} {x : Nat} (h : x ∈ l) : ∃ i, (frs [] l).findIdx? (fun y => y == x) = some i := by
  have : ((frs [] l).findIdx? fun y => y == x).isSome := by
    rw [List.findIdx?_isSome]
    simpa using (mem_frs l [] x).mpr (.inr h)
  exact Option.isSome_iff_exists.mp this
theorem ev_dnotin {σ : L2.St} {H : Hp} {ty td : TE} {d : Addr} {y : V} {r : Option V} (hk : Ev ty σ H y) (hd : Ev td σ H (.ref d)) (g : DGet H d y r) : Ev (tDNotIn ty td) σ H (.bl (!r.isSome)) := fun H1 e Q q =>
  hk H1 e _ fun H2 e2 => hd H2 (e.trans e2) _ fun H3 e3 => ⟨d, r, rfl, dget_ex ((e.trans e2).trans e3) g, q H3 (e2.trans e3)⟩
def spGroupsOf (K : PySem.W.Frag) : Sp := fun vs H Q _ => ∃ (a : Addr) (l : List Nat), vs = [.ref a] ∧ SqL K H a (iv l) ∧ l.length ≤ 100 ∧
  ∀ (r : Addr) (H' : Hp), H r = none → Ex H H' → H' r = some (.lst (iv (Rl05.plain l))) → Q (.ref r) H'
section
variable {P : Program} {w : World} {K : PySem.W.Frag} {mg : Str → Option Value} {base : Heap} {C : Addr}
theorem scGroupsOf : FnScope ["marks", "numbers", "groups", "mark"] ["marks"] (defScope sGroupsOf) := ⟨rfl, rfl, rfl, by decide +kernel, rfl, by decide +kernel, by decide +kernel⟩
theorem ok_groupsOf {f : Addr} {fd : FuncData} (F : Fun K "groups_of" "groups_of" sGroupsOf f fd) (T : Txt K mg C) : FnOk P w K mg base CX0 1 f fd ["marks"] (spGroupsOf K) := by
  refine F.ok scGroupsOf (fun vs H Q E h => ?_) (fun cdv A outer s0 H vs Q E hr h => ?_)
  · obtain ⟨a, l, rfl, _⟩ := h
    rfl
  · obtain ⟨a, l, rfl, ha, hl, k⟩ := h
    refine ⟨_, pss_cons (ps_set (i := 1) scGroupsOf.nd rfl (.inl rfl) pe_dnewK)
      (pss_cons (ps_set (i := 2) scGroupsOf.nd rfl (.inl rfl) (pe_lst pa_nil))
      (pss_cons (ps_for PassesOwn.never rfl (pi_list (pv 0)) (pg_name (i := 3) scGroupsOf.nd rfl (.inl rfl))
        (pss_cut (ps_if (pt_cmp (pc_dnotin (hu_of hr) (pv 3) (pv 1))) (pss_one (ps_dput (hu_of hr) (pv 1) (pv 3) (pe_callB call_lenD (by rfl) T.gLen PySem.boot_len (pa_cons (pv 1) pa_nil)) rfl)) pss_nil)
        (pss_one (ps_expr (pe_bm PySem.F.plainAttrs_list PySem.F.slot_list_append PySem.F.type_list_append mt_append (pv 2) (pa_cons (pe_dget (hu_of hr) (pv 1) (pv 3) (fun _ _ => rfl)) pa_nil))))))
      (pss_one (ps_ret (pv 2))))), ?_⟩
    refine fun d hd => ⟨Nat.zero_le _, fun g hg => ?_⟩
    have e0 : Ex H (upd (upd H d (.dK [])) g (.lst [])) := (Ex.new hd).trans (Ex.new hg)
    have dg : d ≠ g := fun z => by rw [← z, upd_same] at hg; cases hg
    have hgH : H g = none := fresh_back (Ex.new hd) hg
    refine ⟨_, rfl, a, rfl, ⟨_, ex_l e0 ha⟩, for_list (K := K) (a := a) (xs := iv l) (fun i σ H' => ∃ v : Option V, σ = [some (.ref a), some (.ref d), some (.ref g), v] ∧ Ex H H' ∧
      H' d = some (.dK (nk 0 (frs [] (l.take i)))) ∧ H' g = some (.lst (iv (Rl05.plain (l.take i))))) ⟨none, rfl, e0, (upd_ne dg).trans upd_same, upd_same⟩ (fun i σ H' _ ⟨_, _, e, _⟩ => ex_l e ha) ?_ ?_⟩
    · rintro i y σ H1 hi ⟨v, rfl, e1, h1, h2⟩
      obtain ⟨x, hx, rfl⟩ : ∃ x, l[i]? = some x ∧ V.int (x : Int) = y := by
        unfold iv at hi
        rw [List.getElem?_map, Option.map_eq_some_iff] at hi
        exact hi
      have hil : i < l.length := (List.getElem?_eq_some_iff.mp hx).1
      have hfl : (frs [] (l.take i)).length ≤ 100 := by
        have := frs_len (l.take i) []
        rw [List.length_take] at this
        simp at this
        omega
      have hdv := DGet.k (k := Sum.inl (x : Int)) h1
      rw [nk_val] at hdv
      have gd : g ≠ d := dg.symm
      refine q_cut (M := fun σ H2 => σ = [some (.ref a), some (.ref d), some (.ref g), some (V.int (x : Int))] ∧ Ex H H2 ∧ H2 d = some (.dK (nk 0 (frs [] (l.take i ++ [x])))) ∧ H2 g = some (.lst (iv (Rl05.plain (l.take i)))))
        (s_when (et_B (ev_dnotin (ev_var rfl) (ev_var rfl) hdv)) (fun hT H2 e2 => ?_) (fun hF H2 e2 => ?_)) ?_
      · have hn : ((frs [] (l.take i)).findIdx? fun y => y == x) = none := by
          cases hq : (frs [] (l.take i)).findIdx? fun y => y == x with
          | none => rfl
          | some j => rw [hq] at hT; cases hT
        have hc : (frs [] (l.take i)).contains x = false := by
          rw [List.findIdx?_eq_none_iff] at hn
          rw [Bool.eq_false_iff]
          intro q
          have := hn x (by simpa using q)
          simp at this
        refine ⟨_, rfl, d, _, rfl, e2 _ _ h1, _, rfl, _, rfl, d, _, rfl, DPut.k (k := Sum.inl (x : Int)) (e2 _ _ h1) ?_, rfl, ?_, ?_, ?_⟩
        · rw [nk_len]
          exact Nat.lt_of_le_of_lt hfl (by decide)
        · exact Ex.mut (e1.trans e2) hd
        · rw [upd_same, putK_new _ (by rw [nk_val, hn]; rfl), frs_snoc, if_neg (by rw [hc]; exact Bool.false_ne_true), nk_snoc, nk_len, Nat.zero_add]
        · rw [upd_ne gd]
          exact e2 _ _ h2
      · have hs : ∃ j, ((frs [] (l.take i)).findIdx? fun y => y == x) = some j := by
          cases hq : (frs [] (l.take i)).findIdx? fun y => y == x with
          | none => rw [hq] at hF; cases hF
          | some j => exact ⟨j, rfl⟩
        have hc : (frs [] (l.take i)).contains x = true := by
          obtain ⟨j, hj⟩ := hs
          have : ((frs [] (l.take i)).findIdx? fun y => y == x).isSome := by rw [hj]; rfl
          rw [List.findIdx?_isSome] at this
          simpa using this
        refine ⟨rfl, e1.trans e2, ?_, e2 _ _ h2⟩
        rw [frs_snoc, if_pos hc]
        exact e2 _ _ h1
      · rintro σ H2 ⟨rfl, e2, h1', h2'⟩
        obtain ⟨j, hj⟩ := frs_at (l := l.take i ++ [x]) (x := x) (by simp)
        have hg1 := DGet.k (k := Sum.inl (x : Int)) h1'
        rw [nk_val, hj, Option.map_some, Nat.zero_add] at hg1
        refine s_app (K := K) h2' (ev_var rfl) (ev_dget (ev_var rfl) (ev_var rfl) hg1) ?_ fun H3 e3 => ?_
        · rw [iv_len, plain_length, List.length_take]
          omega
        · refine ⟨_, rfl, Ex.mut (e2.trans e3) hgH, ?_, ?_⟩
          · rw [upd_ne dg, take_snoc' hx]
            exact e3 _ _ h1'
          · rw [upd_same, take_snoc' hx, plain_snoc, hj]
            unfold iv
            rw [List.map_append]
            rfl
    · rintro σ H1 ⟨v, rfl, e1, h1, h2⟩
      refine ⟨_, rfl, k g H1 hgH e1 ?_⟩
      rw [iv_len, List.take_length] at h2
      exact h2
end
end Lp

namespace Lp
open PySem PySem.Spec PyProof.Rows L2 Evl
section
variable {K : PySem.W.Frag} {σ : L2.St} {H H' : Hp} {ta tb te td tk tl : TE} {t u : TT} {x y z v : V}
/-- a call on a new list -/
theorem el_callN {sp : Sp} {E : XK} {xs ys : List V} (h : EvL te σ H xs) (hs : ∀ a H1, H1 a = some (.lst xs) → Ex H H1 → SpL sp [.ref a] H1 ys) : EvL (tCall sp [] E (tCons te tNil)) σ H ys := fun H1 e Q q =>
  h H1 e _ fun a H2 _ e2 h2 => hs a H2 h2 (e.trans e2) H2 (Ex.refl H2) Q (fun p H3 hp e3 h3 => q p H3 (fresh_back e2 hp) (e2.trans e3) h3) E
theorem el_is {xs ys : List V} (h : EvL te σ H xs) (e : xs = ys) : EvL te σ H ys := e ▸ h
end
def spWith (K : PySem.W.Frag) : Sp := fun vs H Q _ => ∃ (a : Addr) (g : List Nat) (x y : Nat), vs = [.ref a, .int (x : Int), .int (y : Int)] ∧ SqL K H a (iv g) ∧ g.length ≤ 7 ∧
  ∀ (r : Addr) (H' : Hp), H r = none → Ex H H' → H' r = some (.lst (iv (Rl05.join g x y))) → Q (.ref r) H'
def spLinked : Sp := fun vs H Q _ => ∃ (n : Nat) (b : Addr) (ps : List (Nat × Nat)), vs = [.int (n : Int), .ref b] ∧ n ≤ 7 ∧ Rows H b pO ps ∧ (∀ p ∈ ps, InR n p.1 ∧ InR n p.2) ∧
  ∀ (r : Addr) (H' : Hp), H r = none → Ex H H' → H' r = some (.lst (iv (Rl05.joinAll n ps))) → Q (.ref r) H'
def spLowest (K : PySem.W.Frag) : Sp := fun vs H Q _ => ∃ (a : Addr) (ns : List Nat), vs = [.ref a] ∧ SqL K H a (iv ns) ∧
  ∀ (r : Addr) (H' : Hp), H r = none → Ex H H' → H' r = some (.lst ((Rl05.opt (Rl05.least? ns)).map V.int)) → Q (.ref r) H'
section
variable {P : Program} {w : World} {K : PySem.W.Frag} {mg : Str → Option Value} {base : Heap} {C : Addr}
theorem scWith : FnScope ["groups", "one", "other", "number"] ["groups", "one", "other"] (defScope sWith) := ⟨rfl, rfl, rfl, by decide +kernel, rfl, by decide +kernel, by decide +kernel⟩
theorem sl_groupsOf {H : Hp} {a : Addr} {l : List Nat} (ha : SqL K H a (iv l)) (hl : l.length ≤ 100) : SpL (spGroupsOf K) [.ref a] H (iv (Rl05.plain l)) := fun H1 e Q q E => ⟨a, l, rfl, ex_l e ha, hl, q⟩
theorem ok_with {f fG : Addr} {fd fdG : FuncData} (F : Fun K "with_joined" "with_joined" sWith f fd) (T : Txt K mg C) (GG : FnOk P w K mg base CX0 1 fG fdG ["marks"] (spGroupsOf K)) (gG : mg "groups_of" = some (.ref fG)) (kG : PySem.W.keepIn K (.ref fG) = true) (bG : Binds K fdG ["marks"] []) :
    FnOk P w K mg base CX0 2 f fd ["groups", "one", "other"] (spWith K) := by
  refine F.ok scWith (fun vs H Q E h => ?_) (fun cdv A outer s0 H vs Q E hr h => ?_)
  · obtain ⟨a, g, x, y, rfl, _⟩ := h
    rfl
  · obtain ⟨a, g, x, y, rfl, ha, hl, k⟩ := h
    refine ⟨_, pss_one (ps_ret (pe_call GG hr rfl gG kG bG .nil pass0 (pa_cons
      (pe_lc (own := [("number", 3)]) (g := gName 3) (tt := tYes) (te := tIf (tTest (tOp rEq (tVar 3) (tVar 2))) (tVar 1) (tVar 3)) rfl scWith.nd (pi_list (pv 0)) (blkOk_by (own := [("number", 3)]) (N := ["groups", "one", "other", "number"]) (sc := defScope sWith) (by decide +kernel))
        (fun _ _ _ _ _ => pg_name (i := 3) scWith.nd rfl (Or.inl rfl)) (fun _ _ _ _ _ => pts_nil) (fun _ _ _ _ _ => ?e)) pa_nil))), ?_⟩
    case e => exact pe_ifExp (pt_cmpR op_eq (pv 3) (pv 2) (nomark _)) (pv 1) (pv 3)
    refine s_retL (el_callN (xs := iv (g.map fun z => if z = y then x else z)) ?_ fun b H1 hb e1 => sl_groupsOf (SqL.of hb) (by rw [List.length_map]; omega)) k
    have key := el_comp (K := K) (σ := [some (.ref a), some (.int (x : Int)), some (.int (y : Int)), none]) (H := H) (tl := tVar 0) (j := 3) (vs := [3]) (t := tYes) (te := tIf (tTest (tOp rEq (tVar 3) (tVar 2))) (tVar 1) (tVar 3))
      (fun z : Nat => V.int (z : Int)) (fun _ => true) (fun z => V.int ((if z = y then x else z : Nat) : Int)) (ev_var rfl) ha (by omega) (fun x => rfl) (fun z hz => et_yes) (fun z hz _ => ev_if (et_eqI (ev_var rfl) (ev_var rfl)) (fun hT => ?_) (fun hF => ?_))
    · rw [List.filter_eq_self.mpr (fun _ _ => rfl)] at key
      unfold iv
      rw [List.map_map]
      exact key
    · have := of_decide_eq_true hT
      refine ev_is (ev_var rfl) ?_
      rw [if_pos (by omega)]
    · have := of_decide_eq_false hF
      refine ev_is (ev_var rfl) ?_
      rw [if_neg (by omega)]
theorem scLinked : FnScope ["size", "links", "groups", "pair"] ["size", "links"] (defScope sLinked) := ⟨rfl, rfl, rfl, by decide +kernel, rfl, by decide +kernel, by decide +kernel⟩
theorem jfold_snoc (g : List Nat) (ps : List (Nat × Nat)) (p : Nat × Nat) : jfold g (ps ++ [p]) = Rl05.join (jfold g ps) ((jfold g ps).getD (p.1 - 1) 0) ((jfold g ps).getD (p.2 - 1) 0) := by
  unfold jfold
  rw [List.foldl_append]
  rfl
theorem rgV_iv (n : Nat) : rgV 0 (n : Int) = iv (Rl05.single n) := by
  unfold rgV iv Rl05.single
  rw [show ((n : Int) - 0).toNat = n by omega]
  refine List.map_congr_left fun i _ => ?_
  rw [Int.zero_add]
theorem sl_with {H : Hp} {a : Addr} {g : List Nat} {x y : Nat} (ha : SqL K H a (iv g)) (hl : g.length ≤ 7) : SpL (spWith K) [.ref a, .int (x : Int), .int (y : Int)] H (iv (Rl05.join g x y)) := fun H1 e Q q E => ⟨a, g, x, y, rfl, ex_l e ha, hl, q⟩
/-- groups[pair[i] - 1] -/
theorem ev_grp {H : Hp} {σ : L2.St} {ta tb ti : TE} {a b : Addr} {g : List Nat} {q : Nat × Nat} {i : Nat} {m : Nat} (ha : Ev ta σ H (.ref a)) (hg : SqL K H a (iv g)) (hb : Ev tb σ H (.ref b)) (hB : H b = some (pO q)) (hi : Ev ti σ H (.int (i : Int))) (hm : ([V.int (q.1 : Int), V.int (q.2 : Int)] : List V)[i]? = some (.int (m : Int))) (hr : InR g.length m) :
    Ev (tOp (rIxL K) ta (tOp (rI0 fun a b => V.int (a - b)) (tOp (rIxT K) tb ti) (tC (.int 1)))) σ H (.int ((g.getD (m - 1) 0 : Nat) : Int)) := by
  unfold InR at hr
  exact ev_op ha (ev_op (ev_op hb hi (rv_ixT (st_of hB) (at_of (j := i) rfl hm))) ev_c rv_I0) (rv_ixL hg (at_of (j := m - 1) (by omega) (iv_get (by omega))))
theorem ok_linked {f fW : Addr} {fd fdW : FuncData} (F : Fun K "linked_groups" "linked_groups" sLinked f fd) (T : Txt K mg C) (GW : FnOk P w K mg base CX0 2 fW fdW ["groups", "one", "other"] (spWith K)) (gW : mg "with_joined" = some (.ref fW)) (kW : PySem.W.keepIn K (.ref fW) = true) (bW : Binds K fdW ["groups", "one", "other"] []) :
    FnOk P w K mg base CX0 3 f fd ["size", "links"] spLinked := by
  refine F.ok scLinked (fun vs H Q E h => ?_) (fun cdv A outer s0 H vs Q E hr h => ?_)
  · obtain ⟨n, b, ps, rfl, _⟩ := h
    rfl
  · obtain ⟨n, b, ps, rfl, hn, ⟨ts, R, er⟩, hps, k⟩ := h
    refine ⟨_, pss_cons (ps_set (i := 2) scLinked.nd rfl (.inl rfl) (pe_listRg rfl (by rfl) T.gList (prg_1 (by rfl) T.gRange (pv 0))))
      (pss_cons (ps_for PassesOwn.never rfl (pi_list (pv 1)) (pg_name (i := 3) scLinked.nd rfl (.inl rfl))
        (pss_one (ps_set (i := 2) scLinked.nd rfl (.inl rfl) (pe_call GW hr rfl gW kW bW .nil pass0 (pa_cons (pv 2)
          (pa_cons (pe_ix ix_list (pv 2) (pe_op op_sub (pe_ix ix_tup (pv 3) pe_int (fun _ _ => rfl)) pe_int) (fun _ _ => rfl))
          (pa_cons (pe_ix ix_list (pv 2) (pe_op op_sub (pe_ix ix_tup (pv 3) pe_int (fun _ _ => rfl)) pe_int) (fun _ _ => rfl)) pa_nil)))))))
      (pss_one (ps_ret (pv 2)))), ?_⟩
    refine ⟨_, rfl, (n : Int), rfl, ⟨by omega, by omega, by omega, by omega, by omega⟩, fun g0 hg0 => ?_⟩
    rw [rgV_iv]
    refine q_forL (K := K) (σ := [some (.int (n : Int)), some (.ref b), some (.ref g0), none]) (xs := ts.map fun t => V.ref t.1) (ev_var rfl) (SqL.of (Ex.new hg0 _ _ R.lst))
      (fun i σ H' => ∃ (r : Addr) (v : Option V), σ = [some (.int (n : Int)), some (.ref b), some (.ref r), v] ∧ Ex H H' ∧ H r = none ∧ H' r = some (.lst (iv (jfold (Rl05.single n) (ps.take i)))))
      (fun H1 e1 => ⟨g0, none, rfl, (Ex.new hg0).trans e1, hg0, e1 _ _ upd_same⟩) (fun i σ H' _ ⟨_, _, _, e, _⟩ => SqL.of (e _ _ R.lst)) ?_ ?_
    · rintro i y σ H1 hi ⟨r, v, rfl, e1, hr0, h1⟩
      obtain ⟨⟨c, q⟩, ht, rfl⟩ : ∃ t, ts[i]? = some t ∧ V.ref t.1 = y := by
        rw [List.getElem?_map, Option.map_eq_some_iff] at hi
        exact hi
      have hq : ps[i]? = some q := by rw [← er, List.getElem?_map, ht]; rfl
      have hc : H1 c = some (pO q) := e1 _ _ (R.at_ _ (List.mem_of_getElem? ht)).1
      have hqm := hps q (List.mem_of_getElem? hq)
      have hlen : (jfold (Rl05.single n) (ps.take i)).length = n := by rw [jfold_length, single_length]
      refine s_asgL (el_call (ea_cons (ev_var rfl) (ea_cons (ev_grp (ev_var rfl) (SqL.of h1) (ev_var rfl) hc (ev_c (v := .int ((0 : Nat) : Int))) rfl (by rw [hlen]; exact hqm.1)) (ea_cons (ev_grp (ev_var rfl) (SqL.of h1) (ev_var rfl) hc (ev_c (v := .int ((1 : Nat) : Int))) rfl (by rw [hlen]; exact hqm.2)) ea_nil)))
        (sl_with (SqL.of h1) (by rw [hlen]; exact hn))) fun r2 H2 hr2 e2 h2 => ?_
      refine ⟨r2, _, rfl, e1.trans e2, fresh_back e1 hr2, ?_⟩
      rw [take_snoc' hq, jfold_snoc]
      exact h2
    · rintro σ H1 ⟨r, v, rfl, e1, hr0, h1⟩
      refine ⟨_, rfl, k r H1 hr0 e1 ?_⟩
      have et : ps.take (ts.map fun t => V.ref t.1).length = ps := by
        rw [← er]
        exact List.take_of_length_le (by rw [List.length_map, List.length_map]; exact Nat.le_refl _)
      rw [et] at h1
      exact h1
theorem scLowest : FnScope ["costs"] ["costs"] (defScope sLowest) := ⟨rfl, rfl, rfl, by decide +kernel, rfl, by decide +kernel, by decide +kernel⟩
theorem ok_lowest {f : Addr} {fd : FuncData} (F : Fun K "told_lowest" "told_lowest" sLowest f fd) (T : Txt K mg C) : FnOk P w K mg base CX0 1 f fd ["costs"] (spLowest K) := by
  refine F.ok scLowest (fun vs H Q E h => ?_) (fun cdv A outer s0 H vs Q E hr h => ?_)
  · obtain ⟨a, ns, rfl, _⟩ := h
    rfl
  · obtain ⟨a, ns, rfl, ha, k⟩ := h
    refine ⟨_, pss_cons (ps_if (pt_cmpR op_eq (pe_callB call_len_seq (by rfl) T.gLen PySem.boot_len (pa_cons (pv 0) pa_nil)) pe_int (nomark _)) (pss_one (ps_ret (pe_lst (pa_cons pe_int pa_nil)))) pss_nil)
      (pss_one (ps_ret (pe_lst (pa_cons pe_int (pa_cons (pe_callB (cr_min rfl) (by rfl) T.gMin (by decide +kernel) (pa_cons (pv 0) pa_nil)) pa_nil))))), ?_⟩
    refine q_when (et_lenN (K := K) (ev_var rfl) ha ev_c) (fun hT H1 e1 => ?_) (fun hF H1 e1 => ?_)
    · have hns : ns = [] := List.map_eq_nil_iff.mp (of_decide_eq_true hT)
      subst hns
      exact s_retL (el_lst (ea_cons ev_c ea_nil) (by decide)) fun r H2 hr2 e2 h2 => k r H2 (fresh_back e1 hr2) (e1.trans e2) h2
    · have hns : ns ≠ [] := fun q => by
        have := of_decide_eq_false hF
        exact this (by rw [q]; rfl)
      obtain ⟨c, hc⟩ : ∃ c, Rl05.least? ns = some c := by
        cases e : Rl05.least? ns with
        | none => exact absurd (least_none.mp e) hns
        | some c => exact ⟨c, rfl⟩
      have hm : Ev (tCB (rMin K) (tCons (tVar 0) tNil)) [some (.ref a)] H1 (.int (c : Int)) := fun H2 e2 Q q => ⟨.ref a, rfl, a, Rl05.ints ns, rfl, by rw [← iv_ints]; exact ex_l (e1.trans e2) ha, by
          unfold Rl05.ints
          rw [List.length_map]
          exact List.length_pos_iff.mpr hns, fun m hm hmin => by
          obtain ⟨m', h1, rfl⟩ := mem_ints.mp hm
          have h2 : Rl05.least? ns = some m' := least_some.mpr ⟨h1, fun x hx => by have := hmin _ (mem_ints.mpr ⟨x, hx, rfl⟩); omega⟩
          rw [hc] at h2
          cases h2
          exact q H2 (Ex.refl H2)⟩
      refine s_retL (el_lst (ea_cons ev_c (ea_cons hm ea_nil)) (by show 2 ≤ 100000; decide)) fun r H2 hr2 e2 h2 => k r H2 (fresh_back e1 hr2) (e1.trans e2) ?_
      rw [h2, hc]
      rfl
end
end Lp

namespace Lp
open PySem PySem.Spec PyProof.Rows L2 Evl
abbrev sToldC : Stmt := inClass sDesk 7
abbrev sIsJoined : Stmt := inClass sDesk 8
abbrev sByRules : Stmt := inClass sDesk 9
abbrev sAcross : Stmt := inClass sDesk 10
abbrev sMayJoin : Stmt := inClass sDesk 11
abbrev sGainOf : Stmt := inClass sDesk 12
abbrev sNext : Stmt := inClass sDesk 13
section
variable {K : PySem.W.Frag} {σ : L2.St} {H H' : Hp} {ta tb te td tk tl : TE} {t u : TT} {x y z v : V}
theorem el_methN {C a dx : Addr} {fs : List (Str × V)} {m : Str} {sp : Sp} {E : XK} {xs ys : List V} (ha : Ev ta σ H (.ref a)) (ho : H a = some (.ins C dx fs)) (hl : fs.lookup m = none) (h : EvL te σ H xs) (hs : ∀ b H1, H1 b = some (.lst xs) → Ex H H1 → SpL sp [.ref a, .ref b] H1 ys) :
    EvL (tMeth C m sp [] E ta (tCons te tNil)) σ H ys := fun H1 e Q q =>
  ha H1 e _ fun H2 e2 => ⟨a, dx, fs, rfl, (e.trans e2) _ _ ho, hl, h H2 (e.trans e2) _ fun b H3 hb e3 h3 => hs b H3 h3 ((e.trans e2).trans e3) H3 (Ex.refl H3) Q (fun p H4 hp e4 h4 => q p H4 (fresh_back (e2.trans e3) hp) ((e2.trans e3).trans e4) h4) E⟩
theorem el_meth {C a dx : Addr} {fs : List (Str × V)} {m : Str} {sp : Sp} {dvs vs : List V} {E : XK} {t : TA} {ys : List V} (ha : Ev ta σ H (.ref a)) (ho : H a = some (.ins C dx fs)) (hl : fs.lookup m = none) (hA : EvA t σ H vs) (hs : SpL sp (.ref a :: (vs ++ dvs)) H ys) :
    EvL (tMeth C m sp dvs E ta t) σ H ys := fun H1 e Q q =>
  ha H1 e _ fun H2 e2 => ⟨a, dx, fs, rfl, (e.trans e2) _ _ ho, hl, hA H2 (e.trans e2) _ fun H3 e3 => hs H3 ((e.trans e2).trans e3) Q (fun p H4 hp e4 h4 => q p H4 (fresh_back (e2.trans e3) hp) ((e2.trans e3).trans e4) h4) E⟩
theorem el_callVN {sp : Sp} {E : XK} {xs ys : List V} (hx : Ev ta σ H x) (h : EvL te σ H xs) (hs : ∀ b H1, H b = none → H1 b = some (.lst xs) → Ex H H1 → SpL sp [x, .ref b] H1 ys) : EvL (tCall sp [] E (tCons ta (tCons te tNil))) σ H ys := fun H1 e Q q =>
  hx H1 e _ fun H2 e2 => h H2 (e.trans e2) _ fun b H3 hb e3 h3 => hs b H3 (fresh_back (e.trans e2) hb) h3 ((e.trans e2).trans e3) H3 (Ex.refl H3) Q (fun p H4 hp e4 h4 => q p H4 (fresh_back (e2.trans e3) hp) ((e2.trans e3).trans e4) h4) E
theorem ev_neI {i j : Int} (ha : Ev ta σ H (.int i)) (hb : Ev tb σ H (.int j)) : Ev (tOp rNe ta tb) σ H (.bl (!decide (i = j))) := by
  have e : decide (V.int i = V.int j) = decide (i = j) := by
    by_cases h : i = j
    · rw [h]; simp
    · rw [decide_eq_false h, decide_eq_false fun q => h (by injection q)]
  rw [← e]
  exact ev_op ha hb (rv_ne rfl)
theorem ev_eqI {i j : Int} (ha : Ev ta σ H (.int i)) (hb : Ev tb σ H (.int j)) : Ev (tOp rEq ta tb) σ H (.bl (decide (i = j))) := by
  have e : decide (V.int i = V.int j) = decide (i = j) := by
    by_cases h : i = j
    · rw [h]; simp
    · rw [decide_eq_false h, decide_eq_false fun q => h (by injection q)]
  rw [← e]
  exact ev_op ha hb (rv_eq rfl)
theorem ev_maxL {a : Addr} {g : List Nat} (h : Ev ta σ H (.ref a)) (ha : SqL K H a (iv g)) (hg : g ≠ []) : Ev (tCB (rMax K) (tCons ta tNil)) σ H (.int ((mx 0 g : Int) - 1)) := fun H1 e Q q =>
  h H1 e _ fun H2 e2 => ⟨a, Rl05.ints g, rfl, by rw [← iv_ints]; exact ex_l (e.trans e2) ha, by
    unfold Rl05.ints
    rw [List.length_map]
    exact List.length_pos_iff.mpr hg, fun m hm hmax => by
    obtain ⟨m', h1, rfl⟩ := mem_ints.mp hm
    have hx : mx 0 g = m' + 1 := mx_max h1 fun y hy => by have := hmax _ (mem_ints.mpr ⟨y, hy, rfl⟩); omega
    have e3 : ((mx 0 g : Int) - 1) = (m' : Int) := by omega
    rw [← e3]
    exact q H2 e2⟩
end
def toldC (s : Rl05.St) (g : List Nat) : List Int := Rl05.ints (Rl05.cost s g :: (if Rl05.keeps s g = true then 1 else 0) :: g)
def spToldC (C : Addr) : Sp := fun vs H Q _ => ∃ (p a : Addr) (s : Rl05.St) (g : List Nat), vs = [.ref p, .ref a] ∧ DeskAt C H p s ∧ H a = some (.lst (iv g)) ∧ g.length = s.n ∧
  ∀ (r : Addr) (H' : Hp), H r = none → Ex H H' → H' r = some (.lst ((toldC s g).map V.int)) → Q (.ref r) H'
def jn (s : Rl05.St) (t : Nat) (q : Nat × Nat) : Bool := decide (ruleF s q = 1) || decide (conF s q + t ≤ proF s q)
def spIsJoined (C : Addr) : Sp := fun vs H Q _ => ∃ (p b : Addr) (s : Rl05.St) (q : Nat × Nat) (t : Nat), vs = [.ref p, .ref b, .int (t : Int)] ∧ DeskAt C H p s ∧ H b = some (pO q) ∧ q ∈ Rl05.pairs s ∧ ∀ H', Ex H H' → Q (.bl (jn s t q)) H'
def spByRules (C : Addr) : Sp := fun vs H Q _ => ∃ (p : Addr) (s : Rl05.St), vs = [.ref p] ∧ DeskAt C H p s ∧ ∀ (r : Addr) (H' : Hp), H r = none → Ex H H' → H' r = some (.lst (iv (Rl05.musts s))) → Q (.ref r) H'
def crossB (g : List Nat) (lo hi : Nat) (q : Nat × Nat) : Bool := decide (min (g.getD (q.1 - 1) 0) (g.getD (q.2 - 1) 0) = lo) && decide (max (g.getD (q.1 - 1) 0) (g.getD (q.2 - 1) 0) = hi)
def spAcross (K : PySem.W.Frag) (C : Addr) : Sp := fun vs H Q _ => ∃ (p a : Addr) (s : Rl05.St) (g : List Nat) (lo hi : Nat), vs = [.ref p, .ref a, .int (lo : Int), .int (hi : Int)] ∧ DeskAt C H p s ∧ SqL K H a (iv g) ∧ g.length = s.n ∧
  ∀ (r : Addr) (H' : Hp), Ex H H' → Rows H' r pO ((Rl05.pairs s).filter (crossB g lo hi)) → Q (.ref r) H'
def spOver (C : Addr) (F : Rl05.St → List (Nat × Nat) → V) : Sp := fun vs H Q _ => ∃ (p b : Addr) (s : Rl05.St) (qs : List (Nat × Nat)), vs = [.ref p, .ref b] ∧ DeskAt C H p s ∧ Rows H b pO qs ∧ (∀ q ∈ qs, q ∈ Rl05.pairs s) ∧ qs.length ≤ 21 ∧
  ∀ H', Ex H H' → Q (F s qs) H'
def mayV (s : Rl05.St) (qs : List (Nat × Nat)) : V := .bl (qs.all fun q => !decide ((ruleF s q : Int) = 2))
def gainV (s : Rl05.St) (qs : List (Nat × Nat)) : V := .int ((qs.map fun q => (proF s q : Int) - (conF s q : Int)).sum)
section
variable {P : Program} {w : World} {K : PySem.W.Frag} {mg : Str → Option Value} {base : Heap} {C : Addr}
theorem scToldC : FnScope ["self", "groups"] ["self", "groups"] (defScope sToldC) := ⟨rfl, rfl, rfl, by decide +kernel, rfl, by decide +kernel, by decide +kernel⟩
theorem ok_toldC {f fK fO : Addr} {fd fdK fdO : FuncData} (F : Fun K "told_with_cost" "Desk.told_with_cost" sToldC f fd) (T : Txt K mg C)
    (GK : FnOk P w K mg base CX0 2 fK fdK ["self", "groups"] (spKeeps K C)) (mK : Meth K C "keeps" fK) (bK : Binds K fdK ["self", "groups"] [])
    (GO : FnOk P w K mg base CX0 2 fO fdO ["self", "groups"] (spCostOf K C)) (mO : Meth K C "cost_of" fO) (bO : Binds K fdO ["self", "groups"] []) :
    FnOk P w K mg base CX0 3 f fd ["self", "groups"] (spToldC C) := by
  refine F.ok scToldC (fun vs H Q E h => ?_) (fun cdv A outer s0 H vs Q E hr h => ?_)
  · obtain ⟨p, a, s, g, rfl, _⟩ := h
    rfl
  · obtain ⟨p, a, s, g, rfl, ⟨dx, pa, pr, co, ru, D⟩, ha, hl, k⟩ := h
    refine ⟨_, pss_one (ps_ret (pe_op op_cat (pe_lst (pa_cons (pe_meth (pv 0) T.cl mO GO hr bO .nil pass0 (pa_cons (pv 1) pa_nil)) (pa_cons
      (pe_ifExp (pt_val (pe_meth (pv 0) T.cl mK GK hr bK .nil pass0 (pa_cons (pv 1) pa_nil))) pe_int pe_int) pa_nil))) (pv 1))), ?_⟩
    have hk : Ev (tIf (tB (tMeth C "keeps" (spKeeps K C) [] E0 (tVar 0) (tCons (tVar 1) tNil))) (tC (.int 1)) (tC (.int 0))) [some (.ref p), some (.ref a)] H (.int ((if Rl05.keeps s g = true then 1 else 0 : Nat) : Int)) :=
      ev_if (et_B (ev_meth (ev_var rfl) D.ins no_keeps (ea_cons (ev_var rfl) ea_nil) (sv_keeps ⟨_, _, _, _, _, D⟩ (SqL.of ha) hl))) (fun hT => ev_is ev_c (by rw [if_pos hT]; rfl)) (fun hF => ev_is ev_c (by rw [if_neg (by rw [hF]; exact Bool.false_ne_true)]; rfl))
    refine s_retL (el_cat (el_lst (ea_cons (ev_meth (ev_var rfl) D.ins no_costOf (ea_cons (ev_var rfl) ea_nil) (sv_costOf ⟨_, _, _, _, _, D⟩ (SqL.of ha) hl)) (ea_cons hk ea_nil)) (by show 2 ≤ 100000; decide)) (ev_var rfl) ha ?_) fun r H1 hr1 e1 h1 => k r H1 hr1 e1 ?_
    · rw [iv_len, hl]
      exact show 2 + s.n ≤ 100000 by have := D.hi; omega
    · rw [h1, iv_ints]
      rfl
theorem scIsJoined : FnScope ["self", "pair", "t"] ["self", "pair", "t"] (defScope sIsJoined) := ⟨rfl, rfl, rfl, by decide +kernel, rfl, by decide +kernel, by decide +kernel⟩
theorem ok_isJoined {f : Addr} {fd : FuncData} (F : Fun K "is_joined" "Desk.is_joined" sIsJoined f fd) (T : Txt K mg C) : FnOk P w K mg base CX0 1 f fd ["self", "pair", "t"] (spIsJoined C) := by
  refine F.ok scIsJoined (fun vs H Q E h => ?_) (fun cdv A outer s0 H vs Q E hr h => ?_)
  · obtain ⟨p, b, s, q, t, rfl, _⟩ := h
    rfl
  · obtain ⟨p, b, s, q, t, rfl, ⟨dx, pa, pr, co, ru, D⟩, hb, hq, k⟩ := h
    obtain ⟨t1, gM⟩ := T.gMUST
    refine ⟨_, pss_one (ps_ret (pe_or (pe_cmpR op_eq (pe_dget (hu_of hr) (pe_fld (pv 0) rfl) (pv 1) (fun _ _ => rfl)) (pe_glob (v := .int 1) rfl gM ⟨_, rfl⟩) (nomark _))
      (pe_one (pe_cmpR op_ge (pe_dget (hu_of hr) (pe_fld (pv 0) rfl) (pv 1) (fun _ _ => rfl)) (pe_op op_add (pe_dget (hu_of hr) (pe_fld (pv 0) rfl) (pv 1) (fun _ _ => rfl)) (pv 2)) (nomark _))))), ?_⟩
    refine s_ret (ev_is (ev_orV (ev_eqI (ev_dget (ev_fld (ev_var rfl) D.ins T.cl T.nRules df_rule) (ev_var rfl) (tab_get D.rule hb hq)) ev_c) fun _ => ev_op (ev_dget (ev_fld (ev_var rfl) D.ins T.cl T.nPro df_pro) (ev_var rfl) (tab_get D.pro hb hq))
      (ev_op (ev_dget (ev_fld (ev_var rfl) D.ins T.cl T.nCon df_con) (ev_var rfl) (tab_get D.con hb hq)) (ev_var rfl) rv_I0) rv_I0) ?_) k
    unfold jn
    congr 2
    · exact decide_eq_decide.mpr (by omega)
    · exact decide_eq_decide.mpr (by omega)
theorem scByRules : FnScope ["self", "pair"] ["self"] (defScope sByRules) := ⟨rfl, rfl, rfl, by decide +kernel, rfl, by decide +kernel, by decide +kernel⟩
theorem sl_linked {H : Hp} {n : Nat} {b : Addr} {ps : List (Nat × Nat)} (hn : n ≤ 7) (R : Rows H b pO ps) (hp : ∀ p ∈ ps, InR n p.1 ∧ InR n p.2) : SpL spLinked [.int (n : Int), .ref b] H (iv (Rl05.joinAll n ps)) := fun H1 e Q q E => ⟨n, b, ps, rfl, hn, R.mono e, hp, q⟩
theorem ok_byRules {f fL : Addr} {fd fdL : FuncData} (F : Fun K "joined_by_rules" "Desk.joined_by_rules" sByRules f fd) (T : Txt K mg C)
    (GL : FnOk P w K mg base CX0 3 fL fdL ["size", "links"] spLinked) (gL : mg "linked_groups" = some (.ref fL)) (kL : PySem.W.keepIn K (.ref fL) = true) (bL : Binds K fdL ["size", "links"] []) :
    FnOk P w K mg base CX0 4 f fd ["self"] (spByRules C) := by
  refine F.ok scByRules (fun vs H Q E h => ?_) (fun cdv A outer s0 H vs Q E hr h => ?_)
  · obtain ⟨p, s, rfl, _⟩ := h
    rfl
  · obtain ⟨p, s, rfl, ⟨dx, pa, pr, co, ru, D⟩, k⟩ := h
    obtain ⟨t1, gM⟩ := T.gMUST
    refine ⟨_, pss_one (ps_ret (pe_call GL hr rfl gL kL bL .nil pass0 (pa_cons (pe_fld (pv 0) rfl) (pa_cons
      (pe_lc (own := [("pair", 1)]) (g := gName 1) (tt := tTest (tOp rEq (tDGet (tFld K (tVar 0) "rules") (tVar 1)) (tC (.int 1)))) (te := tVar 1) rfl scByRules.nd (pi_list (pe_fld (pv 0) rfl)) (blkOk_by (own := [("pair", 1)]) (N := ["self", "pair"]) (sc := defScope sByRules) (by decide +kernel))
        (fun _ _ _ _ _ => pg_name (i := 1) scByRules.nd rfl (Or.inl rfl)) (fun _ _ _ _ _ => ?t1) (fun _ _ _ _ _ => pv 1)) pa_nil)))), ?_⟩
    case t1 => exact pts_one (pt_cmpR op_eq (pe_dget (hu_of hr) (pe_fld (pv 0) rfl) (pv 1) (fun _ _ => rfl)) (pe_glob (v := .int 1) rfl gM ⟨_, rfl⟩) (nomark _))
    obtain ⟨ts, R, er⟩ := D.pairs
    have hts : ts.length ≤ 40000 := by
      have := congrArg List.length er
      rw [List.length_map, pairsN_eq] at this
      have := pairsN_len D.hi
      omega
    have key := el_comp (K := K) (σ := [some (.ref p), none]) (H := H) (tl := tFld K (tVar 0) "pairs") (j := 1) (vs := [1]) (t := tTest (tOp rEq (tDGet (tFld K (tVar 0) "rules") (tVar 1)) (tC (.int 1)))) (te := tVar 1)
      (fun t : Addr × Nat × Nat => V.ref t.1) (fun t => decide ((ruleF s t.2 : Int) = 1)) (fun t => V.ref t.1) (ev_fld (ev_var rfl) D.ins T.cl T.nPairs df_pairs) (SqL.of R.lst) hts (fun x => rfl)
      (fun t ht => et_eqI (ev_dget (ev_fld (ev_var rfl) D.ins T.cl T.nRules df_rule) (ev_var rfl) (tab_get D.rule (R.at_ t ht).1 (by rw [← er]; exact List.mem_map_of_mem ht))) ev_c) (fun t ht _ => ev_var rfl)
    have em : (ts.filter fun t => decide ((ruleF s t.2 : Int) = 1)).map (·.2) = (Rl05.pairs s).filter fun p => (Rl05.voteOf s p.1 p.2).rule == 1 := by
      rw [← er, List.filter_map]
      congr 1
      refine List.filter_congr fun t _ => ?_
      show decide ((ruleF s t.2 : Int) = 1) = (ruleF s t.2 == 1)
      by_cases h : ruleF s t.2 = 1
      · rw [h]; rfl
      · rw [beq_eq_false_iff_ne.mpr h]
        exact decide_eq_false (by omega)
    exact s_retL (el_callVN (ev_fld (ev_var rfl) D.ins T.cl T.nSize df_size) key fun b H1 hb h1 e1 => sl_linked D.hi ⟨_, rows_filter (G := fun q => decide ((ruleF s q : Int) = 1)) R e1 hb h1, em⟩ fun q hq => pairs_in (List.mem_filter.mp hq).1) k
theorem scAcross : FnScope ["self", "groups", "low", "high", "across", "pair", "first", "second"] ["self", "groups", "low", "high"] (defScope sAcross) := ⟨rfl, rfl, rfl, by decide +kernel, rfl, by decide +kernel, by decide +kernel⟩
theorem ok_across {f : Addr} {fd : FuncData} (F : Fun K "pairs_across" "Desk.pairs_across" sAcross f fd) (T : Txt K mg C) : FnOk P w K mg base CX0 1 f fd ["self", "groups", "low", "high"] (spAcross K C) := by
  refine F.ok scAcross (fun vs H Q E h => ?_) (fun cdv A outer s0 H vs Q E hr h => ?_)
  · obtain ⟨p, a, s, g, lo, hi, rfl, _⟩ := h
    rfl
  · obtain ⟨p, a, s, g, lo, hi, rfl, ⟨dx, pa, pr, co, ru, D⟩, ha, hl, k⟩ := h
    refine ⟨_, pss_cons (ps_set (i := 4) scAcross.nd rfl (.inl rfl) (pe_lst pa_nil))
      (pss_cons (ps_for PassesOwn.never rfl (pi_list (pe_fld (pv 0) rfl)) (pg_name (i := 5) scAcross.nd rfl (.inl rfl))
        (pss_cons (ps_set (i := 6) scAcross.nd rfl (.inl rfl) (pe_ix ix_list (pv 1) (pe_op op_sub (pe_ix ix_tup (pv 5) pe_int (fun _ _ => rfl)) pe_int) (fun _ _ => rfl)))
        (pss_cons (ps_set (i := 7) scAcross.nd rfl (.inl rfl) (pe_ix ix_list (pv 1) (pe_op op_sub (pe_ix ix_tup (pv 5) pe_int (fun _ _ => rfl)) pe_int) (fun _ _ => rfl)))
        (pss_one (ps_if (PW.pt (pw_and (pt_cmpR op_eq (pe_callB (call_min2 rfl) (by rfl) T.gMin (by decide +kernel) (pa_cons (pv 6) (pa_cons (pv 7) pa_nil))) (pv 2) (nomark _)) (pw_and1 (pt_cmpR op_eq (pe_callB (call_max2 rfl) (by rfl) T.gMax (by decide +kernel) (pa_cons (pv 6) (pa_cons (pv 7) pa_nil))) (pv 3) (nomark _)))))
          (pss_one (ps_expr (pe_bm PySem.F.plainAttrs_list PySem.F.slot_list_append PySem.F.type_list_append mt_append (pv 4) (pa_cons (pv 5) pa_nil)))) pss_nil)))))
      (pss_one (ps_ret (pv 4)))), ?_⟩
    obtain ⟨ts, R, er⟩ := D.pairs
    have hts : ts.length ≤ 21 := by
      have := congrArg List.length er
      rw [List.length_map, pairsN_eq] at this
      have := pairsN_len D.hi
      omega
    refine q_asgL (el_lst ea_nil (by decide)) (fun r H1 hr1 e1 h1 => ?_)
    have D1 := D.mono e1
    refine q_forL (K := K) (xs := ts.map fun t => V.ref t.1) (ev_fld (ev_var rfl) D1.ins T.cl T.nPairs df_pairs) (SqL.of (e1 _ _ R.lst))
      (fun i σ H' => ∃ v5 v6 v7 : Option V, σ = [some (.ref p), some (.ref a), some (.int (lo : Int)), some (.int (hi : Int)), some (.ref r), v5, v6, v7] ∧ Ex H H' ∧ H' r = some (.lst (((ts.take i).filter fun t => crossB g lo hi t.2).map fun t => V.ref t.1)))
      (fun H2 e2 => ⟨none, none, none, rfl, e1.trans e2, e2 _ _ h1⟩) (fun i σ H' _ ⟨_, _, _, _, e, _⟩ => SqL.of (e _ _ R.lst)) ?_ ?_
    · rintro i y σ H2 hi2 ⟨v5, v6, v7, rfl, e2, h2⟩
      obtain ⟨⟨b, q⟩, ht, rfl⟩ : ∃ t, ts[i]? = some t ∧ V.ref t.1 = y := by
        rw [List.getElem?_map, Option.map_eq_some_iff] at hi2
        exact hi2
      have hq : (Rl05.pairs s)[i]? = some q := by rw [← er, List.getElem?_map, ht]; rfl
      have hqm := pairs_in (List.mem_of_getElem? hq)
      have hb : H2 b = some (pO q) := e2 _ _ (R.at_ _ (List.mem_of_getElem? ht)).1
      refine q_asg (ev_grp (K := K) (m := q.1) (ev_var rfl) (ex_l e2 ha) (ev_var rfl) hb (ev_c (v := .int ((0 : Nat) : Int))) rfl (by rw [hl]; exact hqm.1)) (fun H3 e3 => ?_)
      refine q_asg (ev_grp (K := K) (m := q.2) (ev_var rfl) (ex_l (e2.trans e3) ha) (ev_var rfl) (e3 _ _ hb) (ev_c (v := .int ((1 : Nat) : Int))) rfl (by rw [hl]; exact hqm.2)) (fun H4 e4 => ?_)
      have h4 := e4 _ _ (e3 _ _ h2)
      have e24 := (e2.trans e3).trans e4
      have ecr : (decide (((min (g.getD (q.1 - 1) 0) (g.getD (q.2 - 1) 0) : Nat) : Int) = (lo : Int)) && decide (((max (g.getD (q.1 - 1) 0) (g.getD (q.2 - 1) 0) : Nat) : Int) = (hi : Int))) = crossB g lo hi q := by
        unfold crossB
        congr 1
        · exact decide_eq_decide.mpr (by omega)
        · exact decide_eq_decide.mpr (by omega)
      refine s_when (et_is (et_and (et_eqI (ev_min2 (ev_var rfl) (ev_var rfl)) (ev_var rfl)) fun _ => et_eqI (ev_max2' (ev_var rfl) (ev_var rfl)) (ev_var rfl)) ecr) (fun hT H5 e5 => ?_) (fun hF H5 e5 => ?_)
      · refine s_app (K := K) (e5 _ _ h4) (ev_var rfl) (ev_var rfl) ?_ fun H6 e6 => ⟨_, _, _, rfl, Ex.mut ((e24.trans e5).trans e6) hr1, ?_⟩
        · rw [List.length_map]
          have := List.length_filter_le (fun t : Addr × Nat × Nat => crossB g lo hi t.2) (ts.take i)
          rw [List.length_take] at this
          omega
        · rw [upd_same, take_snoc' ht, List.filter_append, List.map_append, List.filter_cons, if_pos hT]
          rfl
      · refine ⟨_, _, _, rfl, e24.trans e5, ?_⟩
        rw [take_snoc' ht, List.filter_append, List.map_append, List.filter_cons, if_neg (by rw [hF]; exact Bool.false_ne_true), List.filter_nil, List.map_nil, List.append_nil]
        exact e5 _ _ h4
    · rintro σ H2 ⟨v5, v6, v7, rfl, e2, h2⟩
      refine ⟨_, rfl, k r H2 e2 ⟨ts.filter fun t => crossB g lo hi t.2, ?_, ?_⟩⟩
      · rw [List.length_map, List.take_length] at h2
        exact rows_filter (G := crossB g lo hi) R e2 hr1 h2
      · rw [← er, List.filter_map]
        rfl
theorem scMayJoin : FnScope ["self", "across", "pair"] ["self", "across"] (defScope sMayJoin) := ⟨rfl, rfl, rfl, by decide +kernel, rfl, by decide +kernel, by decide +kernel⟩
theorem ok_mayJoin {f : Addr} {fd : FuncData} (F : Fun K "may_join" "Desk.may_join" sMayJoin f fd) (T : Txt K mg C) : FnOk P w K mg base CX0 1 f fd ["self", "across"] (spOver C mayV) := by
  refine F.ok scMayJoin (fun vs H Q E h => ?_) (fun cdv A outer s0 H vs Q E hr h => ?_)
  · obtain ⟨p, b, s, qs, rfl, _⟩ := h
    rfl
  · obtain ⟨p, b, s, qs, rfl, ⟨dx, pa, pr, co, ru, D⟩, ⟨ts, R, er⟩, hqs, hlen, k⟩ := h
    obtain ⟨t2, gMN⟩ := T.gMUSTNOT
    refine ⟨_, pss_one (ps_ret (pe_callB (cr_all rfl) (by rfl) T.gAll (by decide +kernel) (pa_cons
      (pe_lc (own := [("pair", 2)]) (g := gName 2) (tt := tYes) (te := tOp rNe (tDGet (tFld K (tVar 0) "rules") (tVar 2)) (tC (.int 2))) rfl scMayJoin.nd (pi_list (pv 1)) (blkOk_by (own := [("pair", 2)]) (N := ["self", "across", "pair"]) (sc := defScope sMayJoin) (by decide +kernel))
        (fun _ _ _ _ _ => pg_name (i := 2) scMayJoin.nd rfl (Or.inl rfl)) (fun _ _ _ _ _ => pts_nil) (fun _ _ _ _ _ => ?e)) pa_nil))), ?_⟩
    case e => exact pe_cmpR op_ne (pe_dget (hu_of hr) (pe_fld (pv 0) rfl) (pv 2) (fun _ _ => rfl)) (pe_glob (v := .int 2) rfl gMN ⟨_, rfl⟩) (nomark _)
    have hts : ts.length ≤ 21 := by
      have := congrArg List.length er
      rw [List.length_map] at this
      omega
    have key := el_comp (K := K) (σ := [some (.ref p), some (.ref b), none]) (H := H) (tl := tVar 1) (j := 2) (vs := [2]) (t := tYes) (te := tOp rNe (tDGet (tFld K (tVar 0) "rules") (tVar 2)) (tC (.int 2)))
      (fun t : Addr × Nat × Nat => V.ref t.1) (fun _ => true) (fun t => V.bl (!decide ((ruleF s t.2 : Int) = 2))) (ev_var rfl) (SqL.of R.lst) (by omega) (fun x => rfl) (fun t ht => et_yes)
      (fun t ht _ => ev_neI (ev_dget (ev_fld (ev_var rfl) D.ins T.cl T.nRules df_rule) (ev_var rfl) (tab_get D.rule (R.at_ t ht).1 (hqs _ (by rw [← er]; exact List.mem_map_of_mem ht)))) ev_c)
    rw [List.filter_eq_self.mpr (fun _ _ => rfl)] at key
    refine s_ret (ev_is (ev_allN (bs := ts.map fun t => !decide ((ruleF s t.2 : Int) = 2)) (el_is key (by rw [List.map_map]; rfl))) ?_) k
    unfold mayV
    rw [← er, List.all_map, List.all_map]
    rfl
theorem scGainOf : FnScope ["self", "across", "pair"] ["self", "across"] (defScope sGainOf) := ⟨rfl, rfl, rfl, by decide +kernel, rfl, by decide +kernel, by decide +kernel⟩
theorem ok_gainOf {f : Addr} {fd : FuncData} (F : Fun K "gain_of" "Desk.gain_of" sGainOf f fd) (T : Txt K mg C) : FnOk P w K mg base CX0 1 f fd ["self", "across"] (spOver C gainV) := by
  refine F.ok scGainOf (fun vs H Q E h => ?_) (fun cdv A outer s0 H vs Q E hr h => ?_)
  · obtain ⟨p, b, s, qs, rfl, _⟩ := h
    rfl
  · obtain ⟨p, b, s, qs, rfl, ⟨dx, pa, pr, co, ru, D⟩, ⟨ts, R, er⟩, hqs, hlen, k⟩ := h
    refine ⟨_, pss_one (ps_ret (pe_callB (cr_sum rfl) (by rfl) T.gSum (by decide +kernel) (pa_cons
      (pe_lc (own := [("pair", 2)]) (g := gName 2) (tt := tYes) (te := tOp (rI0 fun a b => V.int (a - b)) (tDGet (tFld K (tVar 0) "pro") (tVar 2)) (tDGet (tFld K (tVar 0) "contra") (tVar 2))) rfl scGainOf.nd (pi_list (pv 1)) (blkOk_by (own := [("pair", 2)]) (N := ["self", "across", "pair"]) (sc := defScope sGainOf) (by decide +kernel))
        (fun _ _ _ _ _ => pg_name (i := 2) scGainOf.nd rfl (Or.inl rfl)) (fun _ _ _ _ _ => pts_nil) (fun _ _ _ _ _ => ?e)) pa_nil))), ?_⟩
    case e => exact pe_op op_sub (pe_dget (hu_of hr) (pe_fld (pv 0) rfl) (pv 2) (fun _ _ => rfl)) (pe_dget (hu_of hr) (pe_fld (pv 0) rfl) (pv 2) (fun _ _ => rfl))
    have hts : ts.length ≤ 21 := by
      have := congrArg List.length er
      rw [List.length_map] at this
      omega
    have key := el_comp (K := K) (σ := [some (.ref p), some (.ref b), none]) (H := H) (tl := tVar 1) (j := 2) (vs := [2]) (t := tYes) (te := tOp (rI0 fun a b => V.int (a - b)) (tDGet (tFld K (tVar 0) "pro") (tVar 2)) (tDGet (tFld K (tVar 0) "contra") (tVar 2)))
      (fun t : Addr × Nat × Nat => V.ref t.1) (fun _ => true) (fun t => V.int ((proF s t.2 : Int) - (conF s t.2 : Int))) (ev_var rfl) (SqL.of R.lst) (by omega) (fun x => rfl) (fun t ht => et_yes)
      (fun t ht _ => ev_op (ev_dget (ev_fld (ev_var rfl) D.ins T.cl T.nPro df_pro) (ev_var rfl) (tab_get D.pro (R.at_ t ht).1 (hqs _ (by rw [← er]; exact List.mem_map_of_mem ht)))) (ev_dget (ev_fld (ev_var rfl) D.ins T.cl T.nCon df_con) (ev_var rfl) (tab_get D.con (R.at_ t ht).1 (hqs _ (by rw [← er]; exact List.mem_map_of_mem ht)))) rv_I0)
    rw [List.filter_eq_self.mpr (fun _ _ => rfl)] at key
    refine s_ret (ev_is (ev_sumN (ns := ts.map fun t => (proF s t.2 : Int) - (conF s t.2 : Int)) (el_is key (by rw [List.map_map]; rfl))) ?_) k
    unfold gainV
    rw [← er, List.map_map]
    rfl
end
end Lp

namespace Lp
open PySem PySem.Spec PyProof.Rows L2 Evl
/-! ### the next step, by its pairs -/
def rowP (m i : Nat) : List (Nat × Nat) := (List.range' (i + 1) (m - (i + 1))).map fun j => (i, j)
theorem pairsOf_range (m : Nat) : Rl05.pairsOf (List.range m) = (List.range m).flatMap (rowP m) := by
  unfold Rl05.pairsOf
  refine flatMap_congr' fun i hi => ?_
  rw [List.mem_range] at hi
  rw [List.range_eq_range', filter_range' m 0 i (by omega) (by omega)]
  unfold rowP
  rw [Nat.zero_add]
theorem cross_eq (g : List Nat) {a b : Nat} (h : a < b) (q : Nat × Nat) : ((g.getD (q.1 - 1) 0 == a && g.getD (q.2 - 1) 0 == b) || (g.getD (q.1 - 1) 0 == b && g.getD (q.2 - 1) 0 == a)) = crossB g a b q := by
  unfold crossB
  generalize g.getD (q.1 - 1) 0 = x
  generalize g.getD (q.2 - 1) 0 = y
  rw [Bool.eq_iff_iff]
  simp only [Bool.or_eq_true, Bool.and_eq_true, beq_iff_eq, decide_eq_true_eq]
  omega
theorem gain_eq (s : Rl05.St) (g : List Nat) {a b : Nat} (h : a < b) : gainV s ((Rl05.pairs s).filter (crossB g a b)) = .int (Rl05.gain s g a b) := by
  unfold gainV Rl05.gain
  have e : (fun p : Nat × Nat => (g.getD (p.1 - 1) 0 == a && g.getD (p.2 - 1) 0 == b) || (g.getD (p.1 - 1) 0 == b && g.getD (p.2 - 1) 0 == a)) = crossB g a b := funext fun q => cross_eq g h q
  rw [e, List.sum_eq_foldl]
  rfl
theorem mayJoin_eq (s : Rl05.St) (g : List Nat) {a b : Nat} (h : a < b) : mayV s ((Rl05.pairs s).filter (crossB g a b)) = .bl (Rl05.mayJoin s g a b) := by
  unfold mayV Rl05.mayJoin
  rw [List.all_filter]
  congr 1
  congr 1
  funext q
  rw [cross_eq g h]
  congr 1
  show (!decide ((ruleF s q : Int) = 2)) = (ruleF s q != 2)
  by_cases z : ruleF s q = 2
  · rw [z]; rfl
  · rw [decide_eq_false (by omega), bne_iff_ne.mpr z]
    rfl
/-- what is best so far, and by how much -/
def mostOf (b : Option ((Nat × Nat) × Int)) : Int := (b.map (·.2)).getD 0
def Pos (b : Option ((Nat × Nat) × Int)) : Prop := ∀ x, b = some x → 0 < x.2
theorem mostOf_nonneg {b : Option ((Nat × Nat) × Int)} (h : Pos b) : 0 ≤ mostOf b := by
  cases b with
  | none => exact Int.le_refl _
  | some x => exact Int.le_of_lt (h x rfl)
theorem pick_yes {s : Rl05.St} {g : List Nat} {b : Option ((Nat × Nat) × Int)} {q : Nat × Nat} (hp : Pos b) (h1 : mostOf b < Rl05.gain s g q.1 q.2) (h2 : Rl05.mayJoin s g q.1 q.2 = true) : pick s g b q = some (q, Rl05.gain s g q.1 q.2) := by
  have := mostOf_nonneg hp
  unfold pick
  rw [if_neg (by rw [h2]; simp; omega)]
  cases b with
  | none => rfl
  | some x =>
    have h1 : x.2 < Rl05.gain s g q.1 q.2 := h1
    exact if_pos h1
theorem pick_no {s : Rl05.St} {g : List Nat} {b : Option ((Nat × Nat) × Int)} {q : Nat × Nat} (h : ¬ (mostOf b < Rl05.gain s g q.1 q.2 ∧ Rl05.mayJoin s g q.1 q.2 = true)) : pick s g b q = b := by
  unfold pick
  by_cases hm : Rl05.mayJoin s g q.1 q.2 = true
  · have hg : ¬ mostOf b < Rl05.gain s g q.1 q.2 := fun z => h ⟨z, hm⟩
    cases b with
    | none =>
      have hg : ¬ (0 : Int) < Rl05.gain s g q.1 q.2 := hg
      rw [if_pos (.inr (by omega))]
    | some x =>
      have hg : ¬ x.2 < Rl05.gain s g q.1 q.2 := hg
      split
      · rfl
      · exact if_neg hg
  · rw [if_pos (.inl (by simpa using hm))]
def BestV (H : Hp) : Option (Nat × Nat) → V → Prop
  | none, v => v = .non
  | some q, v => ∃ b, v = .ref b ∧ H b = some (pO q)
theorem BestV.mono {H H' : Hp} {o : Option (Nat × Nat)} {v : V} (e : Ex H H') (h : BestV H o v) : BestV H' o v := by
  cases o with
  | none => exact h
  | some q =>
    obtain ⟨b, h1, h2⟩ := h
    exact ⟨b, h1, e _ _ h2⟩
def spNext (K : PySem.W.Frag) (C : Addr) : Sp := fun vs H Q _ => ∃ (p a : Addr) (s : Rl05.St) (g : List Nat), vs = [.ref p, .ref a] ∧ DeskAt C H p s ∧ SqL K H a (iv g) ∧ g.length = s.n ∧ Rl05.plain g = g ∧
  ∀ (v : V) (H' : Hp), Ex H H' → BestV H' (Rl05.next s g) v → Q v H'
section
variable {P : Program} {w : World} {K : PySem.W.Frag} {mg : Str → Option Value} {base : Heap} {C : Addr}
theorem no_across {s : Rl05.St} {pa pr co ru : Addr} : (deskF s pa pr co ru).lookup ("pairs_across" : Str) = none := df_no (by decide +kernel) (by decide +kernel) (by decide +kernel) (by decide +kernel) (by decide +kernel)
theorem no_gainOf {s : Rl05.St} {pa pr co ru : Addr} : (deskF s pa pr co ru).lookup ("gain_of" : Str) = none := df_no (by decide +kernel) (by decide +kernel) (by decide +kernel) (by decide +kernel) (by decide +kernel)
theorem no_mayJoin {s : Rl05.St} {pa pr co ru : Addr} : (deskF s pa pr co ru).lookup ("may_join" : Str) = none := df_no (by decide +kernel) (by decide +kernel) (by decide +kernel) (by decide +kernel) (by decide +kernel)
theorem sv_over {H : Hp} {p b : Addr} {s : Rl05.St} {qs : List (Nat × Nat)} {G : Rl05.St → List (Nat × Nat) → V} (D : DeskAt C H p s) (R : Rows H b pO qs) (h : ∀ q ∈ qs, q ∈ Rl05.pairs s) (hl : qs.length ≤ 21) : SpV (spOver C G) [.ref p, .ref b] H (G s qs) := fun H1 e Q q E =>
  ⟨p, b, s, qs, rfl, D.mono e, R.mono e, h, hl, q⟩
theorem scNext : FnScope ["self", "groups", "best", "most", "count", "low", "high", "across", "gain"] ["self", "groups"] (defScope sNext) := ⟨rfl, rfl, rfl, by decide +kernel, rfl, by decide +kernel, by decide +kernel⟩
theorem ok_next {f fA fG fM : Addr} {fd fdA fdG fdM : FuncData} (F : Fun K "next_step" "Desk.next_step" sNext f fd) (T : Txt K mg C)
    (GA : FnOk P w K mg base CX0 1 fA fdA ["self", "groups", "low", "high"] (spAcross K C)) (mA : Meth K C "pairs_across" fA) (bA : Binds K fdA ["self", "groups", "low", "high"] [])
    (GG : FnOk P w K mg base CX0 1 fG fdG ["self", "across"] (spOver C gainV)) (mG : Meth K C "gain_of" fG) (bG : Binds K fdG ["self", "across"] [])
    (GM : FnOk P w K mg base CX0 1 fM fdM ["self", "across"] (spOver C mayV)) (mM : Meth K C "may_join" fM) (bM : Binds K fdM ["self", "across"] []) :
    FnOk P w K mg base CX0 2 f fd ["self", "groups"] (spNext K C) := by
  refine F.ok scNext (fun vs H Q E h => ?_) (fun cdv A outer s0 H vs Q E hr h => ?_)
  · obtain ⟨p, a, s, g, rfl, _⟩ := h
    rfl
  · obtain ⟨p, a, s, g, rfl, ⟨dx, pa, pr, co, ru, D⟩, ha, hl, hpl, k⟩ := h
    refine ⟨_, pss_cons (ps_set (i := 2) scNext.nd rfl (.inl rfl) pe_non)
      (pss_cons (ps_set (i := 3) scNext.nd rfl (.inl rfl) pe_int)
      (pss_cons (ps_set (i := 4) scNext.nd rfl (.inl rfl) (pe_op op_add (pe_callB (cr_max rfl) (by rfl) T.gMax (by decide +kernel) (pa_cons (pv 1) pa_nil)) pe_int))
      (pss_cons (ps_for PassesOwn.never rfl (pi_range1 (by rfl) T.gRange (pa_cons (pv 4) pa_nil)) (pg_name (i := 5) scNext.nd rfl (.inl rfl))
        (pss_one (ps_for PassesOwn.never rfl (pi_range2 (by rfl) T.gRange (pa_cons (pe_op op_add (pv 5) pe_int) (pa_cons (pv 4) pa_nil))) (pg_name (i := 6) scNext.nd rfl (.inl rfl))
          (pss_cons (ps_set (i := 7) scNext.nd rfl (.inl rfl) (pe_meth (pv 0) T.cl mA GA hr bA .nil pass0 (pa_cons (pv 1) (pa_cons (pv 5) (pa_cons (pv 6) pa_nil)))))
          (pss_cons (ps_set (i := 8) scNext.nd rfl (.inl rfl) (pe_meth (pv 0) T.cl mG GG hr bG .nil pass0 (pa_cons (pv 7) pa_nil)))
          (pss_one (ps_if (PW.pt (pw_and (pt_cmpR op_gt (pv 8) (pv 3) (nomark _)) (pw_and1 (pt_val (pe_meth (pv 0) T.cl mM GM hr bM .nil pass0 (pa_cons (pv 7) pa_nil))))))
            (pss_cons (ps_set (i := 2) scNext.nd rfl (.inl rfl) (pe_tup (pa_cons (pv 5) (pa_cons (pv 6) pa_nil))))
            (pss_one (ps_set (i := 3) scNext.nd rfl (.inl rfl) (pv 8)))) pss_nil)))))))
      (pss_one (ps_ret (pv 2)))))), ?_⟩
    have hg0 : g ≠ [] := fun q => by
      rw [q] at hl
      have := D.lo
      simp at hl
      omega
    have hmx : mx 0 g ≤ 7 := Nat.le_trans (mx_len hpl) (by rw [hl]; exact D.hi)
    refine q_asg ev_c (fun H1 e1 => q_asg ev_c (fun H2 e2 => ?_))
    refine q_asg (v := .int (mx 0 g : Int)) (ev_is (ev_op (ev_maxL (K := K) (ev_var rfl) (ex_l (e1.trans e2) ha) hg0) ev_c rv_I0) (by rw [Int.sub_add_cancel])) (fun H3 e3 => ?_)
    have e03 := (e1.trans e2).trans e3
    refine q_forR1 (n := (mx 0 g : Int)) (ea_cons (ev_var rfl) ea_nil) ⟨by omega, by omega⟩
      (fun i σ H' => ∃ (bv : V) (v5 v6 v7 v8 : Option V), σ = [some (.ref p), some (.ref a), some bv, some (.int (mostOf (((List.range i).flatMap (rowP (mx 0 g))).foldl (pick s g) none))), some (.int (mx 0 g : Int)), v5, v6, v7, v8] ∧ Ex H H' ∧
        Pos (((List.range i).flatMap (rowP (mx 0 g))).foldl (pick s g) none) ∧ BestV H' ((((List.range i).flatMap (rowP (mx 0 g))).foldl (pick s g) none).map (·.1)) bv)
      (fun H4 e4 => ⟨.non, none, none, none, none, rfl, e03.trans e4, (fun x hx => nomatch hx), rfl⟩) ?_ ?_
    · rintro i σ H4 hi ⟨bv, v5, v6, v7, v8, rfl, e4, hpos, hbest⟩
      generalize eb0 : ((List.range i).flatMap (rowP (mx 0 g))).foldl (pick s g) none = b0 at hpos hbest
      refine s_forR2 (lo := (i : Int) + 1) (n := (mx 0 g : Int)) (ea_cons (ev_op (ev_var rfl) ev_c rv_I0) (ea_cons (ev_var rfl) ea_nil)) ⟨by omega, by omega, by omega, by omega⟩
        (fun j σ H' => ∃ (bv : V) (v6 v7 v8 : Option V), σ = [some (.ref p), some (.ref a), some bv, some (.int (mostOf (((List.range' (i + 1) j).map fun j => (i, j)).foldl (pick s g) b0))), some (.int (mx 0 g : Int)), some (.int (i : Int)), v6, v7, v8] ∧ Ex H H' ∧
          Pos (((List.range' (i + 1) j).map fun j => (i, j)).foldl (pick s g) b0) ∧ BestV H' ((((List.range' (i + 1) j).map fun j => (i, j)).foldl (pick s g) b0).map (·.1)) bv)
        (fun H5 e5 => ⟨bv, v6, v7, v8, rfl, e4.trans e5, hpos, hbest.mono e5⟩) ?_ ?_
      · rintro j σ H5 hj ⟨bv, v6, v7, v8, rfl, e5, hpos, hbest⟩
        have ej : (i : Int) + 1 + (j : Int) = ((i + 1 + j : Nat) : Int) := by omega
        rw [ej]
        rw [range'_snoc, List.map_append, List.foldl_append]
        generalize ((List.range' (i + 1) j).map fun j => (i, j)).foldl (pick s g) b0 = b1 at hpos hbest
        show tSeq _ _ _ _ _
        have D5 := D.mono e5
        have hlt : i < i + 1 + j := by omega
        -- across = ..
        refine ⟨_, rfl, p, dx, _, rfl, D5.ins, no_across, _, rfl, _, rfl, _, rfl, p, a, s, g, i, i + 1 + j, rfl, ⟨_, _, _, _, _, D5⟩, ex_l e5 ha, hl, fun r H6 e6 R6 => ?_⟩
        have D6 := D5.mono e6
        have e06 := e5.trans e6
        have hm6 : ∀ q ∈ (Rl05.pairs s).filter (crossB g i (i + 1 + j)), q ∈ Rl05.pairs s := fun q hq => (List.mem_filter.mp hq).1
        have hl6 : ((Rl05.pairs s).filter (crossB g i (i + 1 + j))).length ≤ 21 := Nat.le_trans (List.length_filter_le _ _) (by rw [pairsN_eq]; exact pairsN_len D.hi)
        -- gain = ..
        refine q_asg (σ := [some (.ref p), some (.ref a), some bv, some (.int (mostOf b1)), some (.int (mx 0 g : Int)), some (.int (i : Int)), some (.int ((i + 1 + j : Nat) : Int)), some (.ref r), v8]) (ev_is (ev_meth (ev_var rfl) D6.ins no_gainOf (ea_cons (ev_var rfl) ea_nil) (sv_over ⟨_, _, _, _, _, D6⟩ R6 hm6 hl6)) (gain_eq s g hlt)) (fun H7 e7 => ?_)
        have D7 := D6.mono e7
        refine s_when (et_and (et_cmp (ev_var rfl) (ev_var rfl) rv_I0) fun _ => et_B (ev_is (ev_meth (ev_var rfl) D7.ins no_mayJoin (ea_cons (ev_var rfl) ea_nil) (sv_over ⟨_, _, _, _, _, D7⟩ (R6.mono e7) hm6 hl6)) (mayJoin_eq s g hlt))) (fun hT H8 e8 => ?_) (fun hF H8 e8 => ?_)
        · rw [Bool.and_eq_true, decide_eq_true_eq] at hT
          have hpk : pick s g b1 (i, i + 1 + j) = some ((i, i + 1 + j), Rl05.gain s g i (i + 1 + j)) := pick_yes (q := (i, i + 1 + j)) hpos hT.1 hT.2
          refine q_asgU (eu_tup (ea_cons (ev_var rfl) (ea_cons (ev_var rfl) ea_nil)) (by show 2 ≤ 100000; decide)) (fun t H9 ht e9 h9 => ?_)
          refine s_asg (ev_var rfl) fun H10 e10 => ?_
          show ∃ _, _
          have h0 := mostOf_nonneg hpos
          have hgt : mostOf b1 < Rl05.gain s g i (i + 1 + j) := hT.1
          refine ⟨.ref t, some (.int ((i + 1 + j : Nat) : Int)), some (.ref r), some (.int (Rl05.gain s g i (i + 1 + j))), ?_, (((e06.trans e7).trans e8).trans e9).trans e10, ?_, ?_⟩
          · show _ = [some (.ref p), some (.ref a), some (V.ref t), some (.int (mostOf (pick s g b1 (i, i + 1 + j)))), _, _, _, _, _]
            rw [hpk]
            rfl
          · show Pos (pick s g b1 (i, i + 1 + j))
            rw [hpk]
            intro x hx
            cases hx
            show 0 < Rl05.gain s g i (i + 1 + j)
            omega
          · show BestV H10 ((pick s g b1 (i, i + 1 + j)).map (·.1)) _
            rw [hpk]
            exact ⟨t, rfl, e10 _ _ h9⟩
        · have hpk : pick s g b1 (i, i + 1 + j) = b1 := pick_no (q := (i, i + 1 + j)) fun z => by
            rw [z.2, Bool.and_true] at hF
            exact of_decide_eq_false hF z.1
          refine ⟨bv, some (.int ((i + 1 + j : Nat) : Int)), some (.ref r), some (.int (Rl05.gain s g i (i + 1 + j))), ?_, (e06.trans e7).trans e8, ?_, ?_⟩
          · show _ = [some (.ref p), some (.ref a), some bv, some (.int (mostOf (pick s g b1 (i, i + 1 + j)))), _, _, _, _, _]
            rw [hpk]
            rfl
          · show Pos (pick s g b1 (i, i + 1 + j))
            rw [hpk]
            exact hpos
          · show BestV H8 ((pick s g b1 (i, i + 1 + j)).map (·.1)) _
            rw [hpk]
            exact hbest.mono ((e6.trans e7).trans e8)
      · rintro σ H5 ⟨bv, v6, v7, v8, rfl, e5, hpos, hbest⟩
        have en : ((mx 0 g : Int) - ((i : Int) + 1)).toNat = mx 0 g - (i + 1) := by omega
        rw [en] at hpos hbest ⊢
        have ef : ((List.range (i + 1)).flatMap (rowP (mx 0 g))).foldl (pick s g) none = ((List.range' (i + 1) (mx 0 g - (i + 1))).map fun j => (i, j)).foldl (pick s g) b0 := by
          rw [List.range_succ, List.flatMap_append, List.foldl_append, eb0, List.flatMap_cons, List.flatMap_nil, List.append_nil]
          rfl
        refine ⟨bv, some (.int (i : Int)), v6, v7, v8, ?_, e5, ?_, ?_⟩
        · rw [ef]
        · rw [ef]
          exact hpos
        · rw [ef]
          exact hbest
    · rintro σ H4 ⟨bv, v5, v6, v7, v8, rfl, e4, hpos, hbest⟩
      refine ⟨_, rfl, k bv H4 e4 ?_⟩
      rw [Int.toNat_natCast] at hbest
      rw [next_eq, groupsOf_eq, pairsOf_range]
      exact hbest
end
end Lp

namespace Lp
open PySem PySem.Spec PyProof.Rows L2 Evl
abbrev sMargin : Stmt := inClass sDesk 21
abbrev sCost : Stmt := inClass sDesk 22
abbrev sChain : Stmt := inClass sDesk 23
abbrev sGreedy : Stmt := inClass sDesk 24
abbrev sCounts : Stmt := inClass sDesk 26
def aMargin : List V → Rl05.Call → Prop := fun as c => ∃ i j : Nat, as = [.int (i : Int), .int (j : Int)] ∧ c = .margin i j
def aChain : List V → Rl05.Call → Prop := fun as c => ∃ t : Nat, as = [.int (t : Int)] ∧ c = .chain t
/-- what a call keeps of all, and answers -/
def Done (C : Addr) (H : Hp) (p pa : Addr) (s : Rl05.St) (c : Rl05.Call) (Q : VK) : Prop :=
  ∀ (H' : Hp) (r pa' : Addr), DeskP C H' p (Rl05.step s c).1 pa' → (pa' = pa ∨ H pa' = none) → KeepS H H' → H r = none → H' r = some (.lst ((Rl05.step s c).2.map V.int)) → Q (.ref r) H'
theorem Done.go {C : Addr} {H : Hp} {p pa dx pr co ru : Addr} {s : Rl05.St} {c : Rl05.Call} {Q : VK} {xs : List Int} (k : Done C H p pa s c Q) (D : DeskBy C H p s dx pa pr co ru) (es : Rl05.step s c = (s, xs)) {r : Addr} {H' : Hp} (hr : H r = none) (e : Ex H H') (h : H' r = some (.lst (xs.map V.int))) : Q (.ref r) H' := by
  unfold Done at k
  rw [es] at k
  exact k H' r pa ⟨dx, pr, co, ru, D.mono e⟩ (.inl rfl) (Ex.keepS e) hr h
/-- cost: its list is read -/
def spCost (K : PySem.W.Frag) (C : Addr) : Sp := fun vs H Q _ => ∃ (p pa a : Addr) (s : Rl05.St) (g : List Nat), vs = [.ref p, .ref a] ∧ SqL K H a (iv g) ∧ DeskP C H p s pa ∧ Done C H p pa s (.cost g) Q
theorem together_mm (g : List Nat) (i j : Nat) : Rl05.together g (min i j) (max i j) = Rl05.together g i j := by
  unfold Rl05.together
  rcases Nat.le_total i j with h | h
  · rw [Nat.min_eq_left h, Nat.max_eq_right h]
  · rw [Nat.min_eq_right h, Nat.max_eq_left h]
    exact Bool.eq_iff_iff.mpr (by rw [beq_iff_eq, beq_iff_eq]; exact eq_comm)
section
variable {P : Program} {w : World} {K : PySem.W.Frag} {mg : Str → Option Value} {base : Heap} {C : Addr}
theorem scMargin : FnScope ["self", "i", "j", "pair", "kept", "together", "parted", "groups"] ["self", "i", "j"] (defScope sMargin) := ⟨rfl, rfl, rfl, by decide +kernel, rfl, by decide +kernel, by decide +kernel⟩
theorem sl_lowest {H : Hp} {a : Addr} {ns : List Nat} (ha : SqL K H a (iv ns)) : SpL (spLowest K) [.ref a] H ((Rl05.opt (Rl05.least? ns)).map V.int) := fun H1 e Q q E => ⟨a, ns, rfl, ex_l e ha, q⟩
theorem opt_len (o : Option Nat) : ((Rl05.opt o).map V.int).length ≤ 2 := by
  cases o with
  | none => exact Nat.le_succ _
  | some x => exact Nat.le_refl _
theorem ok_margin {f fI fA fO fT fL : Addr} {fd fdI fdA fdO fdT fdL : FuncData} (F : Fun K "margin" "Desk.margin" sMargin f fd) (T : Txt K mg C)
    (GI : FnOk P w K mg base CX0 1 fI fdI ["self", "pair"] (spIsPair C)) (mI : Meth K C "is_pair" fI) (bI : Binds K fdI ["self", "pair"] [])
    (GA : FnOk P w K mg base CX0 3 fA fdA ["self"] (spAllKeep C)) (mA : Meth K C "all_that_keep" fA) (bA : Binds K fdA ["self"] [])
    (GO : FnOk P w K mg base CX0 2 fO fdO ["self", "groups"] (spCostOf K C)) (mO : Meth K C "cost_of" fO) (bO : Binds K fdO ["self", "groups"] [])
    (GT : FnOk P w K mg base CX0 1 fT fdT ["groups", "pair"] (spTog K)) (gT : mg "is_together" = some (.ref fT)) (kT : PySem.W.keepIn K (.ref fT) = true) (bT : Binds K fdT ["groups", "pair"] [])
    (GL : FnOk P w K mg base CX0 1 fL fdL ["costs"] (spLowest K)) (gL : mg "told_lowest" = some (.ref fL)) (kL : PySem.W.keepIn K (.ref fL) = true) (bL : Binds K fdL ["costs"] []) :
    FnOk P w K mg base CX0 4 f fd ["self", "i", "j"] (spOp C aMargin) := by
  refine F.ok scMargin (fun vs H Q E h => ?_) (fun cdv A outer s0 H vs Q E hr h => ?_)
  · obtain ⟨p, pa, s, as, c, rfl, ⟨i, j, rfl, rfl⟩, _⟩ := h
    rfl
  · obtain ⟨p, pa, s, as, c, rfl, ⟨i, j, rfl, rfl⟩, ⟨dx, pr, co, ru, D⟩, k⟩ := h
    have k : Done C H p pa s (.margin i j) Q := k
    obtain ⟨t1, g1⟩ := T.gNP
    have hr1 : Room 1 _ := hr.mono (by decide)
    have hr2 : Room 2 _ := hr.mono (by decide)
    refine ⟨_, pss_cons (ps_set (i := 3) scMargin.nd rfl (.inr rfl) (pe_tup (pa_cons (pe_callB (call_min2 rfl) (by rfl) T.gMin (by decide +kernel) (pa_cons (pv 1) (pa_cons (pv 2) pa_nil))) (pa_cons (pe_callB (call_max2 rfl) (by rfl) T.gMax (by decide +kernel) (pa_cons (pv 1) (pa_cons (pv 2) pa_nil))) pa_nil))))
      (pss_cons (ps_if (pt_not (pt_val (pe_meth (pv 0) T.cl mI GI hr1 bI .nil pass0 (pa_cons (pv 3) pa_nil)))) (pss_one (ps_ret (pe_lst (pa_cons (pe_glob (v := .int (-3)) rfl g1 ⟨_, rfl⟩) pa_nil)))) pss_nil)
      (pss_cons (ps_set (i := 4) scMargin.nd rfl (.inl rfl) (pe_meth0 (pv 0) T.cl mA GA hr bA .nil pass0))
      (pss_cons (ps_setLc (i := 5) (own := [("groups", 7)]) (g := gName 7) (tt := tB (tCall (spTog K) [] E0 (tCons (tVar 7) (tCons (tVar 3) tNil)))) (te := tMeth C "cost_of" (spCostOf K C) [] E0 (tVar 0) (tCons (tVar 7) tNil)) rfl scMargin.nd rfl rfl (sw_true rfl rfl rfl (by decide +kernel))
        (pi_list (pv 4)) (blkOk_by (own := [("groups", 7)]) (N := ["self", "i", "j", "pair", "kept", "together", "parted", "groups"]) (sc := defScope sMargin) (by decide +kernel))
        (fun _ _ _ _ _ => pg_name (i := 7) scMargin.nd rfl (Or.inl rfl)) (fun _ _ _ _ _ => ?t1) (fun _ _ _ _ _ => ?e1))
      (pss_cons (ps_setLc (i := 6) (own := [("groups", 7)]) (g := gName 7) (tt := tNot (tB (tCall (spTog K) [] E0 (tCons (tVar 7) (tCons (tVar 3) tNil))))) (te := tMeth C "cost_of" (spCostOf K C) [] E0 (tVar 0) (tCons (tVar 7) tNil)) rfl scMargin.nd rfl rfl (sw_true rfl rfl rfl (by decide +kernel))
        (pi_list (pv 4)) (blkOk_by (own := [("groups", 7)]) (N := ["self", "i", "j", "pair", "kept", "together", "parted", "groups"]) (sc := defScope sMargin) (by decide +kernel))
        (fun _ _ _ _ _ => pg_name (i := 7) scMargin.nd rfl (Or.inl rfl)) (fun _ _ _ _ _ => ?t2) (fun _ _ _ _ _ => ?e2))
      (pss_one (ps_ret (pe_op op_cat (pe_call GL hr1 rfl gL kL bL .nil pass0 (pa_cons (pv 5) pa_nil)) (pe_call GL hr1 rfl gL kL bL .nil pass0 (pa_cons (pv 6) pa_nil))))))))), ?_⟩
    case t1 => exact pts_one (pt_val (pe_call GT hr1 rfl gT kT bT .nil pass0 (pa_cons (pv 7) (pa_cons (pv 3) pa_nil))))
    case e1 => exact pe_meth (pv 0) T.cl mO GO hr2 bO .nil pass0 (pa_cons (pv 7) pa_nil)
    case t2 => exact pts_one (pt_not (pt_val (pe_call GT hr1 rfl gT kT bT .nil pass0 (pa_cons (pv 7) (pa_cons (pv 3) pa_nil)))))
    case e2 => exact pe_meth (pv 0) T.cl mO GO hr2 bO .nil pass0 (pa_cons (pv 7) pa_nil)
    refine q_asgU (eu_tup (ea_cons (ev_min2 (ev_var rfl) (ev_var rfl)) (ea_cons (ev_max2' (ev_var rfl) (ev_var rfl)) ea_nil)) (by show 2 ≤ 100000; decide)) (fun t H1 ht e1 h1 => ?_)
    have h1 : H1 t = some (pO (min i j, max i j)) := h1
    have D1 := D.mono e1
    refine q_when (et_not (et_B (ev_meth (ev_var rfl) D1.ins no_isPair (ea_cons (ev_var rfl) ea_nil) (sv_isPair ⟨_, _, _, _, _, D1⟩ h1)))) (fun hT H2 e2 => ?_) (fun hF H2 e2 => ?_)
    · have hn : (min i j, max i j) ∉ Rl05.pairs s := by simpa using hT
      have es : Rl05.step s (.margin i j) = (s, [-3]) := by
        show (s, if Rl05.isPair s i j = false then [-3] else _) = _
        rw [if_pos (isPair_no hn)]
      exact s_retL (el_lst (ea_cons ev_c ea_nil) (by decide)) fun r H3 hr3 e3 h3 => k.go D es (fresh_back (e1.trans e2) hr3) ((e1.trans e2).trans e3) h3
    · have hm : (min i j, max i j) ∈ Rl05.pairs s := by simpa using hF
      have hip : Rl05.isPair s i j = true := isPair_mem.mpr hm
      have D2 := D1.mono e2
      have h2 := e2 _ _ h1
      refine ⟨_, rfl, p, dx, _, rfl, D2.ins, no_allKeep, p, s, rfl, ⟨_, _, _, _, _, D2⟩, fun H3 q1 e3 ⟨us, R3, em⟩ => ?_⟩
      have D3 := D2.mono e3
      have h3 := e3 _ _ h2
      have hus : us.length ≤ 877 := by
        have := congrArg List.length em
        rw [List.length_map] at this
        have := may_len D.hi
        omega
      have hul : ∀ t ∈ us, t.2.length = s.n := fun t ht => (mem_may.mp (by rw [← em]; exact List.mem_map_of_mem ht)).1.1
      have hin := pairs_in hm
      have tog : ∀ (H4 : Hp) (e : Ex H3 H4) (σ : L2.St) (u : Addr × List Nat), u ∈ us → σ[7]? = some (some (.ref u.1)) → σ[3]? = some (some (.ref t)) → EvT (tB (tCall (spTog K) [] E0 (tCons (tVar 7) (tCons (tVar 3) tNil)))) σ H4 (Rl05.together u.2 i j) := fun H4 e σ u hu h7 h3' =>
        et_is (et_B (ev_call (ea_cons (ev_var h7) (ea_cons (ev_var h3') ea_nil)) (sv_tog (SqL.of (e _ _ (R3.at_ u hu).1)) (e _ _ h3) (by rw [hul u hu]; exact hin.1) (by rw [hul u hu]; exact hin.2)))) (together_mm u.2 i j)
      have cst : ∀ (H4 : Hp) (e : Ex H3 H4) (σ : L2.St) (u : Addr × List Nat), u ∈ us → σ[7]? = some (some (.ref u.1)) → σ[0]? = some (some (.ref p)) → Ev (tMeth C "cost_of" (spCostOf K C) [] E0 (tVar 0) (tCons (tVar 7) tNil)) σ H4 (.int (Rl05.cost s u.2 : Int)) := fun H4 e σ u hu h7 h0 =>
        ev_meth (ev_var h0) (D3.mono e).ins no_costOf (ea_cons (ev_var h7) ea_nil) (sv_costOf ⟨_, _, _, _, _, D3.mono e⟩ (SqL.of (e _ _ (R3.at_ u hu).1)) (hul u hu))
      -- together = ..
      refine q_asgL (el_comp (K := K) (σ := [some (.ref p), some (.int (i : Int)), some (.int (j : Int)), some (.ref t), some (.ref q1), none, none, none]) (j := 7) (vs := [7]) (t := tB (tCall (spTog K) [] E0 (tCons (tVar 7) (tCons (tVar 3) tNil)))) (te := tMeth C "cost_of" (spCostOf K C) [] E0 (tVar 0) (tCons (tVar 7) tNil)) (ts := us)
        (fun t : Addr × List Nat => V.ref t.1) (fun u => Rl05.together u.2 i j) (fun u => V.int (Rl05.cost s u.2 : Int)) (ev_var rfl) (SqL.of R3.lst) (by omega) (fun x => rfl) (fun u hu => tog H3 (Ex.refl H3) _ u hu rfl rfl) (fun u hu _ => cst H3 (Ex.refl H3) _ u hu rfl rfl)) (fun a1 H4 ha1 e4 h4 => ?_)
      refine q_asgL (el_comp (K := K) (σ := [some (.ref p), some (.int (i : Int)), some (.int (j : Int)), some (.ref t), some (.ref q1), some (.ref a1), none, none]) (j := 7) (vs := [7]) (t := tNot (tB (tCall (spTog K) [] E0 (tCons (tVar 7) (tCons (tVar 3) tNil))))) (te := tMeth C "cost_of" (spCostOf K C) [] E0 (tVar 0) (tCons (tVar 7) tNil)) (ts := us)
        (fun t : Addr × List Nat => V.ref t.1) (fun u => !Rl05.together u.2 i j) (fun u => V.int (Rl05.cost s u.2 : Int)) (ev_var rfl) (SqL.of (e4 _ _ R3.lst)) (by omega) (fun x => rfl) (fun u hu => et_not (tog H4 e4 _ u hu rfl rfl)) (fun u hu _ => cst H4 e4 _ u hu rfl rfl)) (fun a2 H5 ha2 e5 h5 => ?_)
      have lw : ∀ b : Bool, (us.filter fun u => Rl05.together u.2 i j == b).map (fun u => V.int (Rl05.cost s u.2 : Int)) = iv (((Rl05.may s).filter fun g => Rl05.together g i j == b).map (Rl05.cost s)) := fun b => by
        rw [← em, List.filter_map]
        unfold iv
        rw [List.map_map, List.map_map]
        rfl
      have f1 : (fun u : Addr × List Nat => Rl05.together u.2 i j) = fun u => Rl05.together u.2 i j == true := funext fun u => by cases Rl05.together u.2 i j <;> rfl
      have f2 : (fun u : Addr × List Nat => !Rl05.together u.2 i j) = fun u => Rl05.together u.2 i j == false := funext fun u => by cases Rl05.together u.2 i j <;> rfl
      rw [f1, lw true] at h4
      rw [f2, lw false] at h5
      have es : Rl05.step s (.margin i j) = (s, Rl05.opt (Rl05.leastWith s i j true) ++ Rl05.opt (Rl05.leastWith s i j false)) := by
        show (s, if Rl05.isPair s i j = false then [-3] else _) = _
        rw [if_neg (by rw [hip]; exact Bool.noConfusion)]
      refine s_retL (el_catN (el_call (ea_cons (ev_var rfl) ea_nil) (sl_lowest (SqL.of (e5 _ _ h4)))) (el_call (ea_cons (ev_var rfl) ea_nil) (sl_lowest (SqL.of h5))) ?_) fun r H6 hr6 e6 h6 => ?_
      · have := opt_len (Rl05.least? (((Rl05.may s).filter fun g => Rl05.together g i j == true).map (Rl05.cost s)))
        have := opt_len (Rl05.least? (((Rl05.may s).filter fun g => Rl05.together g i j == false).map (Rl05.cost s)))
        omega
      · refine k.go D es (fresh_back ((((e1.trans e2).trans e3).trans e4).trans e5) hr6) (((((e1.trans e2).trans e3).trans e4).trans e5).trans e6) ?_
        rw [h6, List.map_append]
        rfl
theorem scCost : FnScope ["self", "marks"] ["self", "marks"] (defScope sCost) := ⟨rfl, rfl, rfl, by decide +kernel, rfl, by decide +kernel, by decide +kernel⟩
theorem no_toldC {s : Rl05.St} {pa pr co ru : Addr} : (deskF s pa pr co ru).lookup ("told_with_cost" : Str) = none := df_no (by decide +kernel) (by decide +kernel) (by decide +kernel) (by decide +kernel) (by decide +kernel)
theorem sl_toldC {H : Hp} {p a : Addr} {s : Rl05.St} {g : List Nat} (D : DeskAt C H p s) (ha : H a = some (.lst (iv g))) (hl : g.length = s.n) : SpL (spToldC C) [.ref p, .ref a] H ((toldC s g).map V.int) := fun H1 e Q q E => ⟨p, a, s, g, rfl, D.mono e, e _ _ ha, hl, q⟩
theorem all_le {g : List Nat} : (g.all fun x => decide (x ≤ 100)) = true ↔ mx 0 g ≤ 101 := by
  rw [List.all_eq_true]
  constructor
  · intro h
    exact mx_le (fun y hy => by have := of_decide_eq_true (h y hy); omega) (Nat.zero_le _)
  · intro h x hx
    have := lt_mx g 0 x hx
    exact decide_eq_true (by omega)
theorem ok_cost {f fT fG : Addr} {fd fdT fdG : FuncData} (F : Fun K "cost" "Desk.cost" sCost f fd) (T : Txt K mg C)
    (GT : FnOk P w K mg base CX0 3 fT fdT ["self", "groups"] (spToldC C)) (mT : Meth K C "told_with_cost" fT) (bT : Binds K fdT ["self", "groups"] [])
    (GG : FnOk P w K mg base CX0 1 fG fdG ["marks"] (spGroupsOf K)) (gG : mg "groups_of" = some (.ref fG)) (kG : PySem.W.keepIn K (.ref fG) = true) (bG : Binds K fdG ["marks"] []) :
    FnOk P w K mg base CX0 4 f fd ["self", "marks"] (spCost K C) := by
  refine F.ok scCost (fun vs H Q E h => ?_) (fun cdv A outer s0 H vs Q E hr h => ?_)
  · obtain ⟨p, pa, a, s, g, rfl, _⟩ := h
    rfl
  · obtain ⟨p, pa, a, s, g, rfl, ha, ⟨dx, pr, co, ru, D⟩, k⟩ := h
    obtain ⟨t1, g1⟩ := T.gOUT
    obtain ⟨t2, g2⟩ := T.gHM
    have hr1 : Room 1 _ := hr.mono (by decide)
    refine ⟨_, pss_cons (ps_if (PW.pt (pw_or (pt_cmpR op_ne (pe_callB call_len_seq (by rfl) T.gLen PySem.boot_len (pa_cons (pv 1) pa_nil)) (pe_fld (pv 0) rfl) (nomark _)) (pw_or1 (pt_cmpR op_gt (pe_callB (cr_max rfl) (by rfl) T.gMax (by decide +kernel) (pa_cons (pv 1) pa_nil)) (pe_glob (v := .int 100) rfl g2 ⟨_, rfl⟩) (nomark _)))))
        (pss_one (ps_ret (pe_lst (pa_cons (pe_glob (v := .int (-1)) rfl g1 ⟨_, rfl⟩) pa_nil)))) pss_nil)
      (pss_one (ps_ret (pe_meth (pv 0) T.cl mT GT hr bT .nil pass0 (pa_cons (pe_call GG hr1 rfl gG kG bG .nil pass0 (pa_cons (pv 1) pa_nil)) pa_nil)))), ?_⟩
    have hne : ((iv g).length : Int) = (s.n : Int) → g ≠ [] := fun q z => by
      rw [z] at q
      have := D.lo
      simp [iv] at q
      omega
    refine q_when (b := (!decide (((iv g).length : Int) = (s.n : Int)) || decide ((mx 0 g : Int) - 1 > 100))) (et_or (et_test (ev_neI (ev_len (K := K) (ev_var rfl) ha) (ev_fld (ev_var rfl) D.ins T.cl T.nSize df_size))) fun hn => et_cmp (ev_maxL (K := K) (ev_var rfl) ha (hne (by simpa using hn))) ev_c rv_I0) (fun hT H1 e1 => ?_) (fun hF H1 e1 => ?_)
    · have es : Rl05.step s (.cost g) = (s, [-1]) := by
        show (s, if g.length ≠ s.n ∨ g.all (fun x => decide (x ≤ 100)) = false then [-1] else _) = _
        rw [if_pos]
        rw [Bool.or_eq_true, Bool.not_eq_true', decide_eq_false_iff_not, decide_eq_true_eq, iv_len] at hT
        rcases hT with h | h
        · exact .inl fun q => h (by rw [q])
        · refine .inr ?_
          rw [Bool.eq_false_iff]
          intro z
          have := all_le.mp z
          omega
      exact s_retL (el_lst (ea_cons ev_c ea_nil) (by decide)) fun r H2 hr2 e2 h2 => k.go D es (fresh_back e1 hr2) (e1.trans e2) h2
    · rw [Bool.or_eq_false_iff, Bool.not_eq_false', decide_eq_true_eq, decide_eq_false_iff_not, iv_len] at hF
      have hlen : g.length = s.n := by omega
      have es : Rl05.step s (.cost g) = (s, toldC s (Rl05.plain g)) := by
        show (s, if g.length ≠ s.n ∨ g.all (fun x => decide (x ≤ 100)) = false then [-1] else _) = _
        rw [if_neg]
        · rfl
        · rintro (h | h)
          · exact h hlen
          · rw [Bool.eq_false_iff] at h
            exact h (all_le.mpr (by omega))
      have D1 := D.mono e1
      exact s_retL (el_methN (ev_var rfl) D1.ins no_toldC (el_call (ea_cons (ev_var rfl) ea_nil) (sl_groupsOf (ex_l e1 ha) (by have := D.hi; omega))) fun b H2 hb e2 => sl_toldC ⟨_, _, _, _, _, D1.mono e2⟩ hb ((plain_length g).trans hlen)) fun r H2 hr2 e2 h2 => k.go D es (fresh_back e1 hr2) (e1.trans e2) h2
theorem scChain : FnScope ["self", "t", "links", "pair"] ["self", "t"] (defScope sChain) := ⟨rfl, rfl, rfl, by decide +kernel, rfl, by decide +kernel, by decide +kernel⟩
theorem no_isJoined {s : Rl05.St} {pa pr co ru : Addr} : (deskF s pa pr co ru).lookup ("is_joined" : Str) = none := df_no (by decide +kernel) (by decide +kernel) (by decide +kernel) (by decide +kernel) (by decide +kernel)
theorem sv_isJoined {H : Hp} {p b : Addr} {s : Rl05.St} {q : Nat × Nat} {t : Nat} (D : DeskAt C H p s) (hb : H b = some (pO q)) (hq : q ∈ Rl05.pairs s) : SpV (spIsJoined C) [.ref p, .ref b, .int (t : Int)] H (.bl (jn s t q)) := fun H1 e Q q0 E => ⟨p, b, s, q, t, rfl, D.mono e, e _ _ hb, hq, q0⟩
theorem chain_eq (s : Rl05.St) (t : Nat) : Rl05.chain s t = Rl05.joinAll s.n ((Rl05.pairs s).filter (jn s t)) := by
  unfold Rl05.chain
  congr 1
  refine List.filter_congr fun q _ => ?_
  show (decide (conF s q + t ≤ proF s q) || (ruleF s q == 1)) = jn s t q
  unfold jn
  rw [Bool.or_comm]
  rfl
theorem ok_chain {f fJ fT fL : Addr} {fd fdJ fdT fdL : FuncData} (F : Fun K "chain" "Desk.chain" sChain f fd) (T : Txt K mg C)
    (GJ : FnOk P w K mg base CX0 1 fJ fdJ ["self", "pair", "t"] (spIsJoined C)) (mJ : Meth K C "is_joined" fJ) (bJ : Binds K fdJ ["self", "pair", "t"] [])
    (GT : FnOk P w K mg base CX0 3 fT fdT ["self", "groups"] (spToldC C)) (mT : Meth K C "told_with_cost" fT) (bT : Binds K fdT ["self", "groups"] [])
    (GL : FnOk P w K mg base CX0 3 fL fdL ["size", "links"] spLinked) (gL : mg "linked_groups" = some (.ref fL)) (kL : PySem.W.keepIn K (.ref fL) = true) (bL : Binds K fdL ["size", "links"] []) :
    FnOk P w K mg base CX0 4 f fd ["self", "t"] (spOp C aChain) := by
  refine F.ok scChain (fun vs H Q E h => ?_) (fun cdv A outer s0 H vs Q E hr h => ?_)
  · obtain ⟨p, pa, s, as, c, rfl, ⟨t, rfl, rfl⟩, _⟩ := h
    rfl
  · obtain ⟨p, pa, s, as, c, rfl, ⟨t, rfl, rfl⟩, ⟨dx, pr, co, ru, D⟩, k⟩ := h
    have k : Done C H p pa s (.chain t) Q := k
    have hr1 : Room 1 _ := hr.mono (by decide)
    refine ⟨_, pss_cons (ps_setLc (i := 2) (own := [("pair", 3)]) (g := gName 3) (tt := tB (tMeth C "is_joined" (spIsJoined C) [] E0 (tVar 0) (tCons (tVar 3) (tCons (tVar 1) tNil)))) (te := tVar 3) rfl scChain.nd rfl rfl (sw_true rfl rfl rfl (by decide +kernel))
        (pi_list (pe_fld (pv 0) rfl)) (blkOk_by (own := [("pair", 3)]) (N := ["self", "t", "links", "pair"]) (sc := defScope sChain) (by decide +kernel))
        (fun _ _ _ _ _ => pg_name (i := 3) scChain.nd rfl (Or.inl rfl)) (fun _ _ _ _ _ => ?t1) (fun _ _ _ _ _ => pv 3))
      (pss_one (ps_ret (pe_meth (pv 0) T.cl mT GT hr bT .nil pass0 (pa_cons (pe_call GL hr rfl gL kL bL .nil pass0 (pa_cons (pe_fld (pv 0) rfl) (pa_cons (pv 2) pa_nil))) pa_nil)))), ?_⟩
    case t1 => exact pts_one (pt_val (pe_meth (pv 0) T.cl mJ GJ hr1 bJ .nil pass0 (pa_cons (pv 3) (pa_cons (pv 1) pa_nil))))
    obtain ⟨ts, R, er⟩ := D.pairs
    have hts : ts.length ≤ 40000 := by
      have := congrArg List.length er
      rw [List.length_map, pairsN_eq] at this
      have := pairsN_len D.hi
      omega
    refine q_asgL (el_comp (K := K) (σ := [some (.ref p), some (.int (t : Int)), none, none]) (H := H) (tl := tFld K (tVar 0) "pairs") (j := 3) (vs := [3]) (t := tB (tMeth C "is_joined" (spIsJoined C) [] E0 (tVar 0) (tCons (tVar 3) (tCons (tVar 1) tNil)))) (te := tVar 3)
      (fun t : Addr × Nat × Nat => V.ref t.1) (fun u => jn s t u.2) (fun u => V.ref u.1) (ev_fld (ev_var rfl) D.ins T.cl T.nPairs df_pairs) (SqL.of R.lst) hts (fun x => rfl)
      (fun u hu => et_B (ev_meth (ev_var rfl) D.ins no_isJoined (ea_cons (ev_var rfl) (ea_cons (ev_var rfl) ea_nil)) (sv_isJoined ⟨_, _, _, _, _, D⟩ (R.at_ u hu).1 (by rw [← er]; exact List.mem_map_of_mem hu)))) (fun u hu _ => ev_var rfl)) (fun a1 H1 ha1 e1 h1 => ?_)
    have D1 := D.mono e1
    have em : (ts.filter fun u => jn s t u.2).map (·.2) = (Rl05.pairs s).filter (jn s t) := by
      rw [← er, List.filter_map]
      rfl
    have R1 : Rows H1 a1 pO ((Rl05.pairs s).filter (jn s t)) := ⟨_, rows_filter (G := jn s t) R e1 ha1 h1, em⟩
    have es : Rl05.step s (.chain t) = (s, toldC s (Rl05.joinAll s.n ((Rl05.pairs s).filter (jn s t)))) := by
      rw [← chain_eq]
      rfl
    exact s_retL (el_methN (ev_var rfl) D1.ins no_toldC (el_call (ea_cons (ev_fld (ev_var rfl) D1.ins T.cl T.nSize df_size) (ea_cons (ev_var rfl) ea_nil)) (sl_linked D.hi R1 fun q hq => pairs_in (List.mem_filter.mp hq).1)) fun b H2 hb e2 => sl_toldC ⟨_, _, _, _, _, D1.mono e2⟩ hb (joinAll_length _ _)) fun r H2 hr2 e2 h2 => k.go D es (fresh_back e1 hr2) (e1.trans e2) h2
theorem scCounts : FnScope ["self", "told", "pair"] ["self"] (defScope sCounts) := ⟨rfl, rfl, rfl, by decide +kernel, rfl, by decide +kernel, by decide +kernel⟩
def cnt (s : Rl05.St) (q : Nat × Nat) : List Int := [(proF s q : Int), (conF s q : Int), (ruleF s q : Int)]
theorem cnt_len (s : Rl05.St) : ∀ l : List (Nat × Nat), (l.flatMap (cnt s)).length = 3 * l.length
  | [] => rfl
  | x :: l => by
    rw [List.flatMap_cons, List.length_append, cnt_len s l]
    show 3 + 3 * l.length = 3 * (l.length + 1)
    omega
theorem ok_counts {f : Addr} {fd : FuncData} (F : Fun K "counts" "Desk.counts" sCounts f fd) (T : Txt K mg C) : FnOk P w K mg base CX0 1 f fd ["self"] (spOp C (aNone .counts)) := by
  refine F.ok scCounts (fun vs H Q E h => ?_) (fun cdv A outer s0 H vs Q E hr h => ?_)
  · obtain ⟨p, pa, s, as, c, rfl, ⟨rfl, rfl⟩, _⟩ := h
    rfl
  · obtain ⟨p, pa, s, as, c, rfl, ⟨rfl, rfl⟩, ⟨dx, pr, co, ru, D⟩, k⟩ := h
    have k : Done C H p pa s .counts Q := k
    refine ⟨_, pss_cons (ps_set (i := 1) scCounts.nd rfl (.inl rfl) (pe_lst (pa_cons (pe_fld (pv 0) rfl) pa_nil)))
      (pss_cons (ps_for PassesOwn.never rfl (pi_list (pe_fld (pv 0) rfl)) (pg_name (i := 2) scCounts.nd rfl (.inl rfl))
        (pss_one (ps_expr (pe_bm PySem.F.plainAttrs_list PySem.F.slot_list_extend PySem.F.type_list_extend mt_extend (pv 1) (pa_cons (pe_lst (pa_cons (pe_dget (hu_of hr) (pe_fld (pv 0) rfl) (pv 2) (fun _ _ => rfl)) (pa_cons (pe_dget (hu_of hr) (pe_fld (pv 0) rfl) (pv 2) (fun _ _ => rfl)) (pa_cons (pe_dget (hu_of hr) (pe_fld (pv 0) rfl) (pv 2) (fun _ _ => rfl)) pa_nil)))) pa_nil)))))
      (pss_one (ps_ret (pv 1)))), ?_⟩
    obtain ⟨ts, R, er⟩ := D.pairs
    have hts : ts.length ≤ 21 := by
      have := congrArg List.length er
      rw [List.length_map, pairsN_eq] at this
      have := pairsN_len D.hi
      omega
    have es : Rl05.step s .counts = (s, (s.n : Int) :: (Rl05.pairs s).flatMap (cnt s)) := rfl
    refine q_asgL (el_lst (ea_cons (ev_fld (ev_var rfl) D.ins T.cl T.nSize df_size) ea_nil) (by show 1 ≤ 100000; decide)) (fun r H1 hr1 e1 h1 => ?_)
    have D1 := D.mono e1
    refine q_forL (K := K) (xs := ts.map fun t => V.ref t.1) (ev_fld (ev_var rfl) D1.ins T.cl T.nPairs df_pairs) (SqL.of (e1 _ _ R.lst))
      (fun i σ H' => ∃ v : Option V, σ = [some (.ref p), some (.ref r), v] ∧ Ex H H' ∧ H' r = some (.lst (((s.n : Int) :: ((Rl05.pairs s).take i).flatMap (cnt s)).map V.int)))
      (fun H2 e2 => ⟨none, rfl, e1.trans e2, e2 _ _ h1⟩) (fun i σ H' _ ⟨_, _, e, _⟩ => SqL.of (e _ _ R.lst)) ?_ ?_
    · rintro i y σ H2 hi ⟨v, rfl, e2, h2⟩
      obtain ⟨⟨b, q⟩, ht, rfl⟩ : ∃ t, ts[i]? = some t ∧ V.ref t.1 = y := by
        rw [List.getElem?_map, Option.map_eq_some_iff] at hi
        exact hi
      have hq : (Rl05.pairs s)[i]? = some q := by rw [← er, List.getElem?_map, ht]; rfl
      have hqm : q ∈ Rl05.pairs s := List.mem_of_getElem? hq
      have hb : H2 b = some (pO q) := e2 _ _ (R.at_ _ (List.mem_of_getElem? ht)).1
      have D2 := D.mono e2
      have hil : i < ts.length := (List.getElem?_eq_some_iff.mp ht).1
      refine ⟨_, rfl, .inl ⟨rfl, _, SqL.of h2⟩, el_lst (σ := [some (.ref p), some (.ref r), some (.ref b)]) (ea_cons (ev_dget (ev_fld (ev_var rfl) D2.ins T.cl T.nPro df_pro) (ev_var rfl) (tab_get D2.pro hb hqm)) (ea_cons (ev_dget (ev_fld (ev_var rfl) D2.ins T.cl T.nCon df_con) (ev_var rfl) (tab_get D2.con hb hqm)) (ea_cons (ev_dget (ev_fld (ev_var rfl) D2.ins T.cl T.nRules df_rule) (ev_var rfl) (tab_get D2.rule hb hqm)) ea_nil))) (by show 3 ≤ 100000; decide) H2 (Ex.refl H2) _ fun b2 H3 hb2 e3 h3 => ?_⟩
      refine ⟨r, b2, _, _, rfl, rfl, e3 _ _ h2, h3, ?_, _, rfl, Ex.mut (e2.trans e3) hr1, ?_⟩
      · rw [List.length_map, List.length_cons, cnt_len, List.length_take]
        exact Nat.le_trans (show 3 * min i (Rl05.pairs s).length + 1 + 3 ≤ 100 by omega) (by decide)
      · rw [upd_same, take_snoc' hq, List.flatMap_append, List.map_cons, List.map_cons, List.map_append, List.flatMap_cons, List.flatMap_nil, List.append_nil]
        rfl
    · rintro σ H2 ⟨v, rfl, e2, h2⟩
      refine ⟨_, rfl, k.go D es hr1 e2 ?_⟩
      have et : (Rl05.pairs s).take (ts.map fun t => V.ref t.1).length = Rl05.pairs s := by
        rw [← er]
        exact List.take_of_length_le (by rw [List.length_map, List.length_map]; exact Nat.le_refl _)
      rw [et] at h2
      exact h2
end
end Lp

namespace Lp
open PySem PySem.Spec PyProof.Rows L2 Evl
theorem musts_length (s : Rl05.St) : (Rl05.musts s).length = s.n := joinAll_length _ _
theorem musts_plain (s : Rl05.St) : Rl05.plain (Rl05.musts s) = Rl05.musts s := joinAll_plain _ _
/-- whom rule 1 joins is together: only rule 2 can be broken -/
theorem musts_broken {s : Rl05.St} (h : Rl05.keeps s (Rl05.musts s) = false) : (Rl05.pairs s).any (fun p => Rl05.together (Rl05.musts s) p.1 p.2 && (Rl05.voteOf s p.1 p.2).rule == 2) = true := by
  unfold Rl05.keeps at h
  rw [List.all_eq_false] at h
  obtain ⟨q, hq, hb⟩ := h
  rw [List.any_eq_true]
  refine ⟨q, hq, ?_⟩
  cases ht : Rl05.together (Rl05.musts s) q.1 q.2 with
  | true =>
    rw [ht, if_pos rfl] at hb
    simpa using hb
  | false =>
    exfalso
    rw [ht, if_neg Bool.false_ne_true] at hb
    have hr : (Rl05.voteOf s q.1 q.2).rule = 1 := by simpa using hb
    have hm : q ∈ (Rl05.pairs s).filter fun p => (Rl05.voteOf s p.1 p.2).rule == 1 := List.mem_filter.mpr ⟨hq, by rw [hr]; rfl⟩
    have : tog (Rl05.musts s) q.1 q.2 := (joinAll_tog (fun p hp => pairs_in (List.mem_filter.mp hp).1) (pairs_in hq).1 (pairs_in hq).2).mpr (.base hm)
    rw [(together_iff _ _ _).mpr this] at ht
    cases ht
section
variable {P : Program} {w : World} {K : PySem.W.Frag} {mg : Str → Option Value} {base : Heap} {C : Addr}
theorem scGreedy : FnScope ["self", "groups", "steps", "step"] ["self"] (defScope sGreedy) := ⟨rfl, rfl, rfl, by decide +kernel, rfl, by decide +kernel, by decide +kernel⟩
theorem no_byRules {s : Rl05.St} {pa pr co ru : Addr} : (deskF s pa pr co ru).lookup ("joined_by_rules" : Str) = none := df_no (by decide +kernel) (by decide +kernel) (by decide +kernel) (by decide +kernel) (by decide +kernel)
theorem no_next {s : Rl05.St} {pa pr co ru : Addr} : (deskF s pa pr co ru).lookup ("next_step" : Str) = none := df_no (by decide +kernel) (by decide +kernel) (by decide +kernel) (by decide +kernel) (by decide +kernel)
theorem ev_notN {σ : L2.St} {H : Hp} {ta : TE} {x : V} (h : Ev ta σ H x) : Ev (tNotN ta) σ H (.bl (!decide (x = .non))) := fun H1 e Q q => h H1 e _ fun H2 e2 => q H2 e2
theorem ok_greedy {f fB fK fN fW fO : Addr} {fd fdB fdK fdN fdW fdO : FuncData} (F : Fun K "greedy" "Desk.greedy" sGreedy f fd) (T : Txt K mg C)
    (GB : FnOk P w K mg base CX0 4 fB fdB ["self"] (spByRules C)) (mB : Meth K C "joined_by_rules" fB) (bB : Binds K fdB ["self"] [])
    (GK : FnOk P w K mg base CX0 2 fK fdK ["self", "groups"] (spKeeps K C)) (mK : Meth K C "keeps" fK) (bK : Binds K fdK ["self", "groups"] [])
    (GN : FnOk P w K mg base CX0 2 fN fdN ["self", "groups"] (spNext K C)) (mN : Meth K C "next_step" fN) (bN : Binds K fdN ["self", "groups"] [])
    (GW : FnOk P w K mg base CX0 2 fW fdW ["groups", "one", "other"] (spWith K)) (gW : mg "with_joined" = some (.ref fW)) (kW : PySem.W.keepIn K (.ref fW) = true) (bW : Binds K fdW ["groups", "one", "other"] [])
    (GO : FnOk P w K mg base CX0 2 fO fdO ["self", "groups"] (spCostOf K C)) (mO : Meth K C "cost_of" fO) (bO : Binds K fdO ["self", "groups"] []) :
    FnOk P w K mg base CX0 5 f fd ["self"] (spOp C (aNone .greedy)) := by
  refine F.ok scGreedy (fun vs H Q E h => ?_) (fun cdv A outer s0 H vs Q E hr h => ?_)
  · obtain ⟨p, pa, s, as, c, rfl, ⟨rfl, rfl⟩, _⟩ := h
    rfl
  · obtain ⟨p, pa, s, as, c, rfl, ⟨rfl, rfl⟩, ⟨dx, pr, co, ru, D⟩, k⟩ := h
    have k : Done C H p pa s .greedy Q := k
    obtain ⟨t1, g1⟩ := T.gNK
    have hr2 : Room 2 _ := hr.mono (by decide)
    refine ⟨_, pss_cons (ps_set (i := 1) scGreedy.nd rfl (.inl rfl) (pe_meth0 (pv 0) T.cl mB GB hr bB .nil pass0))
      (pss_cons (ps_if (pt_not (pt_val (pe_meth (pv 0) T.cl mK GK hr2 bK .nil pass0 (pa_cons (pv 1) pa_nil)))) (pss_one (ps_ret (pe_lst (pa_cons (pe_glob (v := .int (-6)) rfl g1 ⟨_, rfl⟩) pa_nil)))) pss_nil)
      (pss_cons (ps_set (i := 2) scGreedy.nd rfl (.inl rfl) pe_int)
      (pss_cons (ps_set (i := 3) scGreedy.nd rfl (.inl rfl) (pe_meth (pv 0) T.cl mN GN hr2 bN .nil pass0 (pa_cons (pv 1) pa_nil)))
      (pss_cons (ps_while PassesOwn.never (pt_cmp (pc_notN (pv 3)))
        (pss_cons (ps_set (i := 1) scGreedy.nd rfl (.inl rfl) (pe_call GW hr2 rfl gW kW bW .nil pass0 (pa_cons (pv 1) (pa_cons (pe_ix ix_tup (pv 3) pe_int (fun _ _ => rfl)) (pa_cons (pe_ix ix_tup (pv 3) pe_int (fun _ _ => rfl)) pa_nil)))))
        (pss_cons (ps_aug (i := 2) scGreedy.nd rfl (.inl rfl) pe_int ip_add)
        (pss_one (ps_set (i := 3) scGreedy.nd rfl (.inl rfl) (pe_meth (pv 0) T.cl mN GN hr2 bN .nil pass0 (pa_cons (pv 1) pa_nil)))))))
      (pss_one (ps_ret (pe_op op_cat (pe_lst (pa_cons (pv 2) (pa_cons (pe_meth (pv 0) T.cl mO GO hr2 bO .nil pass0 (pa_cons (pv 1) pa_nil)) pa_nil))) (pv 1)))))))), ?_⟩
    -- groups = ..
    refine q_asgL (el_meth (ev_var rfl) D.ins no_byRules ea_nil (fun H1 e Q q E => ⟨p, s, rfl, ⟨_, _, _, _, _, D.mono e⟩, q⟩)) (fun a H1 ha e1 h1 => ?_)
    have D1 := D.mono e1
    refine q_when (et_not (et_B (ev_meth (ev_var rfl) D1.ins no_keeps (ea_cons (ev_var rfl) ea_nil) (sv_keeps ⟨_, _, _, _, _, D1⟩ (SqL.of h1) (musts_length s))))) (fun hT H2 e2 => ?_) (fun hF H2 e2 => ?_)
    · have hk : Rl05.keeps s (Rl05.musts s) = false := by simpa using hT
      have es : Rl05.step s .greedy = (s, [-6]) := by
        show (s, if Rl05.keeps s (Rl05.musts s) = false ∧ (Rl05.pairs s).any (fun p => Rl05.together (Rl05.musts s) p.1 p.2 && (Rl05.voteOf s p.1 p.2).rule == 2) = true then [-6] else _) = _
        rw [if_pos ⟨hk, musts_broken hk⟩]
      exact s_retL (el_lst (ea_cons ev_c ea_nil) (by decide)) fun r H3 hr3 e3 h3 => k.go D es (fresh_back (e1.trans e2) hr3) ((e1.trans e2).trans e3) h3
    · have hk : Rl05.keeps s (Rl05.musts s) = true := by simpa using hF
      have es : Rl05.step s .greedy = (s, Rl05.ints ((Rl05.greedy s s.n (Rl05.musts s)).2 :: Rl05.cost s (Rl05.greedy s s.n (Rl05.musts s)).1 :: (Rl05.greedy s s.n (Rl05.musts s)).1)) := by
        show (s, if Rl05.keeps s (Rl05.musts s) = false ∧ (Rl05.pairs s).any (fun p => Rl05.together (Rl05.musts s) p.1 p.2 && (Rl05.voteOf s p.1 p.2).rule == 2) = true then [-6] else _) = _
        rw [if_neg (by rw [hk]; rintro ⟨z, _⟩; cases z)]
      have hst := greedy_all s
      generalize (Rl05.greedy s s.n (Rl05.musts s)).1 = gF at hst es
      generalize (Rl05.greedy s s.n (Rl05.musts s)).2 = mF at hst es
      have D2 := D1.mono e2
      refine q_asg ev_c (fun H3 e3 => ?_)
      have D3 := D2.mono e3
      refine ⟨_, rfl, p, dx, _, rfl, D3.ins, no_next, _, rfl, p, a, s, Rl05.musts s, rfl, ⟨_, _, _, _, _, D3⟩, SqL.of (e3 _ _ (e2 _ _ h1)), musts_length s, musts_plain s, fun v H4 e4 hv => ?_⟩
      have e04 := ((e1.trans e2).trans e3).trans e4
      refine q_while (σ := [some (.ref p), some (.ref a), some (.int 0), some v]) (fun m σ H' => ∃ (r : Addr) (g : List Nat) (n : Nat) (v : V), σ = [some (.ref p), some (.ref r), some (.int (n : Int)), some v] ∧ Ex H H' ∧ H' r = some (.lst (iv g)) ∧ g.length = s.n ∧ Rl05.plain g = g ∧ BestV H' (Rl05.next s g) v ∧ Steps s g gF m ∧ n + m = mF)
        mF ⟨a, Rl05.musts s, 0, v, rfl, e04, e4 _ _ (e3 _ _ (e2 _ _ h1)), musts_length s, musts_plain s, hv, hst, Nat.zero_add _⟩ ?_
      rintro m σ H5 ⟨r, g, n, v, rfl, e5, h5, hl, hpl, hv, hs, hn⟩
      refine ⟨_, et_B (ev_notN (ev_var rfl)), fun hT H6 e6 => ?_, fun hF H6 e6 => ?_⟩
      · have hvn : v ≠ .non := by simpa using hT
        cases hs with
        | done h => rw [h] at hv; exact absurd hv hvn
        | @step _ _ m q h rest =>
          rw [h] at hv
          obtain ⟨b, rfl, hb⟩ := hv
          refine ⟨fun σ H' => ∃ (r : Addr) (v : V), σ = [some (.ref p), some (.ref r), some (.int ((n + 1 : Nat) : Int)), some v] ∧ Ex H H' ∧ H' r = some (.lst (iv (Rl05.join g q.1 q.2))) ∧ BestV H' (Rl05.next s (Rl05.join g q.1 q.2)) v, ?_, ?_⟩
          · rintro σ H7 ⟨r, v, rfl, e7, h7, hv⟩
            exact ⟨m, Nat.lt_succ_self m, r, Rl05.join g q.1 q.2, n + 1, v, rfl, e7, h7, (join_length _ _ _).trans hl, join_plain _ _ _, hv, rest, by omega⟩
          · have hb6 := e6 _ _ hb
            have h6 := e6 _ _ h5
            refine q_asgL (el_call (ea_cons (ev_var rfl) (ea_cons (ev_op (ev_var rfl) ev_c (rv_ixT (K := K) (st_of hb6) (at_of (j := 0) rfl rfl))) (ea_cons (ev_op (ev_var rfl) ev_c (rv_ixT (K := K) (st_of hb6) (at_of (j := 1) rfl rfl))) ea_nil))) (sl_with (SqL.of h6) (by rw [hl]; exact D.hi))) (fun r7 H7 hr7 e7 h7 => ?_)
            refine q_aug rfl ev_c (fun H8 e8 => ?_)
            have e08 := ((e5.trans e6).trans e7).trans e8
            have D8 := D.mono e08
            refine ⟨_, rfl, p, dx, _, rfl, D8.ins, no_next, _, rfl, p, r7, s, Rl05.join g q.1 q.2, rfl, ⟨_, _, _, _, _, D8⟩, SqL.of (e8 _ _ h7), (join_length _ _ _).trans hl, join_plain _ _ _, fun v H9 e9 hv => ?_⟩
            exact ⟨r7, v, rfl, e08.trans e9, e9 _ _ (e8 _ _ h7), hv⟩
      · have hvn : v = .non := by simpa using hF
        cases hs with
        | @step _ _ m q h rest =>
          rw [h] at hv
          obtain ⟨b, rfl, hb⟩ := hv
          cases hvn
        | done h =>
          have hnm : n = mF := by omega
          subst hnm
          have e06 := e5.trans e6
          have D6 := D.mono e06
          have h6 := e6 _ _ h5
          refine s_retL (el_cat (el_lst (ea_cons (ev_var rfl) (ea_cons (ev_meth (ev_var rfl) D6.ins no_costOf (ea_cons (ev_var rfl) ea_nil) (sv_costOf ⟨_, _, _, _, _, D6⟩ (SqL.of h6) hl)) ea_nil)) (by show 2 ≤ 100000; decide)) (ev_var rfl) h6 ?_) fun r7 H7 hr7 e7 h7 => k.go D es (fresh_back e06 hr7) (e06.trans e7) ?_
          · rw [iv_len, hl]
            exact show 2 + s.n ≤ 100000 by have := D.hi; omega
          · rw [h7, iv_ints]
            rfl
end
end Lp

namespace Lp
open PySem PySem.Spec PyProof.Rows L2 Evl
abbrev sWoRec : Stmt := inClass sDesk 14
abbrev sWithout : Stmt := inClass sDesk 25
/-- what is taken over so far -/
def wf (l : List (Nat × Nat)) (i : Nat) (f : Nat × Nat → Nat) (q : Nat × Nat) : Nat := if q ∈ l ∧ q.1 ≠ i ∧ q.2 ≠ i then f q else 0
theorem wf_yes {l : List (Nat × Nat)} {i : Nat} {f : Nat × Nat → Nat} {q : Nat × Nat} (h1 : q.1 ≠ i) (h2 : q.2 ≠ i) : (fun r => if r = q then f q else wf l i f r) = wf (l ++ [q]) i f := by
  funext r
  unfold wf
  by_cases e : r = q
  · subst e
    rw [if_pos rfl, if_pos ⟨by simp, h1, h2⟩]
  · rw [if_neg e]
    refine ite_congr (propext ?_) (fun _ => rfl) (fun _ => rfl)
    rw [List.mem_append, List.mem_singleton]
    exact ⟨fun z => ⟨.inl z.1, z.2⟩, fun z => ⟨z.1.resolve_right e, z.2⟩⟩
theorem wf_no {l : List (Nat × Nat)} {i : Nat} {f : Nat × Nat → Nat} {q : Nat × Nat} (h : q.1 = i ∨ q.2 = i) : wf (l ++ [q]) i f = wf l i f := by
  funext r
  unfold wf
  refine ite_congr (propext ?_) (fun _ => rfl) (fun _ => rfl)
  rw [List.mem_append, List.mem_singleton]
  constructor
  · rintro ⟨h1 | h1, h2, h3⟩
    · exact ⟨h1, h2, h3⟩
    · subst h1
      rcases h with h | h
      · exact absurd h h2
      · exact absurd h h3
  · exact fun z => ⟨.inl z.1, z.2⟩
theorem wf_nil (i : Nat) (f : Nat × Nat → Nat) : wf [] i f = fun _ => 0 := by
  funext q
  unfold wf
  rw [if_neg (by rintro ⟨h, _⟩; cases h)]
theorem wf_all (s : Rl05.St) (i : Nat) (G : Rl05.Vote → Nat) (h0 : ∀ a b, a = i ∨ b = i → G (Rl05.voteOf (wo s i) a b) = 0) : tab (Rl05.pairs s) (wf (Rl05.pairs s) i fun q => G (Rl05.voteOf s q.1 q.2)) = tab (Rl05.pairs (wo s i)) fun q => G (Rl05.voteOf (wo s i) q.1 q.2) := by
  rw [pairs_n (wo s i) s rfl]
  refine tab_congr fun q hq => ?_
  unfold wf
  by_cases h : q.1 = i ∨ q.2 = i
  · rw [if_neg (by rintro ⟨_, h1, h2⟩; rcases h with h | h; exact h1 h; exact h2 h), h0 _ _ h]
  · have h1 : q.1 ≠ i := fun z => h (.inl z)
    have h2 : q.2 ≠ i := fun z => h (.inr z)
    rw [if_pos ⟨hq, h1, h2⟩, voteOf_wo_yes s h1 h2]
def spWoRec (C : Addr) : Sp := fun vs H Q _ => ∃ (p : Addr) (s : Rl05.St) (i : Nat), vs = [.ref p, .int (i : Int)] ∧ DeskAt C H p s ∧ ∀ (H' : Hp) (x : Addr), Ex H H' → DeskAt C H' x (wo s i) → Q (.ref x) H'
def aWithout : List V → Rl05.Call → Prop := fun as c => ∃ i : Nat, as = [.int (i : Int)] ∧ c = .without i
section
variable {P : Program} {w : World} {K : PySem.W.Frag} {mg : Str → Option Value} {base : Heap} {C : Addr}
theorem scWoRec : FnScope ["self", "i", "other", "pair"] ["self", "i"] (defScope sWoRec) := ⟨rfl, rfl, rfl, by decide +kernel, rfl, by decide +kernel, by decide +kernel⟩
theorem ok_woRec {f fN fB : Addr} {fd fdN fdB : FuncData} (F : Fun K "without_record" "Desk.without_record" sWoRec f fd) (T : Txt K mg C) (M : Mk K C fN)
    (GN : FnOk P w K mg base CX0 3 fN fdN ["self"] (spInit C)) (bN : Binds K fdN ["self"] [])
    (GB : FnOk P w K mg base CX0 2 fB fdB ["self", "size"] (spBegin C)) (mB : Meth K C "begin" fB) (bB : Binds K fdB ["self", "size"] []) :
    FnOk P w K mg base CX0 5 f fd ["self", "i"] (spWoRec C) := by
  refine F.ok scWoRec (fun vs H Q E h => ?_) (fun cdv A outer s0 H vs Q E hr h => ?_)
  · obtain ⟨p, s, i, rfl, _⟩ := h
    rfl
  · obtain ⟨p, s, i, rfl, ⟨dx, pa, pr, co, ru, D⟩, k⟩ := h
    have hr2 : Room 2 _ := hr.mono (by decide)
    refine ⟨_, pss_cons (ps_set (i := 2) scWoRec.nd rfl (.inl rfl) (pe_make0 M GN hr rfl T.gC bN .nil pass0))
      (pss_cons (ps_expr (pe_meth (pv 2) T.cl mB GB hr2 bB .nil pass0 (pa_cons (pe_fld (pv 0) rfl) pa_nil)))
      (pss_cons (ps_for PassesOwn.never rfl (pi_list (pe_fld (pv 0) rfl)) (pg_name (i := 3) scWoRec.nd rfl (.inl rfl))
        (pss_one (ps_if (pt_cmpR op_notIn_seq (pv 1) (pv 3) (by with_unfolding_all rfl))
          (pss_cons (ps_dput (hu_of hr) (pe_fld (pv 2) rfl) (pv 3) (pe_dget (hu_of hr) (pe_fld (pv 0) rfl) (pv 3) (fun _ _ => rfl)) rfl)
          (pss_cons (ps_dput (hu_of hr) (pe_fld (pv 2) rfl) (pv 3) (pe_dget (hu_of hr) (pe_fld (pv 0) rfl) (pv 3) (fun _ _ => rfl)) rfl)
          (pss_one (ps_dput (hu_of hr) (pe_fld (pv 2) rfl) (pv 3) (pe_dget (hu_of hr) (pe_fld (pv 0) rfl) (pv 3) (fun _ _ => rfl)) rfl)))) pss_nil)))
      (pss_one (ps_ret (pv 2))))), ?_⟩
    refine fun x dx1 hx hdx ndx => ⟨x, dx1, rfl, upd_same, fun H1 pa1 D1 hpa1 b1 => ⟨rfl, ?_⟩⟩
    have e1 : Ex H H1 := fun b o hb => b1 b o (by rw [upd_ne (ne_of_none hb hx), upd_ne (ne_of_none hb hdx)]; exact hb) (ne_of_none hb hx)
    obtain ⟨dx2, pr1, co1, ru1, D1⟩ := D1
    have DS := D.mono e1
    refine ⟨_, rfl, x, dx2, _, rfl, D1.ins, no_begin, _, rfl, p, C, dx, _, _, rfl, DS.ins, T.cl, T.nSize, df_size, x, dx2, _, s.n, rfl, D1.ins, .inr ⟨_, _, _, _, _, rfl⟩, D.lo, D.hi, fun H2 pa2 pr2 co2 ru2 N hpa2 hpr2 hco2 hru2 b2 => ?_⟩
    have e2 : Ex H H2 := fun b o hb => b2 b o (e1 b o hb) (ne_of_none hb hx)
    have gpr := fresh_back e1 hpr2
    have gco := fresh_back e1 hco2
    have gru := fresh_back e1 hru2
    clear DS b2 b1 D1 hpa1 e1 hpa2 hpr2 hco2 hru2
    have D2 := D.mono e2
    obtain ⟨ts, R, er⟩ := D.pairs
    obtain ⟨us, U, eu⟩ := N.pairs
    have n12 := N.d1
    have n13 := N.d2
    have n23 := N.d3
    have hlen : ∀ f, (tab (Rl05.pairs s) f).length < sizeLine := fun f => by
      unfold tab
      rw [List.length_map, pairsN_eq]
      exact Nat.lt_of_le_of_lt (pairsN_len D.hi) (by decide)
    have ep : Rl05.pairs (⟨s.n, []⟩ : Rl05.St) = Rl05.pairs s := pairs_n _ _ rfl
    have z : ∀ G : Rl05.Vote → Nat, (∀ a b, G (Rl05.voteOf (⟨s.n, []⟩ : Rl05.St) a b) = 0) → tab (Rl05.pairs (⟨s.n, []⟩ : Rl05.St)) (fun q => G (Rl05.voteOf (⟨s.n, []⟩ : Rl05.St) q.1 q.2)) = tab (Rl05.pairs s) (wf ((Rl05.pairs s).take 0) i fun q => G (Rl05.voteOf s q.1 q.2)) := fun G hG => by
      rw [ep, List.take_zero, wf_nil]
      exact tab_congr fun q _ => hG _ _
    refine q_forL (K := K) (σ := [some (.ref p), some (.int (i : Int)), some (.ref x), none]) (xs := ts.map fun t => V.ref t.1) (ev_fld (ev_var rfl) D2.ins T.cl T.nPairs df_pairs) (SqL.of (e2 _ _ R.lst))
      (fun m σ H' => ∃ v : Option V, σ = [some (.ref p), some (.int (i : Int)), some (.ref x), v] ∧ Ex H H' ∧ H' x = some (.ins C dx2 (deskF s pa2 pr2 co2 ru2)) ∧ RowsBy H' pa2 pO us ∧
        H' pr2 = some (.dT (tab (Rl05.pairs s) (wf ((Rl05.pairs s).take m) i (proF s)))) ∧ H' co2 = some (.dT (tab (Rl05.pairs s) (wf ((Rl05.pairs s).take m) i (conF s)))) ∧ H' ru2 = some (.dT (tab (Rl05.pairs s) (wf ((Rl05.pairs s).take m) i (ruleF s)))))
      (fun H3 e3 => ⟨none, rfl, e2.trans e3, e3 _ _ N.ins, U.mono e3, ?_, ?_, ?_⟩) (fun m σ H' _ ⟨_, _, e, _⟩ => SqL.of (e _ _ R.lst)) ?_ ?_
    · rw [e3 _ _ N.pro]
      exact congrArg (fun y => some (HO.dT y)) (z (·.pro) fun _ _ => rfl)
    · rw [e3 _ _ N.con]
      exact congrArg (fun y => some (HO.dT y)) (z (·.con) fun _ _ => rfl)
    · rw [e3 _ _ N.rule]
      exact congrArg (fun y => some (HO.dT y)) (z (·.rule) fun _ _ => rfl)
    · rintro m y σ H3 hm ⟨v, rfl, e3, hI, U3, c1, c2, c3⟩
      obtain ⟨⟨b, q⟩, ht, rfl⟩ : ∃ t, ts[m]? = some t ∧ V.ref t.1 = y := by
        rw [List.getElem?_map, Option.map_eq_some_iff] at hm
        exact hm
      have hq : (Rl05.pairs s)[m]? = some q := by rw [← er, List.getElem?_map, ht]; rfl
      have hqm : q ∈ Rl05.pairs s := List.mem_of_getElem? hq
      have hb0 : H b = some (pO q) := (R.at_ _ (List.mem_of_getElem? ht)).1
      have hb : H3 b = some (pO q) := e3 _ _ hb0
      refine s_when (et_is (b := decide (q.1 ≠ i ∧ q.2 ≠ i)) (et_cmp (ev_var rfl) (ev_var rfl) (rv_niT (K := K) (st_of hb) rfl rfl)) ?_) (fun hT H4 e4 => ?_) (fun hF H4 e4 => ?_)
      · show (!(((q.1 : Int) == (i : Int)) || (((q.2 : Int) == (i : Int)) || false))) = _
        rw [Bool.eq_iff_iff]
        simp
        omega
      · have hT := of_decide_eq_true hT
        have e04 := e3.trans e4
        have D4 := D.mono e04
        have hb4 := e4 _ _ hb
        have d1 := e4 _ _ c1
        have d2 := e4 _ _ c2
        have d3 := e4 _ _ c3
        have i4 := e4 _ _ hI
        have xp : x ≠ pr2 := ne_of i4 d1 (by intro z; cases z)
        have xc : x ≠ co2 := ne_of i4 d2 (by intro z; cases z)
        have xr : x ≠ ru2 := ne_of i4 d3 (by intro z; cases z)
        -- other.pro[pair] = self.pro[pair]
        refine ⟨_, rfl, p, C, dx, _, _, rfl, D4.ins, T.cl, T.nPro, df_pro, _, rfl, pr, _, rfl, tab_get D4.pro hb4 hqm, _, rfl, x, C, dx2, _, _, rfl, i4, T.cl, T.nPro, df_pro, _, rfl, pr2, _, rfl, DPut.t (k := pk q) d1 hb4 (hlen _), ?_⟩
        rw [tab_put hqm, wf_yes hT.1 hT.2]
        have e5 : Ex H (upd H4 pr2 (.dT (tab (Rl05.pairs s) (wf ((Rl05.pairs s).take m ++ [q]) i (proF s))))) := Ex.mut e04 gpr
        generalize eH5 : upd H4 pr2 (.dT (tab (Rl05.pairs s) (wf ((Rl05.pairs s).take m ++ [q]) i (proF s)))) = H5 at e5
        have D5 := D.mono e5
        have hb5 := e5 _ _ hb0
        have i5 : H5 x = some (.ins C dx2 (deskF s pa2 pr2 co2 ru2)) := by rw [← eH5, upd_ne xp]; exact i4
        have f1 : H5 pr2 = some (.dT (tab (Rl05.pairs s) (wf ((Rl05.pairs s).take m ++ [q]) i (proF s)))) := by rw [← eH5]; exact upd_same
        have f2 : H5 co2 = some (.dT (tab (Rl05.pairs s) (wf ((Rl05.pairs s).take m) i (conF s)))) := by rw [← eH5, upd_ne n12.symm]; exact d2
        have f3 : H5 ru2 = some (.dT (tab (Rl05.pairs s) (wf ((Rl05.pairs s).take m) i (ruleF s)))) := by rw [← eH5, upd_ne n13.symm]; exact d3
        have U5 : RowsBy H5 pa2 pO us := by
          have U4 := U3.mono e4
          refine ⟨?_, fun t h => ⟨?_, (U4.at_ t h).2⟩⟩
          · rw [← eH5, upd_ne (ne_of U4.lst d1 (by intro z; cases z))]
            exact U4.lst
          · rw [← eH5, upd_ne (ne_of (U4.at_ t h).1 d1 (by intro z; cases z))]
            exact (U4.at_ t h).1
        clear eH5
        refine ⟨_, rfl, p, C, dx, _, _, rfl, D5.ins, T.cl, T.nCon, df_con, _, rfl, co, _, rfl, tab_get D5.con hb5 hqm, _, rfl, x, C, dx2, _, _, rfl, i5, T.cl, T.nCon, df_con, _, rfl, co2, _, rfl, DPut.t (k := pk q) f2 hb5 (hlen _), ?_⟩
        rw [tab_put hqm, wf_yes hT.1 hT.2]
        have e6 : Ex H (upd H5 co2 (.dT (tab (Rl05.pairs s) (wf ((Rl05.pairs s).take m ++ [q]) i (conF s))))) := Ex.mut e5 gco
        generalize eH6 : upd H5 co2 (.dT (tab (Rl05.pairs s) (wf ((Rl05.pairs s).take m ++ [q]) i (conF s)))) = H6 at e6
        have D6 := D.mono e6
        have hb6 := e6 _ _ hb0
        have i6 : H6 x = some (.ins C dx2 (deskF s pa2 pr2 co2 ru2)) := by rw [← eH6, upd_ne xc]; exact i5
        have k1 : H6 pr2 = some (.dT (tab (Rl05.pairs s) (wf ((Rl05.pairs s).take m ++ [q]) i (proF s)))) := by rw [← eH6, upd_ne n12]; exact f1
        have k2 : H6 co2 = some (.dT (tab (Rl05.pairs s) (wf ((Rl05.pairs s).take m ++ [q]) i (conF s)))) := by rw [← eH6]; exact upd_same
        have k3 : H6 ru2 = some (.dT (tab (Rl05.pairs s) (wf ((Rl05.pairs s).take m) i (ruleF s)))) := by rw [← eH6, upd_ne n23.symm]; exact f3
        have U6 : RowsBy H6 pa2 pO us := by
          refine ⟨?_, fun t h => ⟨?_, (U5.at_ t h).2⟩⟩
          · rw [← eH6, upd_ne (ne_of U5.lst f2 (by intro z; cases z))]
            exact U5.lst
          · rw [← eH6, upd_ne (ne_of (U5.at_ t h).1 f2 (by intro z; cases z))]
            exact (U5.at_ t h).1
        clear eH6
        refine ⟨_, rfl, p, C, dx, _, _, rfl, D6.ins, T.cl, T.nRules, df_rule, _, rfl, ru, _, rfl, tab_get D6.rule hb6 hqm, _, rfl, x, C, dx2, _, _, rfl, i6, T.cl, T.nRules, df_rule, _, rfl, ru2, _, rfl, DPut.t (k := pk q) k3 hb6 (hlen _), ?_⟩
        rw [tab_put hqm, wf_yes hT.1 hT.2]
        rw [take_snoc' hq]
        refine ⟨_, rfl, Ex.mut e6 gru, (upd_ne xr).trans i6, ⟨?_, fun t h => ⟨?_, (U6.at_ t h).2⟩⟩, (upd_ne n13).trans k1, (upd_ne n23).trans k2, upd_same⟩
        · rw [upd_ne (ne_of U6.lst k3 (by intro z; cases z))]
          exact U6.lst
        · rw [upd_ne (ne_of (U6.at_ t h).1 k3 (by intro z; cases z))]
          exact (U6.at_ t h).1
      · have hF : q.1 = i ∨ q.2 = i := by
          have := of_decide_eq_false hF
          omega
        refine ⟨_, rfl, e3.trans e4, e4 _ _ hI, U3.mono e4, ?_, ?_, ?_⟩
        · rw [take_snoc' hq, wf_no hF]
          exact e4 _ _ c1
        · rw [take_snoc' hq, wf_no hF]
          exact e4 _ _ c2
        · rw [take_snoc' hq, wf_no hF]
          exact e4 _ _ c3
    · rintro σ H3 ⟨v, rfl, e3, hI, U3, c1, c2, c3⟩
      have et : (Rl05.pairs s).take (ts.map fun t => V.ref t.1).length = Rl05.pairs s := by
        rw [← er]
        exact List.take_of_length_le (by rw [List.length_map, List.length_map]; exact Nat.le_refl _)
      rw [et] at c1 c2 c3
      refine ⟨_, rfl, k H3 x e3 ⟨dx2, pa2, pr2, co2, ru2, ⟨hI, ⟨us, U3, eu.trans (pairs_n _ _ rfl)⟩, ?_, ?_, ?_, n12, n13, n23, D.lo, D.hi⟩⟩⟩
      · rw [c1]
        exact congrArg (fun y => some (HO.dT y)) (wf_all s i (·.pro) fun a b h => (voteOf_wo_no s h).1)
      · rw [c2]
        exact congrArg (fun y => some (HO.dT y)) (wf_all s i (·.con) fun a b h => (voteOf_wo_no s h).2.1)
      · rw [c3]
        exact congrArg (fun y => some (HO.dT y)) (wf_all s i (·.rule) fun a b h => (voteOf_wo_no s h).2.2)
theorem scWithout : FnScope ["self", "i", "other", "ways"] ["self", "i"] (defScope sWithout) := ⟨rfl, rfl, rfl, by decide +kernel, rfl, by decide +kernel, by decide +kernel⟩
theorem no_woRec {s : Rl05.St} {pa pr co ru : Addr} : (deskF s pa pr co ru).lookup ("without_record" : Str) = none := df_no (by decide +kernel) (by decide +kernel) (by decide +kernel) (by decide +kernel) (by decide +kernel)
theorem ok_without {f fR fH fO : Addr} {fd fdR fdH fdO : FuncData} (F : Fun K "without" "Desk.without" sWithout f fd) (T : Txt K mg C)
    (GR : FnOk P w K mg base CX0 5 fR fdR ["self", "i"] (spWoRec C)) (mR : Meth K C "without_record" fR) (bR : Binds K fdR ["self", "i"] [])
    (GH : FnOk P w K mg base CX0 4 fH fdH ["self"] (spCheapest C)) (mH : Meth K C "cheapest" fH) (bH : Binds K fdH ["self"] [])
    (GO : FnOk P w K mg base CX0 2 fO fdO ["self", "groups"] (spCostOf K C)) (mO : Meth K C "cost_of" fO) (bO : Binds K fdO ["self", "groups"] []) :
    FnOk P w K mg base CX0 6 f fd ["self", "i"] (spOp C aWithout) := by
  refine F.ok scWithout (fun vs H Q E h => ?_) (fun cdv A outer s0 H vs Q E hr h => ?_)
  · obtain ⟨p, pa, s, as, c, rfl, ⟨i, rfl, rfl⟩, _⟩ := h
    rfl
  · obtain ⟨p, pa, s, as, c, rfl, ⟨i, rfl, rfl⟩, ⟨dx, pr, co, ru, D⟩, k⟩ := h
    have k : Done C H p pa s (.without i) Q := k
    obtain ⟨t1, g1⟩ := T.gNP
    obtain ⟨t2, g2⟩ := T.gNK
    have hr4 : Room 4 _ := hr.mono (by decide)
    have hr2 : Room 2 _ := hr.mono (by decide)
    refine ⟨_, pss_cons (ps_if (PW.pt (pw_or (pt_cmpR op_lt (pv 1) pe_int (nomark _)) (pw_or1 (pt_cmpR op_gt (pv 1) (pe_fld (pv 0) rfl) (nomark _)))))
        (pss_one (ps_ret (pe_lst (pa_cons (pe_glob (v := .int (-3)) rfl g1 ⟨_, rfl⟩) pa_nil)))) pss_nil)
      (pss_cons (ps_set (i := 2) scWithout.nd rfl (.inl rfl) (pe_meth (pv 0) T.cl mR GR hr bR .nil pass0 (pa_cons (pv 1) pa_nil)))
      (pss_cons (ps_set (i := 3) scWithout.nd rfl (.inl rfl) (pe_meth0 (pv 2) T.cl mH GH hr4 bH .nil pass0))
      (pss_cons (ps_if (pt_cmpR op_eq (pe_callB call_len_seq (by rfl) T.gLen PySem.boot_len (pa_cons (pv 3) pa_nil)) pe_int (nomark _)) (pss_one (ps_ret (pe_lst (pa_cons (pe_glob (v := .int (-6)) rfl g2 ⟨_, rfl⟩) pa_nil)))) pss_nil)
      (pss_one (ps_ret (pe_lst (pa_cons (pe_meth (pv 2) T.cl mO GO hr2 bO .nil pass0 (pa_cons (pe_ix ix_list (pv 3) pe_int (fun _ _ => rfl)) pa_nil)) pa_nil))))))), ?_⟩
    refine q_when (et_or (et_cmp (ev_var rfl) ev_c rv_I0) fun _ => et_cmp (ev_var rfl) (ev_fld (ev_var rfl) D.ins T.cl T.nSize df_size) rv_I0) (fun hT H1 e1 => ?_) (fun hF H1 e1 => ?_)
    · rw [Bool.or_eq_true, decide_eq_true_eq, decide_eq_true_eq] at hT
      have es : Rl05.step s (.without i) = (s, [-3]) := by
        show (s, if Rl05.isRec s i = false then [-3] else _) = _
        rw [if_pos]
        unfold Rl05.isRec
        rw [Bool.and_eq_false_iff, decide_eq_false_iff_not, decide_eq_false_iff_not]
        omega
      exact s_retL (el_lst (ea_cons ev_c ea_nil) (by decide)) fun r H2 hr2 e2 h2 => k.go D es (fresh_back e1 hr2) (e1.trans e2) h2
    · rw [Bool.or_eq_false_iff, decide_eq_false_iff_not, decide_eq_false_iff_not] at hF
      have hrec : Rl05.isRec s i = true := by
        unfold Rl05.isRec
        rw [Bool.and_eq_true, decide_eq_true_eq, decide_eq_true_eq]
        omega
      have D1 := D.mono e1
      refine ⟨_, rfl, p, dx, _, rfl, D1.ins, no_woRec, _, rfl, p, s, i, rfl, ⟨_, _, _, _, _, D1⟩, fun H2 x e2 ⟨dx2, pa2, pr2, co2, ru2, N⟩ => ?_⟩
      refine ⟨_, rfl, x, dx2, _, rfl, N.ins, no_cheapest, x, wo s i, rfl, ⟨_, _, _, _, _, N⟩, fun H3 wa e3 ⟨ts, R, er⟩ => ?_⟩
      have N3 := N.mono e3
      have e03 := (e1.trans e2).trans e3
      refine q_when (D := { nx := fun _ H' => Q .non H', rt := Q }) (σ := [some (.ref p), some (.int (i : Int)), some (.ref x), some (.ref wa)]) (et_lenN (K := K) (ev_var rfl) (SqL.of R.lst) ev_c) (fun hT H4 e4 => ?_) (fun hF H4 e4 => ?_)
      · have es : Rl05.step s (.without i) = (s, [-6]) := by
          show (s, if Rl05.isRec s i = false then [-3] else match Rl05.without s i with
            | none => [-6]
            | some c => Rl05.ints [c]) = _
          rw [if_neg (by rw [hrec]; exact Bool.noConfusion), without_eq, cheap_nil er hT]
          rfl
        exact s_retL (el_lst (ea_cons ev_c ea_nil) (by decide)) fun r H5 hr5 e5 h5 => k.go D es (fresh_back (e03.trans e4) hr5) ((e03.trans e4).trans e5) h5
      · obtain ⟨c, hc, hcost⟩ := cheap_cons er hF
        obtain ⟨t0, tr, rfl⟩ : ∃ t0 tr, ts = t0 :: tr := by
          cases ts with
          | nil => exact absurd rfl (of_decide_eq_false hF)
          | cons a b => exact ⟨a, b, rfl⟩
        have es : Rl05.step s (.without i) = (s, Rl05.ints [c]) := by
          show (s, if Rl05.isRec s i = false then [-3] else match Rl05.without s i with
            | none => [-6]
            | some c => Rl05.ints [c]) = _
          rw [if_neg (by rw [hrec]; exact Bool.noConfusion), without_eq, hc]
          rfl
        have N4 := N3.mono e4
        have R4 := R.mono e4
        have ha := (R4.at_ t0 List.mem_cons_self).1
        have hmem : t0.2 ∈ cheapL (wo s i) := by rw [← er]; exact List.mem_map_of_mem List.mem_cons_self
        have hlen : t0.2.length = (wo s i).n := mem_cheapL hmem
        have hix : Ev (tOp (rIxL K) (tVar 3) (tC (.int 0))) [some (.ref p), some (.int (i : Int)), some (.ref x), some (.ref wa)] H4 (.ref t0.1) := ev_op (ev_var rfl) ev_c (rv_ixL (SqL.of R4.lst) (at_of (j := 0) rfl rfl))
        refine s_retL (el_lst (ea_cons (ev_meth (ev_var rfl) N4.ins no_costOf (ea_cons hix ea_nil) (sv_costOf ⟨_, _, _, _, _, N4⟩ (SqL.of ha) hlen)) ea_nil) (by show 1 ≤ 100000; decide)) fun r H5 hr5 e5 h5 => k.go D es (fresh_back (e03.trans e4) hr5) ((e03.trans e4).trans e5) ?_
        rw [h5, hcost _ hmem]
        rfl
end
end Lp

namespace Lp
open PySem PySem.Spec PyProof.Rows L2 Evl
abbrev sCallLen : Stmt := top 35
abbrev sAnswer : Stmt := top 36
abbrev sAnswers : Stmt := top 37
/-! ### a call as it stands in the list -/
def callNo : Rl05.Call → Nat
  | .records _ => 0
  | .vote _ _ _ _ => 1
  | .rule _ _ _ => 2
  | .least => 3
  | .nth _ => 4
  | .sure => 5
  | .margin _ _ => 6
  | .cost _ => 7
  | .chain _ => 8
  | .greedy => 9
  | .without _ => 10
  | .counts => 11
def callArgs : Rl05.Call → List Int
  | .records n => [(n : Int)]
  | .vote i j p c => [(i : Int), (j : Int), (p : Int), (c : Int)]
  | .rule i j r => [(i : Int), (j : Int), (r : Int)]
  | .least => []
  | .nth k => [(k : Int)]
  | .sure => []
  | .margin i j => [(i : Int), (j : Int)]
  | .cost g => (g.length : Int) :: Rl05.ints g
  | .chain t => [(t : Int)]
  | .greedy => []
  | .without i => [(i : Int)]
  | .counts => []
def callRow (x : Rl05.Call) : List Int := (callNo x : Int) :: callArgs x
theorem At.row {l t : List Int} {x : Rl05.Call} (h : At l x t) : l = callRow x ++ t := by
  cases h <;> rfl
/-- how many places a call takes, but the numbers of cost -/
def lens : List V := [.int 2, .int 5, .int 4, .int 1, .int 2, .int 1, .int 3, .int 2, .int 2, .int 1, .int 2, .int 1]
theorem lens_at (x : Rl05.Call) (h : callNo x ≠ 7) : lens[callNo x]? = some (.int ((callRow x).length : Int)) := by
  cases x <;> first | rfl | exact absurd rfl h
def spCallLen (K : PySem.W.Frag) : Sp := fun vs H Q _ => ∃ (a : Addr) (ns : List Int) (pl : Nat) (x : Rl05.Call) (t : List Int), vs = [.ref a, .int (pl : Int)] ∧ SqL K H a (ns.map V.int) ∧ ns.drop pl = callRow x ++ t ∧ ∀ H', Ex H H' → Q (.int ((callRow x).length : Int)) H'
theorem drop_at {ns l : List Int} {pl i : Nat} {z : Int} (h : ns.drop pl = l) (hz : l[i]? = some z) : (ns.map V.int)[pl + i]? = some (.int z) := by
  rw [List.getElem?_map, ← List.getElem?_drop, h, hz]
  rfl
section
variable {P : Program} {w : World} {K : PySem.W.Frag} {mg : Str → Option Value} {base : Heap} {C : Addr}
theorem scCallLen : FnScope ["calls", "place", "number"] ["calls", "place"] (defScope sCallLen) := ⟨rfl, rfl, rfl, by decide +kernel, rfl, by decide +kernel, by decide +kernel⟩
theorem ok_callLen {f : Addr} {fd : FuncData} (F : Fun K "call_length" "call_length" sCallLen f fd) (T : Txt K mg C) : FnOk P w K mg base CX0 1 f fd ["calls", "place"] (spCallLen K) := by
  refine F.ok scCallLen (fun vs H Q E h => ?_) (fun cdv A outer s0 H vs Q E hr h => ?_)
  · obtain ⟨a, ns, pl, x, t, rfl, _⟩ := h
    rfl
  · obtain ⟨a, ns, pl, x, t, rfl, ha, hd, k⟩ := h
    obtain ⟨t1, g7⟩ := T.gc7
    obtain ⟨aL, gL, hL⟩ := T.gLENGTHS
    have hL : ∀ H, SqT K H aL lens := hL
    refine ⟨_, pss_cons (ps_set (i := 2) scCallLen.nd rfl (.inl rfl) (pe_ix ix_list (pv 0) (pv 1) (fun _ _ => rfl)))
      (pss_cons (ps_if (pt_cmpR op_eq (pv 2) (pe_glob (v := .int 7) rfl g7 ⟨_, rfl⟩) (nomark _)) (pss_one (ps_ret (pe_op op_add (pe_ix ix_tup (pe_glob (v := .ref aL) rfl gL rfl) (pv 2) (fun _ _ => rfl)) (pe_ix ix_list (pv 0) (pe_op op_add (pv 1) pe_int) (fun _ _ => rfl))))) pss_nil)
      (pss_one (ps_ret (pe_ix ix_tup (pe_glob (v := .ref aL) rfl gL rfl) (pv 2) (fun _ _ => rfl))))), ?_⟩
    refine q_asg (v := .int (callNo x : Int)) (ev_op (ev_var rfl) (ev_var rfl) (rv_ixL ha (at_of (j := pl) rfl (drop_at (i := 0) hd rfl)))) (fun H1 e1 => ?_)
    refine q_when (et_eqI (ev_var rfl) ev_c) (fun hT H2 e2 => ?_) (fun hF H2 e2 => ?_)
    · have hT : callNo x = 7 := by have := of_decide_eq_true hT; omega
      obtain ⟨g, rfl⟩ : ∃ g, x = .cost g := by
        cases x <;> first | exact ⟨_, rfl⟩ | cases hT
      refine s_ret (ev_is (ev_op (ev_op ev_c (ev_var rfl) (rv_ixT (hL H2) (at_of (j := 7) rfl rfl))) (ev_op (ev_var rfl) (ev_op (ev_var rfl) ev_c rv_I0) (rv_ixL (ex_l (e1.trans e2) ha) (at_of (j := pl + 1) (by omega) (drop_at (z := (g.length : Int)) (i := 1) hd rfl)))) rv_I0) ?_) fun H3 e3 => k H3 ((e1.trans e2).trans e3)
      show V.int (2 + (g.length : Int)) = V.int (((Rl05.ints g).length + 1 + 1 : Nat) : Int)
      unfold Rl05.ints
      rw [List.length_map]
      congr 1
      omega
    · have hF : callNo x ≠ 7 := by have := of_decide_eq_false hF; omega
      exact s_ret (ev_op ev_c (ev_var rfl) (rv_ixT (hL H2) (at_of (j := callNo x) rfl (lens_at x hF)))) fun H3 e3 => k H3 ((e1.trans e2).trans e3)
theorem no_cRecords {s : Rl05.St} {pa pr co ru : Addr} : (deskF s pa pr co ru).lookup ("records" : Str) = none := df_no (by decide +kernel) (by decide +kernel) (by decide +kernel) (by decide +kernel) (by decide +kernel)
theorem no_cVote {s : Rl05.St} {pa pr co ru : Addr} : (deskF s pa pr co ru).lookup ("vote" : Str) = none := df_no (by decide +kernel) (by decide +kernel) (by decide +kernel) (by decide +kernel) (by decide +kernel)
theorem no_cRule {s : Rl05.St} {pa pr co ru : Addr} : (deskF s pa pr co ru).lookup ("rule" : Str) = none := df_no (by decide +kernel) (by decide +kernel) (by decide +kernel) (by decide +kernel) (by decide +kernel)
theorem no_cLeast {s : Rl05.St} {pa pr co ru : Addr} : (deskF s pa pr co ru).lookup ("least" : Str) = none := df_no (by decide +kernel) (by decide +kernel) (by decide +kernel) (by decide +kernel) (by decide +kernel)
theorem no_cNth {s : Rl05.St} {pa pr co ru : Addr} : (deskF s pa pr co ru).lookup ("nth" : Str) = none := df_no (by decide +kernel) (by decide +kernel) (by decide +kernel) (by decide +kernel) (by decide +kernel)
theorem no_cSure {s : Rl05.St} {pa pr co ru : Addr} : (deskF s pa pr co ru).lookup ("sure" : Str) = none := df_no (by decide +kernel) (by decide +kernel) (by decide +kernel) (by decide +kernel) (by decide +kernel)
theorem no_cMargin {s : Rl05.St} {pa pr co ru : Addr} : (deskF s pa pr co ru).lookup ("margin" : Str) = none := df_no (by decide +kernel) (by decide +kernel) (by decide +kernel) (by decide +kernel) (by decide +kernel)
theorem no_cCost {s : Rl05.St} {pa pr co ru : Addr} : (deskF s pa pr co ru).lookup ("cost" : Str) = none := df_no (by decide +kernel) (by decide +kernel) (by decide +kernel) (by decide +kernel) (by decide +kernel)
theorem no_cChain {s : Rl05.St} {pa pr co ru : Addr} : (deskF s pa pr co ru).lookup ("chain" : Str) = none := df_no (by decide +kernel) (by decide +kernel) (by decide +kernel) (by decide +kernel) (by decide +kernel)
theorem no_cGreedy {s : Rl05.St} {pa pr co ru : Addr} : (deskF s pa pr co ru).lookup ("greedy" : Str) = none := df_no (by decide +kernel) (by decide +kernel) (by decide +kernel) (by decide +kernel) (by decide +kernel)
theorem no_cWithout {s : Rl05.St} {pa pr co ru : Addr} : (deskF s pa pr co ru).lookup ("without" : Str) = none := df_no (by decide +kernel) (by decide +kernel) (by decide +kernel) (by decide +kernel) (by decide +kernel)
theorem no_cCounts {s : Rl05.St} {pa pr co ru : Addr} : (deskF s pa pr co ru).lookup ("counts" : Str) = none := df_no (by decide +kernel) (by decide +kernel) (by decide +kernel) (by decide +kernel) (by decide +kernel)
theorem Done.mono {H H1 : Hp} {p pa : Addr} {s : Rl05.St} {c : Rl05.Call} {Q : VK} (e : Ex H H1) (k : Done C H p pa s c Q) : Done C H1 p pa s c Q := fun H' r pa' D hpa hK hr h =>
  k H' r pa' D (hpa.imp id fun z => fresh_back e z) ((Ex.keepS e).trans hK) (fresh_back e hr) h
/-- return desk.m(..) -/
theorem ret_op {σ : L2.St} {H : Hp} {ta : TE} {t : TA} {p pa dx pr co ru : Addr} {s : Rl05.St} {x : Rl05.Call} {args : List V → Rl05.Call → Prop} {m : Str} {vs : List V} {De : Ends} (D : DeskBy C H p s dx pa pr co ru) (hl : ∀ pa pr co ru, (deskF s pa pr co ru).lookup m = none) (ha : Ev ta σ H (.ref p)) (hA : EvA t σ H vs) (hargs : args (vs ++ []) x) (k : Done C H p pa s x De.rt) :
    tRet (tMeth C m (spOp C args) [] E0 ta t) De σ H :=
  ha H (Ex.refl H) _ fun H2 e2 => ⟨p, dx, _, rfl, e2 _ _ D.ins, hl _ _ _ _, hA H2 e2 _ fun H3 e3 => ⟨p, pa, s, vs ++ [], x, rfl, hargs, ⟨dx, pr, co, ru, D.mono (e2.trans e3)⟩, k.mono (e2.trans e3)⟩⟩
theorem cutV_from (xs : List V) (m : Nat) : cutV xs (some (m : Int)) none = xs.drop m := by
  unfold cutV
  rw [HT.sIx_nat, HT.sIx_none]
  rcases Nat.le_total m xs.length with h | h
  · rw [Nat.min_eq_left h]
    exact List.take_of_length_le (by rw [List.length_drop]; exact Nat.le_refl _)
  · rw [Nat.min_eq_right h, List.drop_of_length_le h, List.drop_of_length_le (Nat.le_refl _)]
    exact List.take_nil
theorem cutV_row {ns t : List Int} {pl m : Nat} {r : List Int} (h : ns.drop pl = r ++ t) (hm : r.length = m) (h0 : 0 < m) : cutV (ns.map V.int) (some (pl : Int)) (some ((pl + m : Nat) : Int)) = r.map V.int := by
  have hl := congrArg List.length h
  rw [List.length_drop, List.length_append] at hl
  unfold cutV
  rw [HT.sIx_nat, HT.sIx_nat, List.length_map, Nat.min_eq_left (by omega), Nat.min_eq_left (by omega), show pl + m - pl = m by omega, ← List.map_drop, h, ← List.map_take, ← hm, List.take_left]
def spAnswer (K : PySem.W.Frag) (C : Addr) : Sp := fun vs H Q _ => ∃ (p pa a : Addr) (s : Rl05.St) (x : Rl05.Call), vs = [.ref p, .ref a] ∧ SqL K H a ((callRow x).map V.int) ∧ DeskP C H p s pa ∧ Done C H p pa s x Q
theorem scAnswer : FnScope ["desk", "call", "number"] ["desk", "call"] (defScope sAnswer) := ⟨rfl, rfl, rfl, by decide +kernel, rfl, by decide +kernel, by decide +kernel⟩
/-- call[i] -/
theorem ev_arg {σ : L2.St} {H : Hp} {ta ti : TE} {a : Addr} {x : Rl05.Call} {i : Nat} {z : Int} (ha : Ev ta σ H (.ref a)) (hs : SqL K H a ((callRow x).map V.int)) (hi : Ev ti σ H (.int (i : Int))) (hz : (callRow x)[i]? = some z) : Ev (tOp (rIxL K) ta ti) σ H (.int z) :=
  ev_op ha hi (rv_ixL hs (at_of (j := i) rfl (by rw [List.getElem?_map, hz]; rfl)))
structure Meths (P : Program) (w : World) (K : PySem.W.Frag) (mg : Str → Option Value) (base : Heap) (C : Addr) : Prop where
  m0 : ∃ (f : Addr) (fd : FuncData), FnOk P w K mg base CX0 3 f fd ["self", "n"] (spOp C aRecords) ∧ Meth K C "records" f ∧ Binds K fd ["self", "n"] []
  m1 : ∃ (f : Addr) (fd : FuncData), FnOk P w K mg base CX0 2 f fd ["self", "i", "j", "pro", "contra"] (spOp C aVote) ∧ Meth K C "vote" f ∧ Binds K fd ["self", "i", "j", "pro", "contra"] []
  m2 : ∃ (f : Addr) (fd : FuncData), FnOk P w K mg base CX0 2 f fd ["self", "i", "j", "rule"] (spOp C aRule) ∧ Meth K C "rule" f ∧ Binds K fd ["self", "i", "j", "rule"] []
  m3 : ∃ (f : Addr) (fd : FuncData), FnOk P w K mg base CX0 5 f fd ["self"] (spOp C (aNone .least)) ∧ Meth K C "least" f ∧ Binds K fd ["self"] []
  m4 : ∃ (f : Addr) (fd : FuncData), FnOk P w K mg base CX0 5 f fd ["self", "k"] (spOp C aNth) ∧ Meth K C "nth" f ∧ Binds K fd ["self", "k"] []
  m5 : ∃ (f : Addr) (fd : FuncData), FnOk P w K mg base CX0 5 f fd ["self"] (spOp C (aNone .sure)) ∧ Meth K C "sure" f ∧ Binds K fd ["self"] []
  m6 : ∃ (f : Addr) (fd : FuncData), FnOk P w K mg base CX0 4 f fd ["self", "i", "j"] (spOp C aMargin) ∧ Meth K C "margin" f ∧ Binds K fd ["self", "i", "j"] []
  m7 : ∃ (f : Addr) (fd : FuncData), FnOk P w K mg base CX0 4 f fd ["self", "marks"] (spCost K C) ∧ Meth K C "cost" f ∧ Binds K fd ["self", "marks"] []
  m8 : ∃ (f : Addr) (fd : FuncData), FnOk P w K mg base CX0 4 f fd ["self", "t"] (spOp C aChain) ∧ Meth K C "chain" f ∧ Binds K fd ["self", "t"] []
  m9 : ∃ (f : Addr) (fd : FuncData), FnOk P w K mg base CX0 5 f fd ["self"] (spOp C (aNone .greedy)) ∧ Meth K C "greedy" f ∧ Binds K fd ["self"] []
  m10 : ∃ (f : Addr) (fd : FuncData), FnOk P w K mg base CX0 6 f fd ["self", "i"] (spOp C aWithout) ∧ Meth K C "without" f ∧ Binds K fd ["self", "i"] []
  m11 : ∃ (f : Addr) (fd : FuncData), FnOk P w K mg base CX0 1 f fd ["self"] (spOp C (aNone .counts)) ∧ Meth K C "counts" f ∧ Binds K fd ["self"] []
theorem ok_answer {f : Addr} {fd : FuncData} (F : Fun K "answer" "answer" sAnswer f fd) (T : Txt K mg C) (W : Meths P w K mg base C) : FnOk P w K mg base CX0 7 f fd ["desk", "call"] (spAnswer K C) := by
  refine F.ok scAnswer (fun vs H Q E h => ?_) (fun cdv A outer s0 H vs Q E hr h => ?_)
  · obtain ⟨p, pa, a, s, x, rfl, _⟩ := h
    rfl
  · obtain ⟨p, pa, a, s, x, rfl, ha, ⟨dx, pr, co, ru, D⟩, k⟩ := h
    obtain ⟨t0, g0⟩ := T.gc0
    obtain ⟨t1, g1⟩ := T.gc1
    obtain ⟨t2, g2⟩ := T.gc2
    obtain ⟨t3, g3⟩ := T.gc3
    obtain ⟨t4, g4⟩ := T.gc4
    obtain ⟨t5, g5⟩ := T.gc5
    obtain ⟨t6, g6⟩ := T.gc6
    obtain ⟨t7, g7⟩ := T.gc7
    obtain ⟨t8, g8⟩ := T.gc8
    obtain ⟨t9, g9⟩ := T.gc9
    obtain ⟨t10, g10⟩ := T.gc10
    obtain ⟨f0, fd0, G0, M0, B0⟩ := W.m0
    obtain ⟨f1, fd1, G1, M1, B1⟩ := W.m1
    obtain ⟨f2, fd2, G2, M2, B2⟩ := W.m2
    obtain ⟨f3, fd3, G3, M3, B3⟩ := W.m3
    obtain ⟨f4, fd4, G4, M4, B4⟩ := W.m4
    obtain ⟨f5, fd5, G5, M5, B5⟩ := W.m5
    obtain ⟨f6, fd6, G6, M6, B6⟩ := W.m6
    obtain ⟨f7, fd7, G7, M7, B7⟩ := W.m7
    obtain ⟨f8, fd8, G8, M8, B8⟩ := W.m8
    obtain ⟨f9, fd9, G9, M9, B9⟩ := W.m9
    obtain ⟨f10, fd10, G10, M10, B10⟩ := W.m10
    obtain ⟨f11, fd11, G11, M11, B11⟩ := W.m11
    obtain ⟨aL, gL, hL⟩ := T.gLENGTHS
    have hL : ∀ H, SqT K H aL lens := hL
    have hr1 : Room 1 _ := hr.mono (by decide)
    have hr2 : Room 2 _ := hr.mono (by decide)
    have hr3 : Room 3 _ := hr.mono (by decide)
    have hr4 : Room 4 _ := hr.mono (by decide)
    have hr5 : Room 5 _ := hr.mono (by decide)
    refine ⟨_, pss_cons (ps_set (i := 2) scAnswer.nd rfl (.inl rfl) (pe_ix ix_list (pv 1) pe_int (fun _ _ => rfl)))
      (pss_cons (ps_if (pt_cmpR op_eq (pv 2) (pe_glob (v := .int 0) rfl g0 ⟨_, rfl⟩) (nomark _)) (pss_one (ps_ret (pe_meth (pv 0) T.cl M0 G0 hr3 B0 .nil pass0 (pa_cons (pe_ix ix_list (pv 1) pe_int (fun _ _ => rfl)) pa_nil)))) pss_nil)
      (pss_cons (ps_if (pt_cmpR op_eq (pv 2) (pe_glob (v := .int 1) rfl g1 ⟨_, rfl⟩) (nomark _)) (pss_one (ps_ret (pe_meth (pv 0) T.cl M1 G1 hr2 B1 .nil pass0 (pa_cons (pe_ix ix_list (pv 1) pe_int (fun _ _ => rfl)) (pa_cons (pe_ix ix_list (pv 1) pe_int (fun _ _ => rfl)) (pa_cons (pe_ix ix_list (pv 1) pe_int (fun _ _ => rfl)) (pa_cons (pe_ix ix_list (pv 1) pe_int (fun _ _ => rfl)) pa_nil))))))) pss_nil)
      (pss_cons (ps_if (pt_cmpR op_eq (pv 2) (pe_glob (v := .int 2) rfl g2 ⟨_, rfl⟩) (nomark _)) (pss_one (ps_ret (pe_meth (pv 0) T.cl M2 G2 hr2 B2 .nil pass0 (pa_cons (pe_ix ix_list (pv 1) pe_int (fun _ _ => rfl)) (pa_cons (pe_ix ix_list (pv 1) pe_int (fun _ _ => rfl)) (pa_cons (pe_ix ix_list (pv 1) pe_int (fun _ _ => rfl)) pa_nil)))))) pss_nil)
      (pss_cons (ps_if (pt_cmpR op_eq (pv 2) (pe_glob (v := .int 3) rfl g3 ⟨_, rfl⟩) (nomark _)) (pss_one (ps_ret (pe_meth0 (pv 0) T.cl M3 G3 hr5 B3 .nil pass0))) pss_nil)
      (pss_cons (ps_if (pt_cmpR op_eq (pv 2) (pe_glob (v := .int 4) rfl g4 ⟨_, rfl⟩) (nomark _)) (pss_one (ps_ret (pe_meth (pv 0) T.cl M4 G4 hr5 B4 .nil pass0 (pa_cons (pe_ix ix_list (pv 1) pe_int (fun _ _ => rfl)) pa_nil)))) pss_nil)
      (pss_cons (ps_if (pt_cmpR op_eq (pv 2) (pe_glob (v := .int 5) rfl g5 ⟨_, rfl⟩) (nomark _)) (pss_one (ps_ret (pe_meth0 (pv 0) T.cl M5 G5 hr5 B5 .nil pass0))) pss_nil)
      (pss_cons (ps_if (pt_cmpR op_eq (pv 2) (pe_glob (v := .int 6) rfl g6 ⟨_, rfl⟩) (nomark _)) (pss_one (ps_ret (pe_meth (pv 0) T.cl M6 G6 hr4 B6 .nil pass0 (pa_cons (pe_ix ix_list (pv 1) pe_int (fun _ _ => rfl)) (pa_cons (pe_ix ix_list (pv 1) pe_int (fun _ _ => rfl)) pa_nil))))) pss_nil)
      (pss_cons (ps_if (pt_cmpR op_eq (pv 2) (pe_glob (v := .int 7) rfl g7 ⟨_, rfl⟩) (nomark _)) (pss_one (ps_ret (pe_meth (pv 0) T.cl M7 G7 hr4 B7 .nil pass0 (pa_cons (pe_slice sl_list (pv 1) (po_some (pe_ix ix_tup (pe_glob (v := .ref aL) rfl gL rfl) (pe_glob (v := .int 7) rfl g7 ⟨_, rfl⟩) (fun _ _ => rfl))) po_none) pa_nil)))) pss_nil)
      (pss_cons (ps_if (pt_cmpR op_eq (pv 2) (pe_glob (v := .int 8) rfl g8 ⟨_, rfl⟩) (nomark _)) (pss_one (ps_ret (pe_meth (pv 0) T.cl M8 G8 hr4 B8 .nil pass0 (pa_cons (pe_ix ix_list (pv 1) pe_int (fun _ _ => rfl)) pa_nil)))) pss_nil)
      (pss_cons (ps_if (pt_cmpR op_eq (pv 2) (pe_glob (v := .int 9) rfl g9 ⟨_, rfl⟩) (nomark _)) (pss_one (ps_ret (pe_meth0 (pv 0) T.cl M9 G9 hr5 B9 .nil pass0))) pss_nil)
      (pss_cons (ps_if (pt_cmpR op_eq (pv 2) (pe_glob (v := .int 10) rfl g10 ⟨_, rfl⟩) (nomark _)) (pss_one (ps_ret (pe_meth (pv 0) T.cl M10 G10 hr B10 .nil pass0 (pa_cons (pe_ix ix_list (pv 1) pe_int (fun _ _ => rfl)) pa_nil)))) pss_nil)
      (pss_one (ps_ret (pe_meth0 (pv 0) T.cl M11 G11 hr1 B11 .nil pass0)))))))))))))), ?_⟩
    refine q_asg (v := .int (callNo x : Int)) (ev_arg (i := 0) (ev_var rfl) ha ev_c rfl) (fun H0 e0 => ?_)
    refine q_when (et_eqI (ev_var rfl) ev_c) (fun hT H1 e1 => ?_) (fun h0 H1 e1 => ?_)
    · have hT : callNo x = 0 := by have := of_decide_eq_true hT; omega
      have eA := e0.trans e1
      have D1 := D.mono eA
      have k1 := k.mono eA
      have ha1 := ex_l eA ha
      obtain ⟨n, rfl⟩ : ∃ n, x = .records n := by
        cases x <;> first | exact ⟨_, rfl⟩ | cases hT
      exact ret_op D1 (fun _ _ _ _ => no_cRecords) (ev_var rfl) (ea_cons (ev_arg (i := 1) (ev_var rfl) ha1 (ev_c (v := .int ((1 : Nat) : Int))) rfl) ea_nil) ⟨n, rfl, rfl⟩ k1
    have e01 := e0.trans e1
    refine q_when (et_eqI (ev_var rfl) ev_c) (fun hT H1 e1 => ?_) (fun h1 H2 e2 => ?_)
    · have hT : callNo x = 1 := by have := of_decide_eq_true hT; omega
      have eA := e01.trans e1
      have D1 := D.mono eA
      have k1 := k.mono eA
      have ha1 := ex_l eA ha
      obtain ⟨i, j, y, z, rfl⟩ : ∃ i j y z, x = .vote i j y z := by
        cases x <;> first | exact ⟨_, _, _, _, rfl⟩ | cases hT
      exact ret_op D1 (fun _ _ _ _ => no_cVote) (ev_var rfl) (ea_cons (ev_arg (i := 1) (ev_var rfl) ha1 (ev_c (v := .int ((1 : Nat) : Int))) rfl) (ea_cons (ev_arg (i := 2) (ev_var rfl) ha1 (ev_c (v := .int ((2 : Nat) : Int))) rfl) (ea_cons (ev_arg (i := 3) (ev_var rfl) ha1 (ev_c (v := .int ((3 : Nat) : Int))) rfl) (ea_cons (ev_arg (i := 4) (ev_var rfl) ha1 (ev_c (v := .int ((4 : Nat) : Int))) rfl) ea_nil)))) ⟨i, j, y, z, rfl, rfl⟩ k1
    have e02 := e01.trans e2
    refine q_when (et_eqI (ev_var rfl) ev_c) (fun hT H1 e1 => ?_) (fun h2 H3 e3 => ?_)
    · have hT : callNo x = 2 := by have := of_decide_eq_true hT; omega
      have eA := e02.trans e1
      have D1 := D.mono eA
      have k1 := k.mono eA
      have ha1 := ex_l eA ha
      obtain ⟨i, j, y, rfl⟩ : ∃ i j y, x = .rule i j y := by
        cases x <;> first | exact ⟨_, _, _, rfl⟩ | cases hT
      exact ret_op D1 (fun _ _ _ _ => no_cRule) (ev_var rfl) (ea_cons (ev_arg (i := 1) (ev_var rfl) ha1 (ev_c (v := .int ((1 : Nat) : Int))) rfl) (ea_cons (ev_arg (i := 2) (ev_var rfl) ha1 (ev_c (v := .int ((2 : Nat) : Int))) rfl) (ea_cons (ev_arg (i := 3) (ev_var rfl) ha1 (ev_c (v := .int ((3 : Nat) : Int))) rfl) ea_nil))) ⟨i, j, y, rfl, rfl⟩ k1
    have e03 := e02.trans e3
    refine q_when (et_eqI (ev_var rfl) ev_c) (fun hT H1 e1 => ?_) (fun h3 H4 e4 => ?_)
    · have hT : callNo x = 3 := by have := of_decide_eq_true hT; omega
      have eA := e03.trans e1
      have D1 := D.mono eA
      have k1 := k.mono eA
      have ha1 := ex_l eA ha
      obtain rfl : x = .least := by
        cases x <;> first | rfl | cases hT
      exact ret_op D1 (fun _ _ _ _ => no_cLeast) (ev_var rfl) ea_nil ⟨rfl, rfl⟩ k1
    have e04 := e03.trans e4
    refine q_when (et_eqI (ev_var rfl) ev_c) (fun hT H1 e1 => ?_) (fun h4 H5 e5 => ?_)
    · have hT : callNo x = 4 := by have := of_decide_eq_true hT; omega
      have eA := e04.trans e1
      have D1 := D.mono eA
      have k1 := k.mono eA
      have ha1 := ex_l eA ha
      obtain ⟨n, rfl⟩ : ∃ n, x = .nth n := by
        cases x <;> first | exact ⟨_, rfl⟩ | cases hT
      exact ret_op D1 (fun _ _ _ _ => no_cNth) (ev_var rfl) (ea_cons (ev_arg (i := 1) (ev_var rfl) ha1 (ev_c (v := .int ((1 : Nat) : Int))) rfl) ea_nil) ⟨n, rfl, rfl⟩ k1
    have e05 := e04.trans e5
    refine q_when (et_eqI (ev_var rfl) ev_c) (fun hT H1 e1 => ?_) (fun h5 H6 e6 => ?_)
    · have hT : callNo x = 5 := by have := of_decide_eq_true hT; omega
      have eA := e05.trans e1
      have D1 := D.mono eA
      have k1 := k.mono eA
      have ha1 := ex_l eA ha
      obtain rfl : x = .sure := by
        cases x <;> first | rfl | cases hT
      exact ret_op D1 (fun _ _ _ _ => no_cSure) (ev_var rfl) ea_nil ⟨rfl, rfl⟩ k1
    have e06 := e05.trans e6
    refine q_when (et_eqI (ev_var rfl) ev_c) (fun hT H1 e1 => ?_) (fun h6 H7 e7 => ?_)
    · have hT : callNo x = 6 := by have := of_decide_eq_true hT; omega
      have eA := e06.trans e1
      have D1 := D.mono eA
      have k1 := k.mono eA
      have ha1 := ex_l eA ha
      obtain ⟨i, j, rfl⟩ : ∃ i j, x = .margin i j := by
        cases x <;> first | exact ⟨_, _, rfl⟩ | cases hT
      exact ret_op D1 (fun _ _ _ _ => no_cMargin) (ev_var rfl) (ea_cons (ev_arg (i := 1) (ev_var rfl) ha1 (ev_c (v := .int ((1 : Nat) : Int))) rfl) (ea_cons (ev_arg (i := 2) (ev_var rfl) ha1 (ev_c (v := .int ((2 : Nat) : Int))) rfl) ea_nil)) ⟨i, j, rfl, rfl⟩ k1
    have e07 := e06.trans e7
    refine q_when (et_eqI (ev_var rfl) ev_c) (fun hT H1 e1 => ?_) (fun h7 H8 e8 => ?_)
    · have hT : callNo x = 7 := by have := of_decide_eq_true hT; omega
      have eA := e07.trans e1
      have D1 := D.mono eA
      have k1 := k.mono eA
      have ha1 := ex_l eA ha
      obtain ⟨g, rfl⟩ : ∃ g, x = .cost g := by
        cases x <;> first | exact ⟨_, rfl⟩ | cases hT
      have hcut : cutV ((callRow (.cost g)).map V.int) (some ((2 : Nat) : Int)) none = iv g := by
        rw [cutV_from, iv_ints]
        rfl
      refine ⟨_, rfl, p, dx, _, rfl, D1.ins, no_cCost, el_sl (K := K) (σ := [some (.ref p), some (.ref a), some (.int ((7 : Nat) : Int))]) (ev_var (i := 1) rfl) (eo_some (ev_op ev_c ev_c (rv_ixT (hL H1) (at_of (j := 7) rfl rfl)))) eo_none ha1 H1 (Ex.refl H1) _ fun b H2 hb e2 h2 => ?_⟩
      exact ⟨p, pa, b, s, g, rfl, SqL.of (by rw [h2]; exact congrArg (fun y => some (HO.lst y)) hcut), ⟨dx, pr, co, ru, D1.mono e2⟩, k1.mono e2⟩
    have e08 := e07.trans e8
    refine q_when (et_eqI (ev_var rfl) ev_c) (fun hT H1 e1 => ?_) (fun h8 H9 e9 => ?_)
    · have hT : callNo x = 8 := by have := of_decide_eq_true hT; omega
      have eA := e08.trans e1
      have D1 := D.mono eA
      have k1 := k.mono eA
      have ha1 := ex_l eA ha
      obtain ⟨n, rfl⟩ : ∃ n, x = .chain n := by
        cases x <;> first | exact ⟨_, rfl⟩ | cases hT
      exact ret_op D1 (fun _ _ _ _ => no_cChain) (ev_var rfl) (ea_cons (ev_arg (i := 1) (ev_var rfl) ha1 (ev_c (v := .int ((1 : Nat) : Int))) rfl) ea_nil) ⟨n, rfl, rfl⟩ k1
    have e09 := e08.trans e9
    refine q_when (et_eqI (ev_var rfl) ev_c) (fun hT H1 e1 => ?_) (fun h9 H10 e10 => ?_)
    · have hT : callNo x = 9 := by have := of_decide_eq_true hT; omega
      have eA := e09.trans e1
      have D1 := D.mono eA
      have k1 := k.mono eA
      have ha1 := ex_l eA ha
      obtain rfl : x = .greedy := by
        cases x <;> first | rfl | cases hT
      exact ret_op D1 (fun _ _ _ _ => no_cGreedy) (ev_var rfl) ea_nil ⟨rfl, rfl⟩ k1
    have e010 := e09.trans e10
    refine q_when (et_eqI (ev_var rfl) ev_c) (fun hT H1 e1 => ?_) (fun h10 H11 e11 => ?_)
    · have hT : callNo x = 10 := by have := of_decide_eq_true hT; omega
      have eA := e010.trans e1
      have D1 := D.mono eA
      have k1 := k.mono eA
      have ha1 := ex_l eA ha
      obtain ⟨n, rfl⟩ : ∃ n, x = .without n := by
        cases x <;> first | exact ⟨_, rfl⟩ | cases hT
      exact ret_op D1 (fun _ _ _ _ => no_cWithout) (ev_var rfl) (ea_cons (ev_arg (i := 1) (ev_var rfl) ha1 (ev_c (v := .int ((1 : Nat) : Int))) rfl) ea_nil) ⟨n, rfl, rfl⟩ k1
    have e011 := e010.trans e11
    have eA := e011
    have D1 := D.mono eA
    have k1 := k.mono eA
    obtain rfl : x = .counts := by
      have h0 := of_decide_eq_false h0
      have h1 := of_decide_eq_false h1
      have h2 := of_decide_eq_false h2
      have h3 := of_decide_eq_false h3
      have h4 := of_decide_eq_false h4
      have h5 := of_decide_eq_false h5
      have h6 := of_decide_eq_false h6
      have h7 := of_decide_eq_false h7
      have h8 := of_decide_eq_false h8
      have h9 := of_decide_eq_false h9
      have h10 := of_decide_eq_false h10
      cases x <;> first | rfl | (exfalso; simp [callNo] at *)
    exact ret_op D1 (fun _ _ _ _ => no_cCounts) (ev_var rfl) ea_nil ⟨rfl, rfl⟩ k1
end
end Lp

namespace Lp
open PySem PySem.Spec PyProof.Rows L2 Evl
def spAns (K : PySem.W.Frag) : Sp := fun vs H Q _ => ∃ (a : Addr) (ns : List Int), vs = [.ref a] ∧ SqL K H a (ns.map V.int) ∧ PyRl05.answers_asked ns = true ∧
  ∀ (H' : Hp) (p : Addr), H' p = some (.lst ((PyRl05.answers ns).map V.int)) → Q (.ref p) H'
theorem Parsed.nil_of {xs : List Rl05.Call} (h : Parsed [] xs) : xs = [] := by
  cases h with
  | nil => rfl
  | cons h r => cases h
theorem Parsed.head {l : List Int} {xs : List Rl05.Call} (h : Parsed l xs) (hl : l ≠ []) : ∃ x t ys, xs = x :: ys ∧ l = callRow x ++ t ∧ Parsed t ys := by
  cases h with
  | nil => exact absurd rfl hl
  | @cons _ t x ys h r => exact ⟨x, t, ys, rfl, h.row, r⟩
theorem DeskP.list {C : Addr} {H : Hp} {p pa tl : Addr} {s : Rl05.St} {l l' : List V} (h : DeskP C H p s pa) (hn : pa ≠ tl) (ht : H tl = some (.lst l)) : DeskP C (upd H tl (.lst l')) p s pa := by
  obtain ⟨dx, pr, co, ru, D⟩ := h
  obtain ⟨ts, R, er⟩ := D.pairs
  refine ⟨dx, pr, co, ru, ⟨?_, ⟨ts, ⟨?_, fun t h => ⟨?_, (R.at_ t h).2⟩⟩, er⟩, ?_, ?_, ?_, D.d1, D.d2, D.d3, D.lo, D.hi⟩⟩
  · rw [upd_ne (ne_of D.ins ht (by intro z; cases z))]
    exact D.ins
  · rw [upd_ne hn]
    exact R.lst
  · rw [upd_ne (ne_of (R.at_ t h).1 ht (by intro z; cases z))]
    exact (R.at_ t h).1
  · rw [upd_ne (ne_of D.pro ht (by intro z; cases z))]
    exact D.pro
  · rw [upd_ne (ne_of D.con ht (by intro z; cases z))]
    exact D.con
  · rw [upd_ne (ne_of D.rule ht (by intro z; cases z))]
    exact D.rule
theorem KeepS.mut {H H' : Hp} {p : Addr} {o : HO} (h : KeepS H H') (hp : H p = none) : KeepS H (upd H' p o) := fun b u hb h1 h2 => by
  rw [upd_ne (ne_of_none hb hp)]
  exact h b u hb h1 h2
section
variable {P : Program} {w : World} {K : PySem.W.Frag} {mg : Str → Option Value} {base : Heap} {C : Addr}
theorem scAnswers : FnScope ["calls", "desk", "told", "place", "behind", "one"] ["calls"] (defScope sAnswers) := ⟨rfl, rfl, rfl, by decide +kernel, rfl, by decide +kernel, by decide +kernel⟩
theorem ok_answers {f fN fL fA : Addr} {fd fdN fdL fdA : FuncData} (F : Fun K "answers" "answers" sAnswers f fd) (T : Txt K mg C) (M : Mk K C fN)
    (GN : FnOk P w K mg base CX0 3 fN fdN ["self"] (spInit C)) (bN : Binds K fdN ["self"] [])
    (GL : FnOk P w K mg base CX0 1 fL fdL ["calls", "place"] (spCallLen K)) (gL : mg "call_length" = some (.ref fL)) (kL : PySem.W.keepIn K (.ref fL) = true) (bL : Binds K fdL ["calls", "place"] [])
    (GA : FnOk P w K mg base CX0 7 fA fdA ["desk", "call"] (spAnswer K C)) (gA : mg "answer" = some (.ref fA)) (kA : PySem.W.keepIn K (.ref fA) = true) (bA : Binds K fdA ["desk", "call"] []) :
    FnOk P w K mg base CX0 8 f fd ["calls"] (spAns K) := by
  refine F.ok scAnswers (fun vs H Q E h => ?_) (fun cdv A outer s0 H vs Q E hr h => ?_)
  · obtain ⟨a, ns, rfl, _⟩ := h
    rfl
  · obtain ⟨a, ns, rfl, ha, hask, k⟩ := h
    obtain ⟨xs0, hpar0, _, hans, hbig⟩ := asked_parsed hask
    have hr4 : Room (3 + 1) _ := hr.mono (by decide)
    have hr1 : Room 1 _ := hr.mono (by decide)
    refine ⟨_, pss_cons (ps_set (i := 1) scAnswers.nd rfl (.inl rfl) (pe_make0 M GN hr4 rfl T.gC bN .nil pass0))
      (pss_cons (ps_set (i := 2) scAnswers.nd rfl (.inl rfl) (pe_lst pa_nil))
      (pss_cons (ps_set (i := 3) scAnswers.nd rfl (.inl rfl) pe_int)
      (pss_cons (ps_while PassesOwn.never (pt_cmpR op_lt (pv 3) (pe_callB call_len_seq (by rfl) T.gLen PySem.boot_len (pa_cons (pv 0) pa_nil)) (nomark _))
        (pss_cons (ps_set (i := 4) scAnswers.nd rfl (.inl rfl) (pe_op op_add (pv 3) (pe_call GL hr1 rfl gL kL bL .nil pass0 (pa_cons (pv 0) (pa_cons (pv 3) pa_nil)))))
        (pss_cons (ps_set (i := 5) scAnswers.nd rfl (.inl rfl) (pe_call GA hr rfl gA kA bA .nil pass0 (pa_cons (pv 1) (pa_cons (pe_slice sl_list (pv 0) (po_some (pv 3)) (po_some (pv 4))) pa_nil))))
        (pss_cons (ps_expr (pe_bm PySem.F.plainAttrs_list PySem.F.slot_list_append PySem.F.type_list_append mt_append (pv 2) (pa_cons (pe_callB call_len_seq (by rfl) T.gLen PySem.boot_len (pa_cons (pv 5) pa_nil)) pa_nil)))
        (pss_cons (ps_expr (pe_bm PySem.F.plainAttrs_list PySem.F.slot_list_extend PySem.F.type_list_extend mt_extend (pv 2) (pa_cons (pv 5) pa_nil)))
        (pss_one (ps_set (i := 3) scAnswers.nd rfl (.inl rfl) (pv 4))))))))
      (pss_one (ps_ret (pv 2)))))), ?_⟩
    -- desk = Desk()
    refine fun d dx1 hd hdx ndx => ⟨d, dx1, rfl, upd_same, fun H1 pa1 D1 hpa1 b1 => ⟨rfl, ?_⟩⟩
    have e1 : Ex H H1 := fun b o hb => b1 b o (by rw [upd_ne (ne_of_none hb hd), upd_ne (ne_of_none hb hdx)]; exact hb) (ne_of_none hb hd)
    -- told = [], place = 0
    refine q_asgL (σ := [some (.ref a), some (.ref d), none, none, none, none]) (el_lst ea_nil (by decide)) (fun tl H2 htl e2 h2 => q_asg ev_c (fun H3 e3 => ?_))
    have htlH : H tl = none := fresh_back e1 htl
    have hpt : pa1 ≠ tl := fun z => by
      obtain ⟨_, _, _, _, DD⟩ := D1
      obtain ⟨ts, R, _⟩ := DD.pairs
      rw [← z, R.lst] at htl
      cases htl
    refine q_while (σ := [some (.ref a), some (.ref d), some (.ref tl), some (.int 0), none, none]) (fun m σ H' => ∃ (pl : Nat) (s : Rl05.St) (xs : List Rl05.Call) (out : List Int) (pa : Addr) (v4 v5 : Option V), σ = [some (.ref a), some (.ref d), some (.ref tl), some (.int (pl : Int)), v4, v5] ∧ KeepS H H' ∧ DeskP C H' d s pa ∧ pa ≠ tl ∧ H' tl = some (.lst (out.map V.int)) ∧
        Parsed (ns.drop pl) xs ∧ out ++ plays s xs = PyRl05.answers ns ∧ m = xs.length)
      xs0.length ⟨0, Rl05.init, xs0, [], pa1, none, none, rfl, (Ex.keepS e1).ex (e2.trans e3), D1.mono (e2.trans e3), hpt, e3 _ _ h2, hpar0, hans.symm, rfl⟩ ?_
    rintro m σ H4 ⟨pl, s, xs, out, pa, v4, v5, rfl, hK, D4, hpt, h4, hpar, hout, rfl⟩
    have ha4 := hK.seq ha
    refine ⟨decide ((pl : Int) < ((ns.map V.int).length : Int)), et_cmp (ev_var rfl) (ev_len (K := K) (ev_var rfl) ha4) rv_I0, fun hT H5 e5 => ?_, fun hF H5 e5 => ?_⟩
    · have hT := of_decide_eq_true hT
      rw [List.length_map] at hT
      have hne : ns.drop pl ≠ [] := fun z => by
        have := congrArg List.length z
        rw [List.length_drop] at this
        simp at this
        omega
      obtain ⟨x, t, ys, rfl, hrow, hpar'⟩ := hpar.head hne
      have hK5 := hK.ex e5
      have ha5 := hK5.seq ha
      have hlen0 : 0 < (callRow x).length := Nat.succ_pos _
      have htd : ns.drop (pl + (callRow x).length) = t := by
        rw [← List.drop_drop, hrow, List.drop_left]
      refine ⟨fun σ H' => ∃ (pa : Addr) (v5 : Option V), σ = [some (.ref a), some (.ref d), some (.ref tl), some (.int ((pl + (callRow x).length : Nat) : Int)), some (.int ((pl + (callRow x).length : Nat) : Int)), v5] ∧ KeepS H H' ∧ DeskP C H' d (Rl05.step s x).1 pa ∧ pa ≠ tl ∧ H' tl = some (.lst ((out ++ (((Rl05.step s x).2.length : Int) :: (Rl05.step s x).2)).map V.int)), ?_, ?_⟩
      · rintro σ H6 ⟨pa6, v5, rfl, hK6, D6, hpt6, h6⟩
        refine ⟨ys.length, Nat.lt_succ_self _, pl + (callRow x).length, (Rl05.step s x).1, ys, _, pa6, _, v5, rfl, hK6, D6, hpt6, h6, ?_, ?_, rfl⟩
        · rw [htd]
          exact hpar'
        · rw [← hout, List.append_assoc]
          rfl
      · -- behind = ..
        refine q_asg (v := .int ((pl + (callRow x).length : Nat) : Int)) (ev_is (ev_op (ev_var rfl) (ev_call (ea_cons (ev_var rfl) (ea_cons (ev_var rfl) ea_nil)) (fun H6 e6 Q q E => ⟨a, ns, pl, x, t, rfl, ex_l e6 ha5, hrow, q⟩)) rv_I0) (by rw [Int.natCast_add])) (fun H6 e6 => ?_)
        have hK6 := hK5.ex e6
        have ha6 := hK6.seq ha
        have D6 := D4.mono (e5.trans e6)
        have h6 := e6 _ _ (e5 _ _ h4)
        -- one = ..
        refine ⟨_, rfl, el_sl (K := K) (σ := [some (.ref a), some (.ref d), some (.ref tl), some (.int (pl : Int)), some (.int ((pl + (callRow x).length : Nat) : Int)), v5]) (ev_var (i := 0) rfl) (eo_some (ev_var (i := 3) rfl)) (eo_some (ev_var (i := 4) rfl)) ha6 H6 (Ex.refl H6) _ fun b H7 hb e7 h7 => ?_⟩
        rw [cutV_row hrow rfl hlen0] at h7
        have h7t := e7 _ _ h6
        refine ⟨d, pa, b, s, x, rfl, SqL.of h7, D6.mono e7, fun H8 r pa8 D8 hpa8 hK78 hr8 h8 => ?_⟩
        have hK8 := (hK6.ex e7).trans hK78
        have h8t : H8 tl = some (.lst (out.map V.int)) := hK78 _ _ h7t (by intro _ _ _ z; cases z) (by intro _ z; cases z)
        have hpt8 : pa8 ≠ tl := by
          rcases hpa8 with z | z
          · rw [z]; exact hpt
          · intro q
            rw [q, h7t] at z
            cases z
        have hrt : r ≠ tl := fun q => by
          rw [q, h7t] at hr8
          cases hr8
        -- the bounds
        have hsz : out.length + (1 + (Rl05.step s x).2.length) ≤ 10000000 := by
          have := congrArg List.length hout
          rw [List.length_append] at this
          have h2 : (plays s (x :: ys)).length = (Rl05.step s x).2.length + 1 + (plays (Rl05.step s x).1 ys).length := by
            show ((((Rl05.step s x).2.length : Int) :: (Rl05.step s x).2) ++ plays (Rl05.step s x).1 ys).length = _
            rw [List.length_append, List.length_cons]
          omega
        have hline : (10000000 : Nat) < sizeLine := by decide
        -- told.append(len(one))
        refine ⟨_, rfl, .inl ⟨rfl, _, SqL.of h8t⟩, _, rfl, r, _, rfl, .inl (SqL.of h8), tl, _, _, rfl, rfl, h8t, by rw [List.length_map]; omega, ?_⟩
        rw [List.length_map]
        -- told.extend(one)
        refine ⟨_, rfl, .inl ⟨rfl, _, SqL.of upd_same⟩, _, rfl, tl, r, _, _, rfl, rfl, upd_same, (upd_ne hrt).trans h8, ?_, ?_⟩
        · rw [List.length_append, List.length_map, List.length_map]
          show out.length + 1 + (Rl05.step s x).2.length ≤ sizeLine
          omega
        · refine s_asg (σ := [some (.ref a), some (.ref d), some (.ref tl), some (.int (pl : Int)), some (.int ((pl + (callRow x).length : Nat) : Int)), some (.ref r)]) (ev_var (i := 4) rfl) fun H9 e9 => ?_
          refine ⟨pa8, _, rfl, ((hK8.mut htlH).mut htlH).ex e9, ((D8.list hpt8 h8t).list hpt8 upd_same).mono e9, hpt8, e9 _ _ ?_⟩
          rw [upd_same, List.map_append, List.map_cons, List.append_assoc]
          rfl
    · have hF := of_decide_eq_false hF
      rw [List.length_map] at hF
      have hnil : ns.drop pl = [] := List.drop_of_length_le (by omega)
      rw [hnil] at hpar
      have hx := hpar.nil_of
      subst hx
      refine ⟨_, rfl, k H5 tl ?_⟩
      have : out = PyRl05.answers ns := by
        rw [← hout]
        exact (List.append_nil _).symm
      rw [← this]
      exact e5 _ _ h4
end
end Lp

namespace Lp
open PySem PySem.Spec PyProof.Rows L2 Evl
open PySem.W (Codec)
theorem all_mk {P : Program} {w : World} {K : PySem.W.Frag} {h : Heap} {mg : Str → Option Value} {fa C aL f0 f1 f2 f3 f4 f5 f6 f7 f8 f9 f10 f11 f12 f13 f14 f15 f16 f17 f18 f19 f20 f21 f22 f23 f24 f25 f26 f27 f28 f29 f30 f31 f32 f33 f34 f35 f36 f37 f38 f39 : Addr} (X : K.In h) (G : h.Ns mainGlobals mg) (hfa : mg "answers" = some (.ref fa))
    {dL od0 an0 od1 an1 od2 an2 od3 an3 od4 an4 od5 an5 od6 an6 od7 an7 od8 an8 od9 an9 od10 an10 od11 an11 od12 an12 od13 an13 od14 an14 od15 an15 od16 an16 od17 an17 od18 an18 od19 an19 od20 an20 od21 an21 od22 an22 od23 an23 od24 an24 od25 an25 od26 an26 od27 an27 od28 an28 od29 an29 od30 an30 od31 an31 od32 an32 od33 an33 od34 an34 od35 an35 od36 an36 od37 an37 od38 an38 od39 an39 : Option Addr} {slL sl0 sl1 sl2 sl3 sl4 sl5 sl6 sl7 sl8 sl9 sl10 sl11 sl12 sl13 sl14 sl15 sl16 sl17 sl18 sl19 sl20 sl21 sl22 sl23 sl24 sl25 sl26 sl27 sl28 sl29 sl30 sl31 sl32 sl33 sl34 sl35 sl36 sl37 sl38 sl39 : Array (Option Value)} {nL : Nat} {oc0 kV0 dc0 pm0 cd0 ct0 oc1 kV1 dc1 pm1 cd1 ct1 oc2 kV2 dc2 pm2 cd2 ct2 oc3 kV3 dc3 pm3 cd3 ct3 oc4 kV4 dc4 pm4 cd4 ct4 oc5 kV5 dc5 pm5 cd5 ct5 oc6 kV6 dc6 pm6 cd6 ct6 oc7 kV7 dc7 pm7 cd7 ct7 oc8 kV8 dc8 pm8 cd8 ct8 oc9 kV9 dc9 pm9 cd9 ct9 oc10 kV10 dc10 pm10 cd10 ct10 oc11 kV11 dc11 pm11 cd11 ct11 oc12 kV12 dc12 pm12 cd12 ct12 oc13 kV13 dc13 pm13 cd13 ct13 oc14 kV14 dc14 pm14 cd14 ct14 oc15 kV15 dc15 pm15 cd15 ct15 oc16 kV16 dc16 pm16 cd16 ct16 oc17 kV17 dc17 pm17 cd17 ct17 oc18 kV18 dc18 pm18 cd18 ct18 oc19 kV19 dc19 pm19 cd19 ct19 oc20 kV20 dc20 pm20 cd20 ct20 oc21 kV21 dc21 pm21 cd21 ct21 oc22 kV22 dc22 pm22 cd22 ct22 oc23 kV23 dc23 pm23 cd23 ct23 oc24 kV24 dc24 pm24 cd24 ct24 oc25 kV25 dc25 pm25 cd25 ct25 oc26 kV26 dc26 pm26 cd26 ct26 oc27 kV27 dc27 pm27 cd27 ct27 oc28 kV28 dc28 pm28 cd28 ct28 oc29 kV29 dc29 pm29 cd29 ct29 oc30 kV30 dc30 pm30 cd30 ct30 oc31 kV31 dc31 pm31 cd31 ct31 oc32 kV32 dc32 pm32 cd32 ct32 oc33 kV33 dc33 pm33 cd33 ct33 oc34 kV34 dc34 pm34 cd34 ct34 oc35 kV35 dc35 pm35 cd35 ct35 oc36 kV36 dc36 pm36 cd36 ct36 oc37 kV37 dc37 pm37 cd37 ct37 oc38 kV38 dc38 pm38 cd38 ct38 oc39 kV39 dc39 pm39 cd39 ct39 : Value} {t0 t1 t2 t3 t4 t5 t6 t7 t8 t9 t10 t11 t12 t13 t14 t15 t16 t17 t18 t19 t20 t21 u0 u1 u2 u3 u4 u5 u6 u7 u8 u9 u10 u11 : Tok}
    (aC : PySem.W.nsIn K mainGlobals "Desk" = some (some (.ref C)))
    (a0 : PySem.W.nsIn K mainGlobals "all_pairs" = some (some (.ref f0)))
    (l0 : K.lookup f0 = some ⟨oc0, od0, .func (PySem.W.fnOf "all_pairs" "all_pairs" (defArgs sAllPairs) (defBody sAllPairs) (defScope sAllPairs) .none kV0 dc0 pm0 an0 cd0 ct0), sl0⟩)
    (c0 : PySem.W.codeIn K cd0 "all_pairs" = true)
    (k0 : PySem.W.keepIn K (.ref f0) = true)
    (a1 : PySem.W.nsIn K mainGlobals "all_groups" = some (some (.ref f1)))
    (l1 : K.lookup f1 = some ⟨oc1, od1, .func (PySem.W.fnOf "all_groups" "all_groups" (defArgs sAllGroups) (defBody sAllGroups) (defScope sAllGroups) .none kV1 dc1 pm1 an1 cd1 ct1), sl1⟩)
    (c1 : PySem.W.codeIn K cd1 "all_groups" = true)
    (k1 : PySem.W.keepIn K (.ref f1) = true)
    (a2 : PySem.W.nsIn K mainGlobals "groups_of" = some (some (.ref f2)))
    (l2 : K.lookup f2 = some ⟨oc2, od2, .func (PySem.W.fnOf "groups_of" "groups_of" (defArgs sGroupsOf) (defBody sGroupsOf) (defScope sGroupsOf) .none kV2 dc2 pm2 an2 cd2 ct2), sl2⟩)
    (c2 : PySem.W.codeIn K cd2 "groups_of" = true)
    (k2 : PySem.W.keepIn K (.ref f2) = true)
    (a3 : PySem.W.nsIn K mainGlobals "with_joined" = some (some (.ref f3)))
    (l3 : K.lookup f3 = some ⟨oc3, od3, .func (PySem.W.fnOf "with_joined" "with_joined" (defArgs sWith) (defBody sWith) (defScope sWith) .none kV3 dc3 pm3 an3 cd3 ct3), sl3⟩)
    (c3 : PySem.W.codeIn K cd3 "with_joined" = true)
    (k3 : PySem.W.keepIn K (.ref f3) = true)
    (a4 : PySem.W.nsIn K mainGlobals "linked_groups" = some (some (.ref f4)))
    (l4 : K.lookup f4 = some ⟨oc4, od4, .func (PySem.W.fnOf "linked_groups" "linked_groups" (defArgs sLinked) (defBody sLinked) (defScope sLinked) .none kV4 dc4 pm4 an4 cd4 ct4), sl4⟩)
    (c4 : PySem.W.codeIn K cd4 "linked_groups" = true)
    (k4 : PySem.W.keepIn K (.ref f4) = true)
    (a5 : PySem.W.nsIn K mainGlobals "is_together" = some (some (.ref f5)))
    (l5 : K.lookup f5 = some ⟨oc5, od5, .func (PySem.W.fnOf "is_together" "is_together" (defArgs sTog) (defBody sTog) (defScope sTog) .none kV5 dc5 pm5 an5 cd5 ct5), sl5⟩)
    (c5 : PySem.W.codeIn K cd5 "is_together" = true)
    (k5 : PySem.W.keepIn K (.ref f5) = true)
    (a6 : PySem.W.nsIn K mainGlobals "together_in_all" = some (some (.ref f6)))
    (l6 : K.lookup f6 = some ⟨oc6, od6, .func (PySem.W.fnOf "together_in_all" "together_in_all" (defArgs sTIA) (defBody sTIA) (defScope sTIA) .none kV6 dc6 pm6 an6 cd6 ct6), sl6⟩)
    (c6 : PySem.W.codeIn K cd6 "together_in_all" = true)
    (k6 : PySem.W.keepIn K (.ref f6) = true)
    (a7 : PySem.W.nsIn K mainGlobals "parted_in_all" = some (some (.ref f7)))
    (l7 : K.lookup f7 = some ⟨oc7, od7, .func (PySem.W.fnOf "parted_in_all" "parted_in_all" (defArgs sPIA) (defBody sPIA) (defScope sPIA) .none kV7 dc7 pm7 an7 cd7 ct7), sl7⟩)
    (c7 : PySem.W.codeIn K cd7 "parted_in_all" = true)
    (k7 : PySem.W.keepIn K (.ref f7) = true)
    (a8 : PySem.W.nsIn K mainGlobals "told_pairs" = some (some (.ref f8)))
    (l8 : K.lookup f8 = some ⟨oc8, od8, .func (PySem.W.fnOf "told_pairs" "told_pairs" (defArgs sTold) (defBody sTold) (defScope sTold) .none kV8 dc8 pm8 an8 cd8 ct8), sl8⟩)
    (c8 : PySem.W.codeIn K cd8 "told_pairs" = true)
    (k8 : PySem.W.keepIn K (.ref f8) = true)
    (a9 : PySem.W.nsIn K mainGlobals "told_lowest" = some (some (.ref f9)))
    (l9 : K.lookup f9 = some ⟨oc9, od9, .func (PySem.W.fnOf "told_lowest" "told_lowest" (defArgs sLowest) (defBody sLowest) (defScope sLowest) .none kV9 dc9 pm9 an9 cd9 ct9), sl9⟩)
    (c9 : PySem.W.codeIn K cd9 "told_lowest" = true)
    (k9 : PySem.W.keepIn K (.ref f9) = true)
    (a10 : PySem.W.nsIn K mainGlobals "call_length" = some (some (.ref f10)))
    (l10 : K.lookup f10 = some ⟨oc10, od10, .func (PySem.W.fnOf "call_length" "call_length" (defArgs sCallLen) (defBody sCallLen) (defScope sCallLen) .none kV10 dc10 pm10 an10 cd10 ct10), sl10⟩)
    (c10 : PySem.W.codeIn K cd10 "call_length" = true)
    (k10 : PySem.W.keepIn K (.ref f10) = true)
    (a11 : PySem.W.nsIn K mainGlobals "answer" = some (some (.ref f11)))
    (l11 : K.lookup f11 = some ⟨oc11, od11, .func (PySem.W.fnOf "answer" "answer" (defArgs sAnswer) (defBody sAnswer) (defScope sAnswer) .none kV11 dc11 pm11 an11 cd11 ct11), sl11⟩)
    (c11 : PySem.W.codeIn K cd11 "answer" = true)
    (k11 : PySem.W.keepIn K (.ref f11) = true)
    (a12 : PySem.W.nsIn K mainGlobals "answers" = some (some (.ref f12)))
    (l12 : K.lookup f12 = some ⟨oc12, od12, .func (PySem.W.fnOf "answers" "answers" (defArgs sAnswers) (defBody sAnswers) (defScope sAnswers) .none kV12 dc12 pm12 an12 cd12 ct12), sl12⟩)
    (c12 : PySem.W.codeIn K cd12 "answers" = true)
    (k12 : PySem.W.keepIn K (.ref f12) = true)
    (a13 : PySem.W.findIn K (.ref C) "__init__" = some (some (.ref f13)))
    (i13 : PySem.W.isFn K (.ref f13) = true)
    (l13 : K.lookup f13 = some ⟨oc13, od13, .func (PySem.W.fnOf "__init__" "Desk.__init__" (defArgs sInit) (defBody sInit) (defScope sInit) .none kV13 dc13 pm13 an13 cd13 ct13), sl13⟩)
    (c13 : PySem.W.codeIn K cd13 "Desk.__init__" = true)
    (k13 : PySem.W.keepIn K (.ref f13) = true)
    (a14 : PySem.W.findIn K (.ref C) "begin" = some (some (.ref f14)))
    (i14 : PySem.W.isFn K (.ref f14) = true)
    (l14 : K.lookup f14 = some ⟨oc14, od14, .func (PySem.W.fnOf "begin" "Desk.begin" (defArgs sBegin) (defBody sBegin) (defScope sBegin) .none kV14 dc14 pm14 an14 cd14 ct14), sl14⟩)
    (c14 : PySem.W.codeIn K cd14 "Desk.begin" = true)
    (k14 : PySem.W.keepIn K (.ref f14) = true)
    (a15 : PySem.W.findIn K (.ref C) "is_pair" = some (some (.ref f15)))
    (i15 : PySem.W.isFn K (.ref f15) = true)
    (l15 : K.lookup f15 = some ⟨oc15, od15, .func (PySem.W.fnOf "is_pair" "Desk.is_pair" (defArgs sIsPair) (defBody sIsPair) (defScope sIsPair) .none kV15 dc15 pm15 an15 cd15 ct15), sl15⟩)
    (c15 : PySem.W.codeIn K cd15 "Desk.is_pair" = true)
    (k15 : PySem.W.keepIn K (.ref f15) = true)
    (a16 : PySem.W.findIn K (.ref C) "cost_of" = some (some (.ref f16)))
    (i16 : PySem.W.isFn K (.ref f16) = true)
    (l16 : K.lookup f16 = some ⟨oc16, od16, .func (PySem.W.fnOf "cost_of" "Desk.cost_of" (defArgs sCostOf) (defBody sCostOf) (defScope sCostOf) .none kV16 dc16 pm16 an16 cd16 ct16), sl16⟩)
    (c16 : PySem.W.codeIn K cd16 "Desk.cost_of" = true)
    (k16 : PySem.W.keepIn K (.ref f16) = true)
    (a17 : PySem.W.findIn K (.ref C) "keeps" = some (some (.ref f17)))
    (i17 : PySem.W.isFn K (.ref f17) = true)
    (l17 : K.lookup f17 = some ⟨oc17, od17, .func (PySem.W.fnOf "keeps" "Desk.keeps" (defArgs sKeeps) (defBody sKeeps) (defScope sKeeps) .none kV17 dc17 pm17 an17 cd17 ct17), sl17⟩)
    (c17 : PySem.W.codeIn K cd17 "Desk.keeps" = true)
    (k17 : PySem.W.keepIn K (.ref f17) = true)
    (a18 : PySem.W.findIn K (.ref C) "all_that_keep" = some (some (.ref f18)))
    (i18 : PySem.W.isFn K (.ref f18) = true)
    (l18 : K.lookup f18 = some ⟨oc18, od18, .func (PySem.W.fnOf "all_that_keep" "Desk.all_that_keep" (defArgs sAllKeep) (defBody sAllKeep) (defScope sAllKeep) .none kV18 dc18 pm18 an18 cd18 ct18), sl18⟩)
    (c18 : PySem.W.codeIn K cd18 "Desk.all_that_keep" = true)
    (k18 : PySem.W.keepIn K (.ref f18) = true)
    (a19 : PySem.W.findIn K (.ref C) "cheapest" = some (some (.ref f19)))
    (i19 : PySem.W.isFn K (.ref f19) = true)
    (l19 : K.lookup f19 = some ⟨oc19, od19, .func (PySem.W.fnOf "cheapest" "Desk.cheapest" (defArgs sCheapest) (defBody sCheapest) (defScope sCheapest) .none kV19 dc19 pm19 an19 cd19 ct19), sl19⟩)
    (c19 : PySem.W.codeIn K cd19 "Desk.cheapest" = true)
    (k19 : PySem.W.keepIn K (.ref f19) = true)
    (a20 : PySem.W.findIn K (.ref C) "told_with_cost" = some (some (.ref f20)))
    (i20 : PySem.W.isFn K (.ref f20) = true)
    (l20 : K.lookup f20 = some ⟨oc20, od20, .func (PySem.W.fnOf "told_with_cost" "Desk.told_with_cost" (defArgs sToldC) (defBody sToldC) (defScope sToldC) .none kV20 dc20 pm20 an20 cd20 ct20), sl20⟩)
    (c20 : PySem.W.codeIn K cd20 "Desk.told_with_cost" = true)
    (k20 : PySem.W.keepIn K (.ref f20) = true)
    (a21 : PySem.W.findIn K (.ref C) "is_joined" = some (some (.ref f21)))
    (i21 : PySem.W.isFn K (.ref f21) = true)
    (l21 : K.lookup f21 = some ⟨oc21, od21, .func (PySem.W.fnOf "is_joined" "Desk.is_joined" (defArgs sIsJoined) (defBody sIsJoined) (defScope sIsJoined) .none kV21 dc21 pm21 an21 cd21 ct21), sl21⟩)
    (c21 : PySem.W.codeIn K cd21 "Desk.is_joined" = true)
    (k21 : PySem.W.keepIn K (.ref f21) = true)
    (a22 : PySem.W.findIn K (.ref C) "joined_by_rules" = some (some (.ref f22)))
    (i22 : PySem.W.isFn K (.ref f22) = true)
    (l22 : K.lookup f22 = some ⟨oc22, od22, .func (PySem.W.fnOf "joined_by_rules" "Desk.joined_by_rules" (defArgs sByRules) (defBody sByRules) (defScope sByRules) .none kV22 dc22 pm22 an22 cd22 ct22), sl22⟩)
    (c22 : PySem.W.codeIn K cd22 "Desk.joined_by_rules" = true)
    (k22 : PySem.W.keepIn K (.ref f22) = true)
    (a23 : PySem.W.findIn K (.ref C) "pairs_across" = some (some (.ref f23)))
    (i23 : PySem.W.isFn K (.ref f23) = true)
    (l23 : K.lookup f23 = some ⟨oc23, od23, .func (PySem.W.fnOf "pairs_across" "Desk.pairs_across" (defArgs sAcross) (defBody sAcross) (defScope sAcross) .none kV23 dc23 pm23 an23 cd23 ct23), sl23⟩)
    (c23 : PySem.W.codeIn K cd23 "Desk.pairs_across" = true)
    (k23 : PySem.W.keepIn K (.ref f23) = true)
    (a24 : PySem.W.findIn K (.ref C) "may_join" = some (some (.ref f24)))
    (i24 : PySem.W.isFn K (.ref f24) = true)
    (l24 : K.lookup f24 = some ⟨oc24, od24, .func (PySem.W.fnOf "may_join" "Desk.may_join" (defArgs sMayJoin) (defBody sMayJoin) (defScope sMayJoin) .none kV24 dc24 pm24 an24 cd24 ct24), sl24⟩)
    (c24 : PySem.W.codeIn K cd24 "Desk.may_join" = true)
    (k24 : PySem.W.keepIn K (.ref f24) = true)
    (a25 : PySem.W.findIn K (.ref C) "gain_of" = some (some (.ref f25)))
    (i25 : PySem.W.isFn K (.ref f25) = true)
    (l25 : K.lookup f25 = some ⟨oc25, od25, .func (PySem.W.fnOf "gain_of" "Desk.gain_of" (defArgs sGainOf) (defBody sGainOf) (defScope sGainOf) .none kV25 dc25 pm25 an25 cd25 ct25), sl25⟩)
    (c25 : PySem.W.codeIn K cd25 "Desk.gain_of" = true)
    (k25 : PySem.W.keepIn K (.ref f25) = true)
    (a26 : PySem.W.findIn K (.ref C) "next_step" = some (some (.ref f26)))
    (i26 : PySem.W.isFn K (.ref f26) = true)
    (l26 : K.lookup f26 = some ⟨oc26, od26, .func (PySem.W.fnOf "next_step" "Desk.next_step" (defArgs sNext) (defBody sNext) (defScope sNext) .none kV26 dc26 pm26 an26 cd26 ct26), sl26⟩)
    (c26 : PySem.W.codeIn K cd26 "Desk.next_step" = true)
    (k26 : PySem.W.keepIn K (.ref f26) = true)
    (a27 : PySem.W.findIn K (.ref C) "without_record" = some (some (.ref f27)))
    (i27 : PySem.W.isFn K (.ref f27) = true)
    (l27 : K.lookup f27 = some ⟨oc27, od27, .func (PySem.W.fnOf "without_record" "Desk.without_record" (defArgs sWoRec) (defBody sWoRec) (defScope sWoRec) .none kV27 dc27 pm27 an27 cd27 ct27), sl27⟩)
    (c27 : PySem.W.codeIn K cd27 "Desk.without_record" = true)
    (k27 : PySem.W.keepIn K (.ref f27) = true)
    (a28 : PySem.W.findIn K (.ref C) "records" = some (some (.ref f28)))
    (i28 : PySem.W.isFn K (.ref f28) = true)
    (l28 : K.lookup f28 = some ⟨oc28, od28, .func (PySem.W.fnOf "records" "Desk.records" (defArgs sRecords) (defBody sRecords) (defScope sRecords) .none kV28 dc28 pm28 an28 cd28 ct28), sl28⟩)
    (c28 : PySem.W.codeIn K cd28 "Desk.records" = true)
    (k28 : PySem.W.keepIn K (.ref f28) = true)
    (a29 : PySem.W.findIn K (.ref C) "vote" = some (some (.ref f29)))
    (i29 : PySem.W.isFn K (.ref f29) = true)
    (l29 : K.lookup f29 = some ⟨oc29, od29, .func (PySem.W.fnOf "vote" "Desk.vote" (defArgs sVote) (defBody sVote) (defScope sVote) .none kV29 dc29 pm29 an29 cd29 ct29), sl29⟩)
    (c29 : PySem.W.codeIn K cd29 "Desk.vote" = true)
    (k29 : PySem.W.keepIn K (.ref f29) = true)
    (a30 : PySem.W.findIn K (.ref C) "rule" = some (some (.ref f30)))
    (i30 : PySem.W.isFn K (.ref f30) = true)
    (l30 : K.lookup f30 = some ⟨oc30, od30, .func (PySem.W.fnOf "rule" "Desk.rule" (defArgs sRule) (defBody sRule) (defScope sRule) .none kV30 dc30 pm30 an30 cd30 ct30), sl30⟩)
    (c30 : PySem.W.codeIn K cd30 "Desk.rule" = true)
    (k30 : PySem.W.keepIn K (.ref f30) = true)
    (a31 : PySem.W.findIn K (.ref C) "least" = some (some (.ref f31)))
    (i31 : PySem.W.isFn K (.ref f31) = true)
    (l31 : K.lookup f31 = some ⟨oc31, od31, .func (PySem.W.fnOf "least" "Desk.least" (defArgs sLeast) (defBody sLeast) (defScope sLeast) .none kV31 dc31 pm31 an31 cd31 ct31), sl31⟩)
    (c31 : PySem.W.codeIn K cd31 "Desk.least" = true)
    (k31 : PySem.W.keepIn K (.ref f31) = true)
    (a32 : PySem.W.findIn K (.ref C) "nth" = some (some (.ref f32)))
    (i32 : PySem.W.isFn K (.ref f32) = true)
    (l32 : K.lookup f32 = some ⟨oc32, od32, .func (PySem.W.fnOf "nth" "Desk.nth" (defArgs sNth) (defBody sNth) (defScope sNth) .none kV32 dc32 pm32 an32 cd32 ct32), sl32⟩)
    (c32 : PySem.W.codeIn K cd32 "Desk.nth" = true)
    (k32 : PySem.W.keepIn K (.ref f32) = true)
    (a33 : PySem.W.findIn K (.ref C) "sure" = some (some (.ref f33)))
    (i33 : PySem.W.isFn K (.ref f33) = true)
    (l33 : K.lookup f33 = some ⟨oc33, od33, .func (PySem.W.fnOf "sure" "Desk.sure" (defArgs sSure) (defBody sSure) (defScope sSure) .none kV33 dc33 pm33 an33 cd33 ct33), sl33⟩)
    (c33 : PySem.W.codeIn K cd33 "Desk.sure" = true)
    (k33 : PySem.W.keepIn K (.ref f33) = true)
    (a34 : PySem.W.findIn K (.ref C) "margin" = some (some (.ref f34)))
    (i34 : PySem.W.isFn K (.ref f34) = true)
    (l34 : K.lookup f34 = some ⟨oc34, od34, .func (PySem.W.fnOf "margin" "Desk.margin" (defArgs sMargin) (defBody sMargin) (defScope sMargin) .none kV34 dc34 pm34 an34 cd34 ct34), sl34⟩)
    (c34 : PySem.W.codeIn K cd34 "Desk.margin" = true)
    (k34 : PySem.W.keepIn K (.ref f34) = true)
    (a35 : PySem.W.findIn K (.ref C) "cost" = some (some (.ref f35)))
    (i35 : PySem.W.isFn K (.ref f35) = true)
    (l35 : K.lookup f35 = some ⟨oc35, od35, .func (PySem.W.fnOf "cost" "Desk.cost" (defArgs sCost) (defBody sCost) (defScope sCost) .none kV35 dc35 pm35 an35 cd35 ct35), sl35⟩)
    (c35 : PySem.W.codeIn K cd35 "Desk.cost" = true)
    (k35 : PySem.W.keepIn K (.ref f35) = true)
    (a36 : PySem.W.findIn K (.ref C) "chain" = some (some (.ref f36)))
    (i36 : PySem.W.isFn K (.ref f36) = true)
    (l36 : K.lookup f36 = some ⟨oc36, od36, .func (PySem.W.fnOf "chain" "Desk.chain" (defArgs sChain) (defBody sChain) (defScope sChain) .none kV36 dc36 pm36 an36 cd36 ct36), sl36⟩)
    (c36 : PySem.W.codeIn K cd36 "Desk.chain" = true)
    (k36 : PySem.W.keepIn K (.ref f36) = true)
    (a37 : PySem.W.findIn K (.ref C) "greedy" = some (some (.ref f37)))
    (i37 : PySem.W.isFn K (.ref f37) = true)
    (l37 : K.lookup f37 = some ⟨oc37, od37, .func (PySem.W.fnOf "greedy" "Desk.greedy" (defArgs sGreedy) (defBody sGreedy) (defScope sGreedy) .none kV37 dc37 pm37 an37 cd37 ct37), sl37⟩)
    (c37 : PySem.W.codeIn K cd37 "Desk.greedy" = true)
    (k37 : PySem.W.keepIn K (.ref f37) = true)
    (a38 : PySem.W.findIn K (.ref C) "without" = some (some (.ref f38)))
    (i38 : PySem.W.isFn K (.ref f38) = true)
    (l38 : K.lookup f38 = some ⟨oc38, od38, .func (PySem.W.fnOf "without" "Desk.without" (defArgs sWithout) (defBody sWithout) (defScope sWithout) .none kV38 dc38 pm38 an38 cd38 ct38), sl38⟩)
    (c38 : PySem.W.codeIn K cd38 "Desk.without" = true)
    (k38 : PySem.W.keepIn K (.ref f38) = true)
    (a39 : PySem.W.findIn K (.ref C) "counts" = some (some (.ref f39)))
    (i39 : PySem.W.isFn K (.ref f39) = true)
    (l39 : K.lookup f39 = some ⟨oc39, od39, .func (PySem.W.fnOf "counts" "Desk.counts" (defArgs sCounts) (defBody sCounts) (defScope sCounts) .none kV39 dc39 pm39 an39 cd39 ct39), sl39⟩)
    (c39 : PySem.W.codeIn K cd39 "Desk.counts" = true)
    (k39 : PySem.W.keepIn K (.ref f39) = true)
    (pg : PySem.W.plainGet K C Str.empty = true)
    (hd : PySem.W.hasDictIn K C = true)
    (po : PySem.W.plainOver K C = true)
    (sa : PySem.W.findIn K (.ref C) "__setattr__" = some (some (.builtin "object.__setattr__")))
    (mk : PySem.W.makesIn K C = true)
    (kc : PySem.W.keepIn K (.ref C) = true)
    (n0 : PySem.W.findIn K (.ref C) "size" = some none)
    (n1 : PySem.W.findIn K (.ref C) "pairs" = some none)
    (n2 : PySem.W.findIn K (.ref C) "pro" = some none)
    (n3 : PySem.W.findIn K (.ref C) "contra" = some none)
    (n4 : PySem.W.findIn K (.ref C) "rules" = some none)
    (z0 : PySem.W.nsIn K mainGlobals "range" = some none)
    (z1 : PySem.W.nsIn K mainGlobals "max" = some none)
    (z2 : PySem.W.nsIn K mainGlobals "min" = some none)
    (z3 : PySem.W.nsIn K mainGlobals "sum" = some none)
    (z4 : PySem.W.nsIn K mainGlobals "len" = some none)
    (z5 : PySem.W.nsIn K mainGlobals "all" = some none)
    (z6 : PySem.W.nsIn K mainGlobals "any" = some none)
    (z7 : PySem.W.nsIn K mainGlobals "zip" = some none)
    (z8 : PySem.W.nsIn K mainGlobals "list" = some none)
    (g0 : PySem.W.nsIn K mainGlobals "MUST" = some (some (.int 1 t0)))
    (g1 : PySem.W.nsIn K mainGlobals "MUST_NOT" = some (some (.int 2 t1)))
    (g2 : PySem.W.nsIn K mainGlobals "FREE" = some (some (.int 0 t2)))
    (g3 : PySem.W.nsIn K mainGlobals "FEWEST_RECORDS" = some (some (.int 2 t3)))
    (g4 : PySem.W.nsIn K mainGlobals "MOST_RECORDS" = some (some (.int 7 t4)))
    (g5 : PySem.W.nsIn K mainGlobals "MOST_VOTES" = some (some (.int 1000 t5)))
    (g6 : PySem.W.nsIn K mainGlobals "OUT_OF_BOUNDS" = some (some (.int (-1) t6)))
    (g7 : PySem.W.nsIn K mainGlobals "NO_RECORD" = some (some (.int (-3) t7)))
    (g8 : PySem.W.nsIn K mainGlobals "NO_SUCH_ONE" = some (some (.int (-5) t8)))
    (g9 : PySem.W.nsIn K mainGlobals "NONE_KEEP" = some (some (.int (-6) t9)))
    (g10 : PySem.W.nsIn K mainGlobals "HIGHEST_MARK" = some (some (.int 100 t10)))
    (g11 : PySem.W.nsIn K mainGlobals "RECORDS" = some (some (.int 0 t11)))
    (g12 : PySem.W.nsIn K mainGlobals "VOTE" = some (some (.int 1 t12)))
    (g13 : PySem.W.nsIn K mainGlobals "RULE" = some (some (.int 2 t13)))
    (g14 : PySem.W.nsIn K mainGlobals "LEAST" = some (some (.int 3 t14)))
    (g15 : PySem.W.nsIn K mainGlobals "NTH" = some (some (.int 4 t15)))
    (g16 : PySem.W.nsIn K mainGlobals "SURE" = some (some (.int 5 t16)))
    (g17 : PySem.W.nsIn K mainGlobals "MARGIN" = some (some (.int 6 t17)))
    (g18 : PySem.W.nsIn K mainGlobals "COST" = some (some (.int 7 t18)))
    (g19 : PySem.W.nsIn K mainGlobals "CHAIN" = some (some (.int 8 t19)))
    (g20 : PySem.W.nsIn K mainGlobals "GREEDY" = some (some (.int 9 t20)))
    (g21 : PySem.W.nsIn K mainGlobals "WITHOUT" = some (some (.int 10 t21)))
    (aT : PySem.W.nsIn K mainGlobals "LENGTHS" = some (some (.ref aL)))
    (lT : K.lookup aL = some ⟨.type "tuple", dL, .seq #[.int 2 u0, .int 5 u1, .int 4 u2, .int 1 u3, .int 2 u4, .int 1 u5, .int 3 u6, .int 2 u7, .int 2 u8, .int 1 u9, .int 2 u10, .int 1 u11] nL, slL⟩) :
    ∃ fd : FuncData, (∀ (s : Shared) (us : List Value), us.length = (["calls"] : List Str).length → BindsTo s fd ⟨us, []⟩ ((["calls"] : List Str).zip us)) ∧ ∀ base : Heap, K.In base → base.Ns mainGlobals mg → FnOk P w K mg base CX0 8 fa fd ["calls"] (spAns K) := by
  have e := hfa.symm.trans (PySem.W.mg_of X G a12)
  cases e
  have T : Txt K mg C := { cl := ⟨pg, hd, po, sa⟩, gC := PySem.W.mg_of X G aC, nSize := n0, nPairs := n1, nPro := n2, nCon := n3, nRules := n4, gRange := PySem.W.mg_none_of X G z0, gMax := PySem.W.mg_none_of X G z1, gMin := PySem.W.mg_none_of X G z2, gSum := PySem.W.mg_none_of X G z3, gLen := PySem.W.mg_none_of X G z4, gAll := PySem.W.mg_none_of X G z5, gAny := PySem.W.mg_none_of X G z6, gZip := PySem.W.mg_none_of X G z7, gList := PySem.W.mg_none_of X G z8, gMUST := ⟨_, PySem.W.mg_of X G g0⟩, gMUSTNOT := ⟨_, PySem.W.mg_of X G g1⟩, gFREE := ⟨_, PySem.W.mg_of X G g2⟩, gFEW := ⟨_, PySem.W.mg_of X G g3⟩, gMOST := ⟨_, PySem.W.mg_of X G g4⟩, gMV := ⟨_, PySem.W.mg_of X G g5⟩, gOUT := ⟨_, PySem.W.mg_of X G g6⟩, gNP := ⟨_, PySem.W.mg_of X G g7⟩, gNS := ⟨_, PySem.W.mg_of X G g8⟩, gNK := ⟨_, PySem.W.mg_of X G g9⟩, gHM := ⟨_, PySem.W.mg_of X G g10⟩, gc0 := ⟨_, PySem.W.mg_of X G g11⟩, gc1 := ⟨_, PySem.W.mg_of X G g12⟩, gc2 := ⟨_, PySem.W.mg_of X G g13⟩, gc3 := ⟨_, PySem.W.mg_of X G g14⟩, gc4 := ⟨_, PySem.W.mg_of X G g15⟩, gc5 := ⟨_, PySem.W.mg_of X G g16⟩, gc6 := ⟨_, PySem.W.mg_of X G g17⟩, gc7 := ⟨_, PySem.W.mg_of X G g18⟩, gc8 := ⟨_, PySem.W.mg_of X G g19⟩, gc9 := ⟨_, PySem.W.mg_of X G g20⟩, gc10 := ⟨_, PySem.W.mg_of X G g21⟩, gLENGTHS := ⟨aL, PySem.W.mg_of X G aT, fun H => .inr ⟨_, _, _, lT, rfl, rfl, (by show 12 ≤ sizeLine; decide), (.cons ⟨_, rfl⟩ (.cons ⟨_, rfl⟩ (.cons ⟨_, rfl⟩ (.cons ⟨_, rfl⟩ (.cons ⟨_, rfl⟩ (.cons ⟨_, rfl⟩ (.cons ⟨_, rfl⟩ (.cons ⟨_, rfl⟩ (.cons ⟨_, rfl⟩ (.cons ⟨_, rfl⟩ (.cons ⟨_, rfl⟩ (.cons ⟨_, rfl⟩ .nil))))))))))))⟩⟩ }
  have F0 := fun_mk (st := sAllPairs) l0 c0 k0
  have b0 := F0.binds (ps := ["size"]) fun _ _ _ _ _ _ us hl => match us, hl with | [_], _ => rfl
  have h0 := PySem.W.mg_of X G a0
  have F1 := fun_mk (st := sAllGroups) l1 c1 k1
  have b1 := F1.binds (ps := ["size"]) fun _ _ _ _ _ _ us hl => match us, hl with | [_], _ => rfl
  have h1 := PySem.W.mg_of X G a1
  have F2 := fun_mk (st := sGroupsOf) l2 c2 k2
  have b2 := F2.binds (ps := ["marks"]) fun _ _ _ _ _ _ us hl => match us, hl with | [_], _ => rfl
  have h2 := PySem.W.mg_of X G a2
  have F3 := fun_mk (st := sWith) l3 c3 k3
  have b3 := F3.binds (ps := ["groups", "one", "other"]) fun _ _ _ _ _ _ us hl => match us, hl with | [_, _, _], _ => rfl
  have h3 := PySem.W.mg_of X G a3
  have F4 := fun_mk (st := sLinked) l4 c4 k4
  have b4 := F4.binds (ps := ["size", "links"]) fun _ _ _ _ _ _ us hl => match us, hl with | [_, _], _ => rfl
  have h4 := PySem.W.mg_of X G a4
  have F5 := fun_mk (st := sTog) l5 c5 k5
  have b5 := F5.binds (ps := ["groups", "pair"]) fun _ _ _ _ _ _ us hl => match us, hl with | [_, _], _ => rfl
  have h5 := PySem.W.mg_of X G a5
  have F6 := fun_mk (st := sTIA) l6 c6 k6
  have b6 := F6.binds (ps := ["ways", "pair"]) fun _ _ _ _ _ _ us hl => match us, hl with | [_, _], _ => rfl
  have h6 := PySem.W.mg_of X G a6
  have F7 := fun_mk (st := sPIA) l7 c7 k7
  have b7 := F7.binds (ps := ["ways", "pair"]) fun _ _ _ _ _ _ us hl => match us, hl with | [_, _], _ => rfl
  have h7 := PySem.W.mg_of X G a7
  have F8 := fun_mk (st := sTold) l8 c8 k8
  have b8 := F8.binds (ps := ["pairs"]) fun _ _ _ _ _ _ us hl => match us, hl with | [_], _ => rfl
  have h8 := PySem.W.mg_of X G a8
  have F9 := fun_mk (st := sLowest) l9 c9 k9
  have b9 := F9.binds (ps := ["costs"]) fun _ _ _ _ _ _ us hl => match us, hl with | [_], _ => rfl
  have h9 := PySem.W.mg_of X G a9
  have F10 := fun_mk (st := sCallLen) l10 c10 k10
  have b10 := F10.binds (ps := ["calls", "place"]) fun _ _ _ _ _ _ us hl => match us, hl with | [_, _], _ => rfl
  have h10 := PySem.W.mg_of X G a10
  have F11 := fun_mk (st := sAnswer) l11 c11 k11
  have b11 := F11.binds (ps := ["desk", "call"]) fun _ _ _ _ _ _ us hl => match us, hl with | [_, _], _ => rfl
  have h11 := PySem.W.mg_of X G a11
  have F12 := fun_mk (st := sAnswers) l12 c12 k12
  have h12 := PySem.W.mg_of X G a12
  have F13 := fun_mk (st := sInit) l13 c13 k13
  have b13 := F13.binds (ps := ["self"]) fun _ _ _ _ _ _ us hl => match us, hl with | [_], _ => rfl
  have m13 : Meth K C "__init__" f13 := ⟨a13, i13, k13⟩
  have F14 := fun_mk (st := sBegin) l14 c14 k14
  have b14 := F14.binds (ps := ["self", "size"]) fun _ _ _ _ _ _ us hl => match us, hl with | [_, _], _ => rfl
  have m14 : Meth K C "begin" f14 := ⟨a14, i14, k14⟩
  have F15 := fun_mk (st := sIsPair) l15 c15 k15
  have b15 := F15.binds (ps := ["self", "pair"]) fun _ _ _ _ _ _ us hl => match us, hl with | [_, _], _ => rfl
  have m15 : Meth K C "is_pair" f15 := ⟨a15, i15, k15⟩
  have F16 := fun_mk (st := sCostOf) l16 c16 k16
  have b16 := F16.binds (ps := ["self", "groups"]) fun _ _ _ _ _ _ us hl => match us, hl with | [_, _], _ => rfl
  have m16 : Meth K C "cost_of" f16 := ⟨a16, i16, k16⟩
  have F17 := fun_mk (st := sKeeps) l17 c17 k17
  have b17 := F17.binds (ps := ["self", "groups"]) fun _ _ _ _ _ _ us hl => match us, hl with | [_, _], _ => rfl
  have m17 : Meth K C "keeps" f17 := ⟨a17, i17, k17⟩
  have F18 := fun_mk (st := sAllKeep) l18 c18 k18
  have b18 := F18.binds (ps := ["self"]) fun _ _ _ _ _ _ us hl => match us, hl with | [_], _ => rfl
  have m18 : Meth K C "all_that_keep" f18 := ⟨a18, i18, k18⟩
  have F19 := fun_mk (st := sCheapest) l19 c19 k19
  have b19 := F19.binds (ps := ["self"]) fun _ _ _ _ _ _ us hl => match us, hl with | [_], _ => rfl
  have m19 : Meth K C "cheapest" f19 := ⟨a19, i19, k19⟩
  have F20 := fun_mk (st := sToldC) l20 c20 k20
  have b20 := F20.binds (ps := ["self", "groups"]) fun _ _ _ _ _ _ us hl => match us, hl with | [_, _], _ => rfl
  have m20 : Meth K C "told_with_cost" f20 := ⟨a20, i20, k20⟩
  have F21 := fun_mk (st := sIsJoined) l21 c21 k21
  have b21 := F21.binds (ps := ["self", "pair", "t"]) fun _ _ _ _ _ _ us hl => match us, hl with | [_, _, _], _ => rfl
  have m21 : Meth K C "is_joined" f21 := ⟨a21, i21, k21⟩
  have F22 := fun_mk (st := sByRules) l22 c22 k22
  have b22 := F22.binds (ps := ["self"]) fun _ _ _ _ _ _ us hl => match us, hl with | [_], _ => rfl
  have m22 : Meth K C "joined_by_rules" f22 := ⟨a22, i22, k22⟩
  have F23 := fun_mk (st := sAcross) l23 c23 k23
  have b23 := F23.binds (ps := ["self", "groups", "low", "high"]) fun _ _ _ _ _ _ us hl => match us, hl with | [_, _, _, _], _ => rfl
  have m23 : Meth K C "pairs_across" f23 := ⟨a23, i23, k23⟩
  have F24 := fun_mk (st := sMayJoin) l24 c24 k24
  have b24 := F24.binds (ps := ["self", "across"]) fun _ _ _ _ _ _ us hl => match us, hl with | [_, _], _ => rfl
  have m24 : Meth K C "may_join" f24 := ⟨a24, i24, k24⟩
  have F25 := fun_mk (st := sGainOf) l25 c25 k25
  have b25 := F25.binds (ps := ["self", "across"]) fun _ _ _ _ _ _ us hl => match us, hl with | [_, _], _ => rfl
  have m25 : Meth K C "gain_of" f25 := ⟨a25, i25, k25⟩
  have F26 := fun_mk (st := sNext) l26 c26 k26
  have b26 := F26.binds (ps := ["self", "groups"]) fun _ _ _ _ _ _ us hl => match us, hl with | [_, _], _ => rfl
  have m26 : Meth K C "next_step" f26 := ⟨a26, i26, k26⟩
  have F27 := fun_mk (st := sWoRec) l27 c27 k27
  have b27 := F27.binds (ps := ["self", "i"]) fun _ _ _ _ _ _ us hl => match us, hl with | [_, _], _ => rfl
  have m27 : Meth K C "without_record" f27 := ⟨a27, i27, k27⟩
  have F28 := fun_mk (st := sRecords) l28 c28 k28
  have b28 := F28.binds (ps := ["self", "n"]) fun _ _ _ _ _ _ us hl => match us, hl with | [_, _], _ => rfl
  have m28 : Meth K C "records" f28 := ⟨a28, i28, k28⟩
  have F29 := fun_mk (st := sVote) l29 c29 k29
  have b29 := F29.binds (ps := ["self", "i", "j", "pro", "contra"]) fun _ _ _ _ _ _ us hl => match us, hl with | [_, _, _, _, _], _ => rfl
  have m29 : Meth K C "vote" f29 := ⟨a29, i29, k29⟩
  have F30 := fun_mk (st := sRule) l30 c30 k30
  have b30 := F30.binds (ps := ["self", "i", "j", "rule"]) fun _ _ _ _ _ _ us hl => match us, hl with | [_, _, _, _], _ => rfl
  have m30 : Meth K C "rule" f30 := ⟨a30, i30, k30⟩
  have F31 := fun_mk (st := sLeast) l31 c31 k31
  have b31 := F31.binds (ps := ["self"]) fun _ _ _ _ _ _ us hl => match us, hl with | [_], _ => rfl
  have m31 : Meth K C "least" f31 := ⟨a31, i31, k31⟩
  have F32 := fun_mk (st := sNth) l32 c32 k32
  have b32 := F32.binds (ps := ["self", "k"]) fun _ _ _ _ _ _ us hl => match us, hl with | [_, _], _ => rfl
  have m32 : Meth K C "nth" f32 := ⟨a32, i32, k32⟩
  have F33 := fun_mk (st := sSure) l33 c33 k33
  have b33 := F33.binds (ps := ["self"]) fun _ _ _ _ _ _ us hl => match us, hl with | [_], _ => rfl
  have m33 : Meth K C "sure" f33 := ⟨a33, i33, k33⟩
  have F34 := fun_mk (st := sMargin) l34 c34 k34
  have b34 := F34.binds (ps := ["self", "i", "j"]) fun _ _ _ _ _ _ us hl => match us, hl with | [_, _, _], _ => rfl
  have m34 : Meth K C "margin" f34 := ⟨a34, i34, k34⟩
  have F35 := fun_mk (st := sCost) l35 c35 k35
  have b35 := F35.binds (ps := ["self", "marks"]) fun _ _ _ _ _ _ us hl => match us, hl with | [_, _], _ => rfl
  have m35 : Meth K C "cost" f35 := ⟨a35, i35, k35⟩
  have F36 := fun_mk (st := sChain) l36 c36 k36
  have b36 := F36.binds (ps := ["self", "t"]) fun _ _ _ _ _ _ us hl => match us, hl with | [_, _], _ => rfl
  have m36 : Meth K C "chain" f36 := ⟨a36, i36, k36⟩
  have F37 := fun_mk (st := sGreedy) l37 c37 k37
  have b37 := F37.binds (ps := ["self"]) fun _ _ _ _ _ _ us hl => match us, hl with | [_], _ => rfl
  have m37 : Meth K C "greedy" f37 := ⟨a37, i37, k37⟩
  have F38 := fun_mk (st := sWithout) l38 c38 k38
  have b38 := F38.binds (ps := ["self", "i"]) fun _ _ _ _ _ _ us hl => match us, hl with | [_, _], _ => rfl
  have m38 : Meth K C "without" f38 := ⟨a38, i38, k38⟩
  have F39 := fun_mk (st := sCounts) l39 c39 k39
  have b39 := F39.binds (ps := ["self"]) fun _ _ _ _ _ _ us hl => match us, hl with | [_], _ => rfl
  have m39 : Meth K C "counts" f39 := ⟨a39, i39, k39⟩
  refine ⟨PySem.W.fnOf "answers" "answers" (defArgs sAnswers) (defBody sAnswers) (defScope sAnswers) .none kV12 dc12 pm12 an12 cd12 ct12, fun s us hu => match us, hu with | [_], _ => .of_eq rfl, fun base _ _ => ?_⟩
  have G0 := ok_allPairs (P := P) (w := w) (mg := mg) (base := base) F0 T.gRange
  have G1 := ok_allGroups (P := P) (w := w) (mg := mg) (base := base) F1 T.gRange T.gMax
  have G2 := ok_groupsOf (P := P) (w := w) (mg := mg) (base := base) F2 T
  have G3 := ok_with (P := P) (w := w) (mg := mg) (base := base) F3 T G2 h2 k2 b2
  have G4 := ok_linked (P := P) (w := w) (mg := mg) (base := base) F4 T G3 h3 k3 b3
  have G5 := ok_tog (P := P) (w := w) (mg := mg) (base := base) F5 
  have G6 := ok_tia (P := P) (w := w) (mg := mg) (base := base) F6 T G5 k5 h5 b5
  have G7 := ok_pia (P := P) (w := w) (mg := mg) (base := base) F7 T G5 k5 h5 b5
  have G8 := ok_told (P := P) (w := w) (mg := mg) (base := base) F8 T
  have G9 := ok_lowest (P := P) (w := w) (mg := mg) (base := base) F9 T
  have G14 := ok_begin (P := P) (w := w) (mg := mg) (base := base) F14 T G0 h0 k0 b0
  have G13 := ok_init (P := P) (w := w) (mg := mg) (base := base) F13 T G14 m14 b14
  have G15 := ok_isPair (P := P) (w := w) (mg := mg) (base := base) F15 T
  have G16 := ok_costOf (P := P) (w := w) (mg := mg) (base := base) F16 T F5 h5 b5
  have G17 := ok_keeps (P := P) (w := w) (mg := mg) (base := base) F17 T F5 h5 b5
  have G18 := ok_allKeep (P := P) (w := w) (mg := mg) (base := base) F18 T G1 h1 k1 b1 G17 m17 b17
  have G19 := ok_cheapest (P := P) (w := w) (mg := mg) (base := base) F19 T G18 m18 b18 G16 m16 b16
  have G20 := ok_toldC (P := P) (w := w) (mg := mg) (base := base) F20 T G17 m17 b17 G16 m16 b16
  have G21 := ok_isJoined (P := P) (w := w) (mg := mg) (base := base) F21 T
  have G22 := ok_byRules (P := P) (w := w) (mg := mg) (base := base) F22 T G4 h4 k4 b4
  have G23 := ok_across (P := P) (w := w) (mg := mg) (base := base) F23 T
  have G24 := ok_mayJoin (P := P) (w := w) (mg := mg) (base := base) F24 T
  have G25 := ok_gainOf (P := P) (w := w) (mg := mg) (base := base) F25 T
  have G26 := ok_next (P := P) (w := w) (mg := mg) (base := base) F26 T G23 m23 b23 G25 m25 b25 G24 m24 b24
  have M : Mk K C f13 := ⟨mk, a13, i13, kc⟩
  have G27 := ok_woRec (P := P) (w := w) (mg := mg) (base := base) F27 T M G13 b13 G14 m14 b14
  have G28 := ok_records (P := P) (w := w) (mg := mg) (base := base) F28 T G14 m14 b14
  have G29 := ok_vote (P := P) (w := w) (mg := mg) (base := base) F29 T G15 m15 b15
  have G30 := ok_rule (P := P) (w := w) (mg := mg) (base := base) F30 T G15 m15 b15
  have G31 := ok_least (P := P) (w := w) (mg := mg) (base := base) F31 T G19 m19 b19 G16 m16 b16
  have G32 := ok_nth (P := P) (w := w) (mg := mg) (base := base) F32 T G19 m19 b19 G16 m16 b16
  have G33 := ok_sure (P := P) (w := w) (mg := mg) (base := base) F33 T G19 m19 b19 G6 h6 k6 b6 G7 h7 k7 b7 G8 h8 k8 b8
  have G34 := ok_margin (P := P) (w := w) (mg := mg) (base := base) F34 T G15 m15 b15 G18 m18 b18 G16 m16 b16 G5 h5 k5 b5 G9 h9 k9 b9
  have G35 := ok_cost (P := P) (w := w) (mg := mg) (base := base) F35 T G20 m20 b20 G2 h2 k2 b2
  have G36 := ok_chain (P := P) (w := w) (mg := mg) (base := base) F36 T G21 m21 b21 G20 m20 b20 G4 h4 k4 b4
  have G37 := ok_greedy (P := P) (w := w) (mg := mg) (base := base) F37 T G22 m22 b22 G17 m17 b17 G26 m26 b26 G3 h3 k3 b3 G16 m16 b16
  have G38 := ok_without (P := P) (w := w) (mg := mg) (base := base) F38 T G27 m27 b27 G19 m19 b19 G16 m16 b16
  have G39 := ok_counts (P := P) (w := w) (mg := mg) (base := base) F39 T
  have W : Meths P w K mg base C := ⟨⟨_, _, G28, m28, b28⟩, ⟨_, _, G29, m29, b29⟩, ⟨_, _, G30, m30, b30⟩, ⟨_, _, G31, m31, b31⟩, ⟨_, _, G32, m32, b32⟩, ⟨_, _, G33, m33, b33⟩, ⟨_, _, G34, m34, b34⟩, ⟨_, _, G35, m35, b35⟩, ⟨_, _, G36, m36, b36⟩, ⟨_, _, G37, m37, b37⟩, ⟨_, _, G38, m38, b38⟩, ⟨_, _, G39, m39, b39⟩⟩
  have G10 := ok_callLen (P := P) (w := w) (mg := mg) (base := base) F10 T
  have G11 := ok_answer (P := P) (w := w) (mg := mg) (base := base) F11 T W
  exact ok_answers F12 T M G13 b13 G10 h10 k10 b10 G11 h11 k11 b11
end Lp
open PySem PySem.W PyProof.Rows
set_option maxRecDepth 100000 in
set_option maxHeartbeats 0 in
theorem PySem.Challenge.cw_leastparted_s01_answers_holds : PySem.Challenge.rw_leastparted_s01_answers.Holds := by
  w_on; k_headS; (case hw => exact ⟨[.list [.int 3]], by decide +kernel, by decide +kernel⟩)
  k_fillS
  refine L2.walk_specK (r := PySem.Challenge.rw_leastparted_s01_answers) (k := 8) (CX := L2.CX0) (ps := ["calls"]) (sp := Lp.spAns) (by decide +kernel) rfl rfl ⟨rfl, by decide, by decide⟩ (fun w h Y => PySem.W.kIn_of Y) ?F ?S (fun _ _ _ _ z => z)
  case F =>
    intro w mg fa h Y KX G hmg
    refine' Lp.all_mk KX G hmg ?q_aC ?q_a0 ?q_l0 ?q_c0 ?q_k0 ?q_a1 ?q_l1 ?q_c1 ?q_k1 ?q_a2 ?q_l2 ?q_c2 ?q_k2 ?q_a3 ?q_l3 ?q_c3 ?q_k3 ?q_a4 ?q_l4 ?q_c4 ?q_k4 ?q_a5 ?q_l5 ?q_c5 ?q_k5 ?q_a6 ?q_l6 ?q_c6 ?q_k6 ?q_a7 ?q_l7 ?q_c7 ?q_k7 ?q_a8 ?q_l8 ?q_c8 ?q_k8 ?q_a9 ?q_l9 ?q_c9 ?q_k9 ?q_a10 ?q_l10 ?q_c10 ?q_k10 ?q_a11 ?q_l11 ?q_c11 ?q_k11 ?q_a12 ?q_l12 ?q_c12 ?q_k12 ?q_a13 ?q_i13 ?q_l13 ?q_c13 ?q_k13 ?q_a14 ?q_i14 ?q_l14 ?q_c14 ?q_k14 ?q_a15 ?q_i15 ?q_l15 ?q_c15 ?q_k15 ?q_a16 ?q_i16 ?q_l16 ?q_c16 ?q_k16 ?q_a17 ?q_i17 ?q_l17 ?q_c17 ?q_k17 ?q_a18 ?q_i18 ?q_l18 ?q_c18 ?q_k18 ?q_a19 ?q_i19 ?q_l19 ?q_c19 ?q_k19 ?q_a20 ?q_i20 ?q_l20 ?q_c20 ?q_k20 ?q_a21 ?q_i21 ?q_l21 ?q_c21 ?q_k21 ?q_a22 ?q_i22 ?q_l22 ?q_c22 ?q_k22 ?q_a23 ?q_i23 ?q_l23 ?q_c23 ?q_k23 ?q_a24 ?q_i24 ?q_l24 ?q_c24 ?q_k24 ?q_a25 ?q_i25 ?q_l25 ?q_c25 ?q_k25 ?q_a26 ?q_i26 ?q_l26 ?q_c26 ?q_k26 ?q_a27 ?q_i27 ?q_l27 ?q_c27 ?q_k27 ?q_a28 ?q_i28 ?q_l28 ?q_c28 ?q_k28 ?q_a29 ?q_i29 ?q_l29 ?q_c29 ?q_k29 ?q_a30 ?q_i30 ?q_l30 ?q_c30 ?q_k30 ?q_a31 ?q_i31 ?q_l31 ?q_c31 ?q_k31 ?q_a32 ?q_i32 ?q_l32 ?q_c32 ?q_k32 ?q_a33 ?q_i33 ?q_l33 ?q_c33 ?q_k33 ?q_a34 ?q_i34 ?q_l34 ?q_c34 ?q_k34 ?q_a35 ?q_i35 ?q_l35 ?q_c35 ?q_k35 ?q_a36 ?q_i36 ?q_l36 ?q_c36 ?q_k36 ?q_a37 ?q_i37 ?q_l37 ?q_c37 ?q_k37 ?q_a38 ?q_i38 ?q_l38 ?q_c38 ?q_k38 ?q_a39 ?q_i39 ?q_l39 ?q_c39 ?q_k39 ?q_pg ?q_hd ?q_po ?q_sa ?q_mk ?q_kc ?q_n0 ?q_n1 ?q_n2 ?q_n3 ?q_n4 ?q_z0 ?q_z1 ?q_z2 ?q_z3 ?q_z4 ?q_z5 ?q_z6 ?q_z7 ?q_z8 ?q_g0 ?q_g1 ?q_g2 ?q_g3 ?q_g4 ?q_g5 ?q_g6 ?q_g7 ?q_g8 ?q_g9 ?q_g10 ?q_g11 ?q_g12 ?q_g13 ?q_g14 ?q_g15 ?q_g16 ?q_g17 ?q_g18 ?q_g19 ?q_g20 ?q_g21 ?q_aT ?q_lT
    (case q_aC => k_is)
    (case q_a0 => k_is)
    (case q_l0 => k_is)
    (case q_c0 => k_is)
    (case q_k0 => k_is)
    (case q_a1 => k_is)
    (case q_l1 => k_is)
    (case q_c1 => k_is)
    (case q_k1 => k_is)
    (case q_a2 => k_is)
    (case q_l2 => k_is)
    (case q_c2 => k_is)
    (case q_k2 => k_is)
    (case q_a3 => k_is)
    (case q_l3 => k_is)
    (case q_c3 => k_is)
    (case q_k3 => k_is)
    (case q_a4 => k_is)
    (case q_l4 => k_is)
    (case q_c4 => k_is)
    (case q_k4 => k_is)
    (case q_a5 => k_is)
    (case q_l5 => k_is)
    (case q_c5 => k_is)
    (case q_k5 => k_is)
    (case q_a6 => k_is)
    (case q_l6 => k_is)
    (case q_c6 => k_is)
    (case q_k6 => k_is)
    (case q_a7 => k_is)
    (case q_l7 => k_is)
    (case q_c7 => k_is)
    (case q_k7 => k_is)
    (case q_a8 => k_is)
    (case q_l8 => k_is)
    (case q_c8 => k_is)
    (case q_k8 => k_is)
    (case q_a9 => k_is)
    (case q_l9 => k_is)
    (case q_c9 => k_is)
    (case q_k9 => k_is)
    (case q_a10 => k_is)
    (case q_l10 => k_is)
    (case q_c10 => k_is)
    (case q_k10 => k_is)
    (case q_a11 => k_is)
    (case q_l11 => k_is)
    (case q_c11 => k_is)
    (case q_k11 => k_is)
    (case q_a12 => k_is)
    (case q_l12 => k_is)
    (case q_c12 => k_is)
    (case q_k12 => k_is)
    (case q_a13 => k_is)
    (case q_i13 => k_is)
    (case q_l13 => k_is)
    (case q_c13 => k_is)
    (case q_k13 => k_is)
    (case q_a14 => k_is)
    (case q_i14 => k_is)
    (case q_l14 => k_is)
    (case q_c14 => k_is)
    (case q_k14 => k_is)
    (case q_a15 => k_is)
    (case q_i15 => k_is)
    (case q_l15 => k_is)
    (case q_c15 => k_is)
    (case q_k15 => k_is)
    (case q_a16 => k_is)
    (case q_i16 => k_is)
    (case q_l16 => k_is)
    (case q_c16 => k_is)
    (case q_k16 => k_is)
    (case q_a17 => k_is)
    (case q_i17 => k_is)
    (case q_l17 => k_is)
    (case q_c17 => k_is)
    (case q_k17 => k_is)
    (case q_a18 => k_is)
    (case q_i18 => k_is)
    (case q_l18 => k_is)
    (case q_c18 => k_is)
    (case q_k18 => k_is)
    (case q_a19 => k_is)
    (case q_i19 => k_is)
    (case q_l19 => k_is)
    (case q_c19 => k_is)
    (case q_k19 => k_is)
    (case q_a20 => k_is)
    (case q_i20 => k_is)
    (case q_l20 => k_is)
    (case q_c20 => k_is)
    (case q_k20 => k_is)
    (case q_a21 => k_is)
    (case q_i21 => k_is)
    (case q_l21 => k_is)
    (case q_c21 => k_is)
    (case q_k21 => k_is)
    (case q_a22 => k_is)
    (case q_i22 => k_is)
    (case q_l22 => k_is)
    (case q_c22 => k_is)
    (case q_k22 => k_is)
    (case q_a23 => k_is)
    (case q_i23 => k_is)
    (case q_l23 => k_is)
    (case q_c23 => k_is)
    (case q_k23 => k_is)
    (case q_a24 => k_is)
    (case q_i24 => k_is)
    (case q_l24 => k_is)
    (case q_c24 => k_is)
    (case q_k24 => k_is)
    (case q_a25 => k_is)
    (case q_i25 => k_is)
    (case q_l25 => k_is)
    (case q_c25 => k_is)
    (case q_k25 => k_is)
    (case q_a26 => k_is)
    (case q_i26 => k_is)
    (case q_l26 => k_is)
    (case q_c26 => k_is)
    (case q_k26 => k_is)
    (case q_a27 => k_is)
    (case q_i27 => k_is)
    (case q_l27 => k_is)
    (case q_c27 => k_is)
    (case q_k27 => k_is)
    (case q_a28 => k_is)
    (case q_i28 => k_is)
    (case q_l28 => k_is)
    (case q_c28 => k_is)
    (case q_k28 => k_is)
    (case q_a29 => k_is)
    (case q_i29 => k_is)
    (case q_l29 => k_is)
    (case q_c29 => k_is)
    (case q_k29 => k_is)
    (case q_a30 => k_is)
    (case q_i30 => k_is)
    (case q_l30 => k_is)
    (case q_c30 => k_is)
    (case q_k30 => k_is)
    (case q_a31 => k_is)
    (case q_i31 => k_is)
    (case q_l31 => k_is)
    (case q_c31 => k_is)
    (case q_k31 => k_is)
    (case q_a32 => k_is)
    (case q_i32 => k_is)
    (case q_l32 => k_is)
    (case q_c32 => k_is)
    (case q_k32 => k_is)
    (case q_a33 => k_is)
    (case q_i33 => k_is)
    (case q_l33 => k_is)
    (case q_c33 => k_is)
    (case q_k33 => k_is)
    (case q_a34 => k_is)
    (case q_i34 => k_is)
    (case q_l34 => k_is)
    (case q_c34 => k_is)
    (case q_k34 => k_is)
    (case q_a35 => k_is)
    (case q_i35 => k_is)
    (case q_l35 => k_is)
    (case q_c35 => k_is)
    (case q_k35 => k_is)
    (case q_a36 => k_is)
    (case q_i36 => k_is)
    (case q_l36 => k_is)
    (case q_c36 => k_is)
    (case q_k36 => k_is)
    (case q_a37 => k_is)
    (case q_i37 => k_is)
    (case q_l37 => k_is)
    (case q_c37 => k_is)
    (case q_k37 => k_is)
    (case q_a38 => k_is)
    (case q_i38 => k_is)
    (case q_l38 => k_is)
    (case q_c38 => k_is)
    (case q_k38 => k_is)
    (case q_a39 => k_is)
    (case q_i39 => k_is)
    (case q_l39 => k_is)
    (case q_c39 => k_is)
    (case q_k39 => k_is)
    (case q_pg => k_is)
    (case q_hd => k_is)
    (case q_po => k_is)
    (case q_sa => k_is)
    (case q_mk => k_is)
    (case q_kc => k_is)
    (case q_n0 => k_is)
    (case q_n1 => k_is)
    (case q_n2 => k_is)
    (case q_n3 => k_is)
    (case q_n4 => k_is)
    (case q_z0 => k_is)
    (case q_z1 => k_is)
    (case q_z2 => k_is)
    (case q_z3 => k_is)
    (case q_z4 => k_is)
    (case q_z5 => k_is)
    (case q_z6 => k_is)
    (case q_z7 => k_is)
    (case q_z8 => k_is)
    (case q_g0 => k_is)
    (case q_g1 => k_is)
    (case q_g2 => k_is)
    (case q_g3 => k_is)
    (case q_g4 => k_is)
    (case q_g5 => k_is)
    (case q_g6 => k_is)
    (case q_g7 => k_is)
    (case q_g8 => k_is)
    (case q_g9 => k_is)
    (case q_g10 => k_is)
    (case q_g11 => k_is)
    (case q_g12 => k_is)
    (case q_g13 => k_is)
    (case q_g14 => k_is)
    (case q_g15 => k_is)
    (case q_g16 => k_is)
    (case q_g17 => k_is)
    (case q_g18 => k_is)
    (case q_g19 => k_is)
    (case q_g20 => k_is)
    (case q_g21 => k_is)
    (case q_aT => k_is)
    (case q_lT => k_is)
  case S =>
    intro K H xs a hO hwi hask hx
    cases hx with
    | cons h1 h2 =>
      cases h2
      cases h1 with
      | lst hs ha =>
        have e := L2.ints_dw a.1 _ ha
        subst e
        exact ⟨_, a.1, rfl, hs, hask, fun H' p hp => .lst (L2.SqL.of hp) (L2.dw_ints _)⟩

