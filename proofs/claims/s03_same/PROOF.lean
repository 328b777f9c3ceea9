import PyProof.Rows.All
import Wide.All
import OpenK.AllK
import Wide.FinOn
import Open.SpecLaws
import KE.OsGo
import HandS.ForSpec
import HandS.ForMost
import HandS.More
import HandS.Flow
import HandS.Walk
import HandS.WideBits
import KE.GoesEnum
import PySem.Challenge.RW_gatenets_s03_same
set_option Elab.async false
set_option maxRecDepth 100000
set_option maxHeartbeats 8000000
namespace GN
section
variable {α : Type} [DecidableEq α]
theorem nodup_le : ∀ {l m : List α}, l.Nodup → (∀ x ∈ l, x ∈ m) → l.length ≤ m.length
  | [], _, _, _ => Nat.zero_le _
  | a :: l, m, hn, hs => by
    have ha : a ∈ m := hs a List.mem_cons_self
    have hn' := List.nodup_cons.mp hn
    have ih := nodup_le (l := l) (m := m.erase a) hn'.2 (fun x hx => (List.mem_erase_of_ne (a := x) (b := a) (by intro e; subst e; exact hn'.1 hx)).mpr (hs x (List.mem_cons_of_mem _ hx)))
    rw [List.length_erase_of_mem ha] at ih
    have hp : 0 < m.length := List.length_pos_of_mem ha
    rw [List.length_cons]
    omega
theorem nodup_full {l m : List α} (hn : l.Nodup) (hs : ∀ x ∈ l, x ∈ m) (hl : m.length ≤ l.length) : ∀ x ∈ m, x ∈ l := by
  intro x hx
  by_cases h : x ∈ l
  · exact h
  · have := nodup_le (l := x :: l) (m := m) (List.nodup_cons.mpr ⟨h, hn⟩) (fun y hy => by
      rcases List.mem_cons.mp hy with e | e
      · exact e ▸ hx
      · exact hs y e)
    rw [List.length_cons] at this
    omega

/-- what is still awaited -/
def open_ (order : List α) (l : List α) : Nat := (l.filter fun s => decide (s ∉ order)).length
theorem open_snoc {order : List α} {d : α} (hd : d ∉ order) : ∀ l : List α, open_ order l = open_ (order ++ [d]) l + l.count d
  | [] => rfl
  | a :: l => by
    have ih := open_snoc hd l
    unfold open_ at ih ⊢
    by_cases h1 : a = d
    · subst h1
      simp only [List.filter_cons, List.mem_append, List.mem_singleton, hd, not_false_eq_true, decide_true, if_true, List.length_cons, List.count_cons_self, or_true, not_true_eq_false, decide_false, Bool.false_eq_true, if_false]
      simp only [List.mem_append, List.mem_singleton] at ih
      omega
    · have h2 : (a == d) = false := by simpa using h1
      by_cases h3 : a ∈ order
      · simp only [List.filter_cons, List.mem_append, List.mem_singleton, h3, not_true_eq_false, decide_false, Bool.false_eq_true, if_false, true_or, List.count_cons, h2, Nat.add_zero]
        simp only [List.mem_append, List.mem_singleton] at ih
        exact ih
      · simp only [List.filter_cons, List.mem_append, List.mem_singleton, h3, h1, or_self, not_false_eq_true, decide_true, if_true, List.length_cons, List.count_cons, h2, Bool.false_eq_true, if_false, Nat.add_zero]
        simp only [List.mem_append, List.mem_singleton] at ih
        omega
theorem open_zero {order l : List α} (h : open_ order l = 0) : ∀ s ∈ l, s ∈ order := by
  intro s hs
  unfold open_ at h
  have e := List.eq_nil_of_length_eq_zero h
  rw [List.filter_eq_nil_iff] at e
  have := e s hs
  simpa using this
theorem open_all {order l : List α} (h : ∀ s ∈ l, s ∈ order) : open_ order l = 0 := by
  unfold open_
  rw [List.filter_eq_nil_iff.mpr]
  · rfl
  · intro s hs
    simp [h s hs]
theorem open_nil (l : List α) : open_ [] l = l.length := by
  unfold open_
  rw [List.filter_eq_self.mpr]
  intro a _
  simp

/-- who takes s: each as often as it does -/
def tk (gs : List α) (aw : α → List α) (s : α) : List α := gs.flatMap fun g => List.replicate ((aw g).count s) g
theorem tk_mem {gs : List α} {aw : α → List α} {s t : α} (h : t ∈ tk gs aw s) : t ∈ gs := by
  unfold tk at h
  obtain ⟨g, hg, ht⟩ := List.mem_flatMap.mp h
  rw [(List.mem_replicate.mp ht).2]
  exact hg
theorem tk_count {aw : α → List α} {s : α} : ∀ {gs : List α} {g : α}, gs.Nodup → g ∈ gs → (tk gs aw s).count g = (aw g).count s
  | [], _, _, h => by cases h
  | x :: gs, g, hn, h => by
    have hn' := List.nodup_cons.mp hn
    have e : tk (x :: gs) aw s = List.replicate ((aw x).count s) x ++ tk gs aw s := rfl
    rw [e, List.count_append, List.count_replicate]
    by_cases hx : x = g
    · subst hx
      have z : (tk gs aw s).count x = 0 := List.count_eq_zero.mpr fun hm => hn'.1 (tk_mem hm)
      simp [z]
    · have hg : g ∈ gs := by
        rcases List.mem_cons.mp h with e | e
        · exact absurd e.symm hx
        · exact e
      have hb : (x == g) = false := by simpa using hx
      rw [hb, tk_count hn'.2 hg]
      simp

structure KInv (gs : List α) (aw : α → List α) (order ready : List α) (w : α → Nat) (rest : List α) : Prop where
  nd : (order ++ ready).Nodup
  sub : ∀ x ∈ order ++ ready, x ∈ gs
  wt : ∀ g ∈ gs, w g = open_ order (aw g) + rest.count g
  zero : ∀ g ∈ gs, (g ∈ order ++ ready ↔ w g = 0)
  top : ∀ p g, order[p]? = some g → ∀ s ∈ aw g, s ∈ order.take p

theorem KInv.start {gs : List α} {aw : α → List α} (hn : gs.Nodup) : KInv gs aw [] (gs.filter fun g => decide (((aw g).length : Int) = 0)) (fun g => (aw g).length) [] := by
  refine ⟨?_, ?_, ?_, ?_, ?_⟩
  · rw [List.nil_append]
    exact List.Nodup.sublist List.filter_sublist hn
  · intro x hx
    rw [List.nil_append] at hx
    exact (List.mem_filter.mp hx).1
  · intro g _
    rw [open_nil]
    simp
  · intro g hg
    rw [List.nil_append, List.mem_filter]
    simp only [hg, true_and, decide_eq_true_eq]
    omega
  · intro p g h
    simp at h
theorem KInv.pop {gs : List α} {aw : α → List α} {order ready : List α} {d : α} {w : α → Nat} (hn : gs.Nodup) (k : KInv gs aw order (ready ++ [d]) w []) : d ∈ gs ∧ KInv gs aw (order ++ [d]) ready w (tk gs aw d) := by
  have hd : d ∈ gs := k.sub d (by simp)
  have nd := k.nd
  have hdo : d ∉ order := fun h => by
    rw [List.nodup_append] at nd
    exact nd.2.2 d h d (by simp) rfl
  refine ⟨hd, ?_, ?_, ?_, ?_, ?_⟩
  · rw [← List.append_assoc] at nd
    rw [List.append_assoc]
    have pm : (order ++ ready ++ [d]).Perm (order ++ ([d] ++ ready)) := by
      rw [List.append_assoc]
      exact List.Perm.append_left _ (List.perm_append_comm)
    exact pm.nodup_iff.mp nd
  · intro x hx
    refine k.sub x ?_
    simp only [List.mem_append, List.mem_singleton] at hx ⊢
    rcases hx with (h | h) | h
    · exact .inl h
    · exact .inr (.inr h)
    · exact .inr (.inl h)
  · intro g hg
    rw [k.wt g hg, tk_count hn hg, open_snoc hdo]
    simp
  · intro g hg
    rw [← k.zero g hg]
    simp only [List.mem_append, List.mem_singleton]
    constructor
    · rintro ((h | h) | h)
      · exact .inl h
      · exact .inr (.inr h)
      · exact .inr (.inl h)
    · rintro (h | h | h)
      · exact .inl (.inl h)
      · exact .inr h
      · exact .inl (.inr h)
  · intro p g hp s hs
    by_cases hlt : p < order.length
    · rw [List.getElem?_append_left hlt] at hp
      rw [List.take_append_of_le_length (Nat.le_of_lt hlt)]
      exact k.top p g hp s hs
    · have hle : order.length ≤ p := by omega
      rw [List.getElem?_append_right hle] at hp
      have hp0 : p - order.length = 0 := by
        cases q : p - order.length with
        | zero => rfl
        | succ m => rw [q] at hp; simp at hp
      have hpe : p = order.length := by omega
      rw [hp0] at hp
      have hg : d = g := by simpa using hp
      subst hg
      subst hpe
      rw [List.take_left]
      have w0 : w d = 0 := (k.zero d hd).mp (by simp)
      have := k.wt d hd
      rw [w0] at this
      exact open_zero (by simpa using this.symm) s hs
theorem KInv.step {gs : List α} {aw : α → List α} {order ready rest : List α} {t : α} {w : α → Nat} (ht : t ∈ gs) (k : KInv gs aw order ready w (t :: rest)) :
    1 ≤ w t ∧ KInv gs aw order (if w t - 1 = 0 then ready ++ [t] else ready) (fun x => if x = t then w t - 1 else w x) rest := by
  have wt := k.wt t ht
  rw [List.count_cons_self] at wt
  have w1 : 1 ≤ w t := by omega
  have tn : t ∉ order ++ ready := fun h => by
    have := (k.zero t ht).mp h
    omega
  refine ⟨w1, ?_, ?_, ?_, ?_, k.top⟩
  · split
    · rw [← List.append_assoc, List.nodup_append]
      refine ⟨k.nd, by simp, fun a ha b hb e => ?_⟩
      rw [List.mem_singleton] at hb
      subst hb
      subst e
      exact tn ha
    · exact k.nd
  · intro x hx
    split at hx
    · rw [← List.append_assoc] at hx
      rcases List.mem_append.mp hx with h | h
      · exact k.sub x h
      · rw [List.mem_singleton.mp h]
        exact ht
    · exact k.sub x hx
  · intro g hg
    by_cases e : g = t
    · subst e
      rw [if_pos rfl]
      omega
    · rw [if_neg e, k.wt g hg, List.count_cons]
      have hb : (t == g) = false := by simpa using fun z => e z.symm
      rw [hb]
      simp
  · intro g hg
    by_cases e : g = t
    · subst e
      rw [if_pos rfl]
      constructor
      · intro h
        split at h
        · assumption
        · exact absurd h tn
      · intro h
        rw [if_pos h]
        simp
    · rw [if_neg e, ← k.zero g hg]
      split
      · simp [e]
      · exact Iff.rfl
theorem KInv.most {gs : List α} {aw : α → List α} {order ready rest : List α} {w : α → Nat} (k : KInv gs aw order ready w rest) : order.length + ready.length ≤ gs.length := by
  have := nodup_le k.nd k.sub
  rw [List.length_append] at this
  exact this
/-- by way of no rank a circle -/
def Ranked (gs : List α) (aw : α → List α) : Prop := ∃ r : α → Nat, (∀ g ∈ gs, r g < gs.length) ∧ ∀ g ∈ gs, ∀ s ∈ aw g, r s < r g
theorem KInv.ranked {gs : List α} {aw : α → List α} {order : List α} {w : α → Nat} (k : KInv gs aw order [] w []) (h : ¬ order.length < gs.length) : Ranked gs aw := by
  have nd := k.nd
  have sub := k.sub
  rw [List.append_nil] at nd sub
  have full := nodup_full nd sub (by omega)
  have hlen : order.length ≤ gs.length := nodup_le nd sub
  refine ⟨fun g => order.idxOf g, fun g hg => ?_, fun g hg s hs => ?_⟩
  · exact Nat.lt_of_lt_of_le (List.idxOf_lt_length_iff.mpr (full g hg)) hlen
  · have hlt := List.idxOf_lt_length_iff.mpr (full g hg)
    have e : order[order.idxOf g]? = some g := by
      rw [List.getElem?_eq_getElem hlt, List.getElem_idxOf hlt]
    have m := k.top _ _ e s hs
    obtain ⟨j, hj, hjs⟩ := List.mem_take_iff_getElem.mp m
    have hj' : j < order.idxOf g := by omega
    have hle : order.idxOf s ≤ j := by
      rcases Nat.lt_or_ge j (order.idxOf s) with h | h
      · have z := List.not_of_lt_findIdx (p := (· == s)) (xs := order) h
        have q : order[j]'(by omega) = s := hjs
        simp [q] at z
      · exact h
    exact Nat.lt_of_le_of_lt hle hj'
theorem KInv.complete {gs : List α} {aw : α → List α} {order : List α} {w : α → Nat} (k : KInv gs aw order [] w []) (hn : gs.Nodup) (hs : ∀ g ∈ gs, ∀ s ∈ aw g, s ∈ gs) (r : α → Nat) (hr : ∀ g ∈ gs, ∀ s ∈ aw g, r s < r g) : ¬ order.length < gs.length := by
  have all : ∀ m g, g ∈ gs → r g < m → g ∈ order := by
    intro m
    induction m with
    | zero => intro g _ h; omega
    | succ m ih =>
      intro g hg hm
      have z := k.zero g hg
      rw [List.append_nil] at z
      refine z.mpr ?_
      rw [k.wt g hg]
      have o := open_all (order := order) (l := aw g) fun s h => ih s (hs g hg s h) (by have := hr g hg s h; omega)
      rw [o]
      rfl
  have := nodup_le hn fun g hg => all (r g + 1) g hg (by omega)
  omega
end
end GN
namespace GN
open Sf33
def mx (f : Nat → Nat) (a : Nat) (l : List Nat) : Nat := l.foldl (fun d i => max d (f i + 1)) a
theorem mx_cons (f : Nat → Nat) (a i : Nat) (l : List Nat) : mx f a (i :: l) = mx f (max a (f i + 1)) l := rfl
theorem mx_ge0 (f : Nat → Nat) : ∀ (l : List Nat) (a : Nat), a ≤ mx f a l
  | [], _ => Nat.le_refl _
  | i :: l, a => by
    rw [mx_cons]
    have := mx_ge0 f l (max a (f i + 1))
    omega
theorem mx_ge (f : Nat → Nat) : ∀ (l : List Nat) (a i : Nat), i ∈ l → f i + 1 ≤ mx f a l
  | [], _, _, h => by cases h
  | j :: l, a, i, h => by
    rw [mx_cons]
    rcases List.mem_cons.mp h with e | e
    · subst e
      have := mx_ge0 f l (max a (f i + 1))
      omega
    · exact mx_ge f l _ i e
theorem mx_eq (f : Nat → Nat) : ∀ (l : List Nat) (a : Nat), mx f a l = a ∨ ∃ i ∈ l, mx f a l = f i + 1
  | [], _ => .inl rfl
  | j :: l, a => by
    rw [mx_cons]
    rcases mx_eq f l (max a (f j + 1)) with e | ⟨i, hi, e⟩
    · rw [e]
      by_cases h : a ≤ f j + 1
      · exact .inr ⟨j, List.mem_cons_self, by omega⟩
      · exact .inl (by omega)
    · exact .inr ⟨i, List.mem_cons_of_mem _ hi, e⟩
def tab (L : List (List Nat)) (k i : Nat) : Nat := (farther L k).getD i 0
theorem getD_map (L : List (List Nat)) (f : List Nat → Nat) (h : f [] = 0) (i : Nat) : ((L.map f).toArray).getD i 0 = f (L.getD i []) := by
  rw [Array.getD_eq_getD_getElem?, List.getElem?_toArray, List.getElem?_map, List.getD_eq_getElem?_getD]
  cases L[i]? with
  | none => exact h.symm
  | some l => rfl
theorem tab_zero (L : List (List Nat)) (i : Nat) : tab L 0 i = 0 := getD_map L (fun _ => 0) rfl i
theorem tab_succ (L : List (List Nat)) (k i : Nat) : tab L (k + 1) i = mx (tab L k) 0 (L.getD i []) :=
  getD_map L (fun l => l.foldl (fun d i => max d ((farther L k).getD i 0 + 1)) 0) rfl i
theorem tab_mono (L : List (List Nat)) : ∀ (k i : Nat), tab L k i ≤ tab L (k + 1) i
  | 0, i => by rw [tab_zero]; exact Nat.zero_le _
  | k + 1, i => by
    rw [tab_succ L k]
    rcases mx_eq (tab L k) (L.getD i []) 0 with e | ⟨j, hj, e⟩
    · rw [e]
      exact Nat.zero_le _
    · rw [e, tab_succ L (k + 1)]
      have h1 := mx_ge (tab L (k + 1)) (L.getD i []) 0 j hj
      have h2 := tab_mono L k j
      omega
theorem tab_new (L : List (List Nat)) : ∀ (k i : Nat), tab L k i < tab L (k + 1) i → tab L (k + 1) i = k + 1
  | 0, i => by
    intro h
    rw [tab_succ] at h ⊢
    rcases mx_eq (tab L 0) (L.getD i []) 0 with e | ⟨j, hj, e⟩
    · omega
    · rw [e, tab_zero]
  | k + 1, i => by
    intro h
    rw [tab_succ L (k + 1)] at h ⊢
    rcases mx_eq (tab L (k + 1)) (L.getD i []) 0 with e | ⟨j, hj, e⟩
    · omega
    · rw [e] at h ⊢
      rw [tab_succ L k] at h
      have h1 := mx_ge (tab L k) (L.getD i []) 0 j hj
      have := tab_new L k j (by omega)
      omega
theorem tab_le (L : List (List Nat)) (r : Nat → Nat) (h : ∀ i, ∀ j ∈ L.getD i [], r j < r i) : ∀ (k i : Nat), tab L k i ≤ r i
  | 0, i => by rw [tab_zero]; exact Nat.zero_le _
  | k + 1, i => by
    rw [tab_succ]
    rcases mx_eq (tab L k) (L.getD i []) 0 with e | ⟨j, hj, e⟩
    · omega
    · rw [e]
      have h1 := tab_le L r h k j
      have h2 := h i j hj
      omega
theorem size_farther (L : List (List Nat)) : ∀ k, (farther L k).size = L.length
  | 0 => by simp [farther]
  | k + 1 => by simp [farther]
theorem all_tab (L : List (List Nat)) (k N : Nat) : ((farther L k).all fun d => decide (d ≤ N)) = true ↔ ∀ i, i < L.length → tab L k i ≤ N := by
  rw [Array.all_eq_true]
  constructor
  · intro h i hi
    have hi' : i < (farther L k).size := by rw [size_farther]; exact hi
    have := h i hi'
    unfold tab
    rw [Array.getD_eq_getD_getElem?, Array.getElem?_eq_getElem hi']
    simpa using this
  · intro h i hi
    have := h i (by rw [← size_farther L k]; exact hi)
    unfold tab at this
    rw [Array.getD_eq_getD_getElem?, Array.getElem?_eq_getElem hi] at this
    simpa using this
theorem place_lt {n : Net} {w : Bytes} (h : w ∈ n.names) : n.place w < n.names.length := List.findIdx_lt_length_of_exists ⟨w, h, by simp⟩
theorem place_get {n : Net} {w : Bytes} (h : w ∈ n.names) : n.names.getD (n.place w) [] = w := by
  have hl := place_lt h
  rw [List.getD_eq_getElem?_getD, List.getElem?_eq_getElem hl]
  have := List.findIdx_getElem (xs := n.names) (p := fun y => y == w) (w := hl)
  exact eq_of_beq this
theorem links_get (n : Net) (i : Nat) (hi : i < n.names.length) : n.links.getD i [] = (n.takes (n.names.getD i [])).map n.place := by
  unfold Net.links
  rw [List.getD_eq_getElem?_getD, List.getElem?_map, List.getD_eq_getElem?_getD, List.getElem?_eq_getElem hi]
  rfl
theorem links_out (n : Net) (i : Nat) (hi : ¬ i < n.names.length) : n.links.getD i [] = [] := by
  unfold Net.links
  rw [List.getD_eq_getElem?_getD, List.getElem?_map, List.getElem?_eq_none (by omega)]
  rfl
theorem far_iff (n : Net) (hk : ∀ g ∈ n.names, ∀ s ∈ n.takes g, s ∈ n.names) :
    (n.far.all fun d => decide (d ≤ n.names.length)) = true ↔ ∃ r : Bytes → Nat, (∀ g ∈ n.names, r g ≤ n.names.length) ∧ ∀ g ∈ n.names, ∀ s ∈ n.takes g, r s < r g := by
  have hll : n.links.length = n.names.length := by simp [Net.links]
  unfold Net.far
  rw [all_tab, hll]
  constructor
  · intro h
    refine ⟨fun w => tab n.links (n.names.length + 1) (n.place w), fun g hg => h _ (place_lt hg), fun g hg s hs => ?_⟩
    have hp := place_lt hg
    have hl := links_get n _ hp
    rw [place_get hg] at hl
    have hm : n.place s ∈ n.links.getD (n.place g) [] := by
      rw [hl]
      exact List.mem_map.mpr ⟨s, hs, rfl⟩
    have h1 := mx_ge (tab n.links n.names.length) _ 0 _ hm
    have h2 := h _ (place_lt (hk g hg s hs))
    have h3 := tab_mono n.links n.names.length (n.place s)
    have h4 := tab_new n.links n.names.length (n.place s)
    show tab n.links (n.names.length + 1) (n.place s) < tab n.links (n.names.length + 1) (n.place g)
    rw [tab_succ n.links n.names.length (n.place g)]
    omega
  · rintro ⟨r, hb, hr⟩ i hi
    refine Nat.le_trans (tab_le n.links (fun i => r (n.names.getD i [])) (fun i j hj => ?_) _ i) (hb _ ?_)
    · by_cases hi : i < n.names.length
      · rw [links_get n i hi] at hj
        obtain ⟨s, hs, rfl⟩ := List.mem_map.mp hj
        have hg : n.names.getD i [] ∈ n.names := by
          rw [List.getD_eq_getElem?_getD, List.getElem?_eq_getElem hi]
          exact List.getElem_mem hi
        have := hr _ hg s hs
        rw [place_get (hk _ hg s hs)]
        exact this
      · rw [links_out n i hi] at hj
        cases hj
    · rw [List.getD_eq_getElem?_getD, List.getElem?_eq_getElem hi]
      exact List.getElem_mem hi
end GN
namespace GN
open Sf33
theorem dups_le : ∀ (k : Nat) (l : List Bytes), l.length ≤ k → l.eraseDups.length ≤ l.length ∧ (l.eraseDups.length = l.length ↔ l.Nodup)
  | _, [], _ => by simp
  | 0, _ :: _, h => by simp at h
  | k + 1, a :: l, h => by
    rw [List.eraseDups_cons, List.length_cons, List.length_cons]
    have hf : (l.filter fun b => !b == a).length ≤ l.length := List.length_filter_le _ _
    have hk : (l.filter fun b => !b == a).length ≤ k := by rw [List.length_cons] at h; omega
    obtain ⟨h1, h2⟩ := dups_le k _ hk
    refine ⟨by omega, ?_⟩
    rw [List.nodup_cons]
    constructor
    · intro e
      have e1 : (l.filter fun b => !b == a).length = l.length := by omega
      have e2 : l.filter (fun b => !b == a) = l := List.filter_sublist.eq_of_length e1
      have e3 : ∀ b ∈ l, (!b == a) = true := List.filter_eq_self.mp e2
      rw [e2] at h2
      refine ⟨fun hm => ?_, h2.mp (by rw [e2] at e; omega)⟩
      have := e3 a hm
      simp at this
    · rintro ⟨hm, hn⟩
      have e2 : l.filter (fun b => !b == a) = l := List.filter_eq_self.mpr fun b hb => by
        have : b ≠ a := fun z => hm (z ▸ hb)
        simpa using this
      rw [e2] at h2 ⊢
      have := h2.mpr hn
      omega
theorem dups_iff (l : List Bytes) : l.eraseDups.length = l.length ↔ l.Nodup := (dups_le l.length l (Nat.le_refl _)).2

def emptyN : Net := ⟨[], [], []⟩
def rawIn (n : Net) (w : Bytes) : Option Net := if isName w = true ∧ w ∉ n.names then some { n with ins := n.ins ++ [w] } else none
def rawLine (n : Net) (l : List Bytes) : Option Net := match l with
  | [] => some n
  | w :: r =>
    if w = txt "in" then (if r = [] then none else r.foldlM rawIn n)
    else if w = txt "out" then (if r = [] then none else some { n with outs := n.outs ++ r })
    else match r with
      | [61] :: k :: a => (kindOf k).bind fun x => if a.length = x.2 ∧ (isName w = true ∧ w ∉ n.names) then some { n with gates := n.gates ++ [⟨w, x.1, a⟩] } else none
      | _ => none

/-- names as they should be -/
structure Fine (n : Net) : Prop where
  nd : n.names.Nodup
  ok : ∀ w ∈ n.names, isName w = true
theorem names_in (n : Net) (w : Bytes) : ({ n with ins := n.ins ++ [w] } : Net).names.Perm (w :: n.names) := by
  unfold Net.names
  show (n.ins ++ [w] ++ n.gates.map _).Perm (w :: (n.ins ++ n.gates.map _))
  rw [List.append_assoc]
  exact List.perm_middle
theorem names_gate (n : Net) (g : Gate) : ({ n with gates := n.gates ++ [g] } : Net).names.Perm (g.name :: n.names) := by
  unfold Net.names
  show (n.ins ++ (n.gates ++ [g]).map _).Perm _
  rw [List.map_append, ← List.append_assoc]
  exact List.perm_append_comm
theorem fine_more {n m : Net} {w : Bytes} (h : Fine n) (hw : isName w = true) (hn : w ∉ n.names) (p : m.names.Perm (w :: n.names)) : Fine m := by
  refine ⟨p.nodup_iff.mpr (List.nodup_cons.mpr ⟨hn, h.nd⟩), fun x hx => ?_⟩
  rcases List.mem_cons.mp (p.mem_iff.mp hx) with e | e
  · exact e ▸ hw
  · exact h.ok x e
theorem rawIn_fine {n m : Net} {w : Bytes} (h : Fine n) (e : rawIn n w = some m) : Fine m := by
  unfold rawIn at e
  split at e
  · rename_i c
    cases e
    exact fine_more h c.1 c.2 (names_in n w)
  · cases e
theorem rawIns_fine : ∀ {r : List Bytes} {n m : Net}, Fine n → r.foldlM rawIn n = some m → Fine m
  | [], n, m, h, e => by cases e; exact h
  | w :: r, n, m, h, e => by
    rw [List.foldlM_cons] at e
    cases q : rawIn n w with
    | none => rw [q] at e; cases e
    | some k => rw [q] at e; exact rawIns_fine (rawIn_fine h q) e
theorem rawIns_eq : ∀ {r : List Bytes} {n m : Net}, r.foldlM rawIn n = some m → m = { n with ins := n.ins ++ r } ∧ (∀ x ∈ r, isName x = true)
  | [], n, m, e => by cases e; simp
  | w :: r, n, m, e => by
    rw [List.foldlM_cons] at e
    cases q : rawIn n w with
    | none => rw [q] at e; cases e
    | some k =>
      rw [q] at e
      obtain ⟨e1, e2⟩ := rawIns_eq (show r.foldlM rawIn k = some m from e)
      unfold rawIn at q
      split at q
      · rename_i c
        cases q
        refine ⟨by rw [e1]; simp, fun x hx => ?_⟩
        rcases List.mem_cons.mp hx with z | z
        · exact z ▸ c.1
        · exact e2 x z
      · cases q
theorem rawLine_fine {n m : Net} {l : List Bytes} (h : Fine n) (e : rawLine n l = some m) : Fine m := by
  unfold rawLine at e
  split at e
  · cases e; exact h
  · split at e
    · split at e
      · cases e
      · exact rawIns_fine h e
    · split at e
      · split at e
        · cases e
        · cases e; exact ⟨h.nd, h.ok⟩
      · split at e
        · obtain ⟨x, _, hx⟩ := Option.bind_eq_some_iff.mp e
          split at hx
          · rename_i c
            cases hx
            exact fine_more h c.2.1 c.2.2 (names_gate n _)
          · cases hx
        · cases e
theorem raw_fine : ∀ {L : List (List Bytes)} {n m : Net}, Fine n → L.foldlM rawLine n = some m → Fine m
  | [], n, m, h, e => by cases e; exact h
  | l :: L, n, m, h, e => by
    rw [List.foldlM_cons] at e
    cases q : rawLine n l with
    | none => rw [q] at e; cases e
    | some k => rw [q] at e; exact raw_fine (rawLine_fine h q) e

/-- one is there from the start of another -/
structure Ahead (n m : Net) : Prop where
  ins : ∃ a, m.ins = n.ins ++ a
  outs : ∃ a, m.outs = n.outs ++ a
  gates : ∃ a, m.gates = n.gates ++ a
theorem Ahead.refl (n : Net) : Ahead n n := ⟨⟨[], by simp⟩, ⟨[], by simp⟩, ⟨[], by simp⟩⟩
theorem Ahead.trans {a b c : Net} (h : Ahead a b) (k : Ahead b c) : Ahead a c := by
  obtain ⟨⟨x, hx⟩, ⟨y, hy⟩, ⟨z, hz⟩⟩ := h
  obtain ⟨⟨x', hx'⟩, ⟨y', hy'⟩, ⟨z', hz'⟩⟩ := k
  exact ⟨⟨x ++ x', by rw [hx', hx, List.append_assoc]⟩, ⟨y ++ y', by rw [hy', hy, List.append_assoc]⟩, ⟨z ++ z', by rw [hz', hz, List.append_assoc]⟩⟩
theorem rawLine_ahead {n m : Net} {l : List Bytes} (e : rawLine n l = some m) : Ahead n m := by
  unfold rawLine at e
  split at e
  · cases e; exact .refl _
  · split at e
    · split at e
      · cases e
      · rw [(rawIns_eq e).1]
        exact ⟨⟨_, rfl⟩, ⟨[], by simp⟩, ⟨[], by simp⟩⟩
    · split at e
      · split at e
        · cases e
        · cases e; exact ⟨⟨[], by simp⟩, ⟨_, rfl⟩, ⟨[], by simp⟩⟩
      · split at e
        · obtain ⟨x, _, hx⟩ := Option.bind_eq_some_iff.mp e
          split at hx
          · cases hx
            exact ⟨⟨[], by simp⟩, ⟨[], by simp⟩, ⟨_, rfl⟩⟩
          · cases hx
        · cases e
theorem line_ahead {n m : Net} {l : List Bytes} (e : line n l = some m) : Ahead n m := by
  unfold line at e
  split at e
  · cases e; exact .refl _
  · split at e
    · split at e
      · cases e; exact ⟨⟨_, rfl⟩, ⟨[], by simp⟩, ⟨[], by simp⟩⟩
      · cases e
    · split at e
      · split at e
        · cases e; exact ⟨⟨[], by simp⟩, ⟨_, rfl⟩, ⟨[], by simp⟩⟩
        · cases e
      · split at e
        · obtain ⟨x, _, hx⟩ := Option.bind_eq_some_iff.mp e
          split at hx
          · cases hx
            exact ⟨⟨[], by simp⟩, ⟨[], by simp⟩, ⟨_, rfl⟩⟩
          · cases hx
        · cases e
theorem fold_ahead {f : Net → List Bytes → Option Net} (hf : ∀ {n m l}, f n l = some m → Ahead n m) : ∀ {L : List (List Bytes)} {n m : Net}, L.foldlM f n = some m → Ahead n m
  | [], n, m, e => by cases e; exact .refl _
  | l :: L, n, m, e => by
    rw [List.foldlM_cons] at e
    cases q : f n l with
    | none => rw [q] at e; cases e
    | some k => rw [q] at e; exact (hf q).trans (fold_ahead hf e)
/-- all that is used is a name -/
structure Named (n : Net) : Prop where
  outs : ∀ w ∈ n.outs, isName w = true
  from_ : ∀ g ∈ n.gates, ∀ w ∈ g.from_, isName w = true
theorem Ahead.named {n m : Net} (h : Ahead n m) (k : Named m) : Named n := by
  obtain ⟨_, ⟨y, hy⟩, ⟨z, hz⟩⟩ := h
  exact ⟨fun w hw => k.outs w (by rw [hy]; exact List.mem_append_left _ hw), fun g hg => k.from_ g (by rw [hz]; exact List.mem_append_left _ hg)⟩
theorem Ahead.nodup {n m : Net} (h : Ahead n m) (k : m.names.Nodup) : n.names.Nodup := by
  obtain ⟨⟨x, hx⟩, _, ⟨z, hz⟩⟩ := h
  unfold Net.names at k ⊢
  rw [hx, hz, List.map_append] at k
  refine List.Nodup.sublist ?_ k
  exact List.Sublist.append (List.sublist_append_left _ _) (List.sublist_append_left _ _)
theorem all_name {r : List Bytes} : r.all isName = true ↔ ∀ x ∈ r, isName x = true := List.all_eq_true
/-- from the program's reading to the specification's -/
theorem line_of_raw {n m : Net} {l : List Bytes} (e : rawLine n l = some m) (hm : Named m) : line n l = some m := by
  unfold rawLine at e
  unfold line
  split at e
  · exact e
  · rename_i w r
    split at e
    · rename_i hw
      split at e
      · cases e
      · rename_i hr
        obtain ⟨e1, e2⟩ := rawIns_eq e
        simp only [if_pos hw]
        rw [if_pos ⟨hr, all_name.mpr e2⟩, e1]
    · rename_i hw
      simp only [if_neg hw]
      split at e
      · rename_i ho
        split at e
        · cases e
        · rename_i hr
          cases e
          rw [if_pos ho, if_pos ⟨hr, all_name.mpr fun x hx => hm.outs x (List.mem_append_right _ hx)⟩]
      · rename_i ho
        rw [if_neg ho]
        split at e
        · obtain ⟨x, hk, hx⟩ := Option.bind_eq_some_iff.mp e
          split at hx
          · rename_i c
            cases hx
            show (kindOf _).bind _ = _
            rw [hk]
            have ha : ∀ y ∈ _, isName y = true := hm.from_ _ (List.mem_append_right _ (List.mem_singleton.mpr rfl))
            simp only [Option.bind_some]
            rw [if_pos ⟨c.2.1, all_name.mpr ha, c.1⟩]
          · cases hx
        · cases e
theorem rawIns_of : ∀ {r : List Bytes} {n : Net}, (∀ x ∈ r, isName x = true) → ({ n with ins := n.ins ++ r } : Net).names.Nodup → r.foldlM rawIn n = some { n with ins := n.ins ++ r }
  | [], n, _, _ => by simp
  | w :: r, n, h, hn => by
    have hw : w ∉ n.names := fun hm => by
      unfold Net.names at hn hm
      simp only [List.append_assoc, List.cons_append] at hn
      rw [List.nodup_append] at hn
      rcases List.mem_append.mp hm with z | z
      · exact hn.2.2 w z w List.mem_cons_self rfl
      · exact (List.nodup_cons.mp hn.2.1).1 (List.mem_append_right _ z)
    rw [List.foldlM_cons]
    have q : rawIn n w = some { n with ins := n.ins ++ [w] } := if_pos ⟨h w List.mem_cons_self, hw⟩
    rw [q]
    have ih := rawIns_of (r := r) (n := { n with ins := n.ins ++ [w] }) (fun x hx => h x (List.mem_cons_of_mem _ hx)) (by simpa using hn)
    show r.foldlM rawIn { n with ins := n.ins ++ [w] } = _
    rw [ih]
    simp
/-- and back -/
theorem raw_of_line {n m : Net} {l : List Bytes} (e : line n l = some m) (hm : m.names.Nodup) : rawLine n l = some m := by
  unfold line at e
  unfold rawLine
  split at e
  · exact e
  · rename_i w r
    split at e
    · rename_i hw
      split at e
      · rename_i c
        cases e
        simp only [if_pos hw]
        rw [if_neg c.1, rawIns_of (all_name.mp c.2) hm]
      · cases e
    · rename_i hw
      simp only [if_neg hw]
      split at e
      · rename_i ho
        split at e
        · rename_i c
          cases e
          rw [if_pos ho, if_neg c.1]
        · cases e
      · rename_i ho
        rw [if_neg ho]
        split at e
        · obtain ⟨x, hk, hx⟩ := Option.bind_eq_some_iff.mp e
          split at hx
          · rename_i c
            cases hx
            show (kindOf _).bind _ = _
            rw [hk]
            simp only [Option.bind_some]
            have hw' : w ∉ n.names := (List.nodup_cons.mp ((names_gate n ⟨w, x.1, _⟩).nodup_iff.mp hm)).1
            exact if_pos ⟨c.2.2, c.1, hw'⟩
          · cases hx
        · cases e
theorem lines_of_raw : ∀ {L : List (List Bytes)} {n m : Net}, L.foldlM rawLine n = some m → Named m → L.foldlM line n = some m
  | [], n, m, e, _ => e
  | l :: L, n, m, e, hm => by
    rw [List.foldlM_cons] at e ⊢
    cases q : rawLine n l with
    | none => rw [q] at e; cases e
    | some k =>
      rw [q] at e
      rw [line_of_raw q ((fold_ahead rawLine_ahead (show L.foldlM rawLine k = some m from e)).named hm)]
      exact lines_of_raw e hm
theorem raw_of_lines : ∀ {L : List (List Bytes)} {n m : Net}, L.foldlM line n = some m → m.names.Nodup → L.foldlM rawLine n = some m
  | [], n, m, e, _ => e
  | l :: L, n, m, e, hm => by
    rw [List.foldlM_cons] at e ⊢
    cases q : line n l with
    | none => rw [q] at e; cases e
    | some k =>
      rw [q] at e
      rw [raw_of_line q ((fold_ahead line_ahead (show L.foldlM line k = some m from e)).nodup hm)]
      exact raw_of_lines e hm
/-- what is used is known -/
structure Known (n : Net) : Prop where
  outs : ∀ w ∈ n.outs, w ∈ n.names
  from_ : ∀ g ∈ n.gates, ∀ w ∈ g.from_, w ∈ n.names
structure Small (n : Net) : Prop where
  ins : n.ins.length ≤ 64
  outs : n.outs.length ≤ 64
  names : n.names.length ≤ 1024
def Rank (n : Net) : Prop := ∃ r : Bytes → Nat, (∀ g ∈ n.names, r g ≤ n.names.length) ∧ ∀ g ∈ n.names, ∀ s ∈ n.takes g, r s < r g
theorem takes_known {n : Net} (k : Known n) : ∀ g ∈ n.names, ∀ s ∈ n.takes g, s ∈ n.names := by
  intro g _ s hs
  unfold Net.takes at hs
  split at hs
  · rename_i x hx
    split at hs
    · cases hs
    · exact k.from_ x (List.mem_of_find?_eq_some hx) s hs
  · cases hs
theorem right_iff (n : Net) : n.right = true ↔ n.names.Nodup ∧ Small n ∧ Known n ∧ Rank n := by
  unfold Net.right
  simp only [Bool.and_eq_true, decide_eq_true_eq, List.all_eq_true, List.contains_iff_mem]
  constructor
  · rintro ⟨⟨⟨⟨⟨⟨h1, h2⟩, h3⟩, h4⟩, h5⟩, h6⟩, h7⟩
    have k : Known n := ⟨h5, h6⟩
    exact ⟨(dups_iff _).mp h1, ⟨h3, h4, h2⟩, k, (far_iff n (takes_known k)).mp h7⟩
  · rintro ⟨h1, h2, k, r⟩
    exact ⟨⟨⟨⟨⟨⟨(dups_iff _).mpr h1, h2.names⟩, h2.ins⟩, h2.outs⟩, k.outs⟩, k.from_⟩, (far_iff n (takes_known k)).mpr r⟩
theorem fine0 : Fine emptyN := ⟨List.nodup_nil, fun _ h => by cases h⟩
/-- the specification's network is what the program's reading finds -/
theorem network_some {b : Bytes} (hb : b.length ≤ 65536) (n : Net) : network (b.length : Int) b = some n ↔ (lines b).foldlM rawLine emptyN = some n ∧ Small n ∧ Known n ∧ Rank n := by
  unfold network
  rw [if_pos ⟨by omega, by omega⟩, Option.bind_eq_some_iff]
  constructor
  · rintro ⟨m, hm, e⟩
    split at e
    · rename_i r
      cases e
      obtain ⟨h1, h2, h3, h4⟩ := (right_iff _).mp r
      exact ⟨raw_of_lines hm h1, h2, h3, h4⟩
    · cases e
  · rintro ⟨e, h2, h3, h4⟩
    have f := raw_fine fine0 e
    have hn : Named n := ⟨fun w hw => f.ok w (h3.outs w hw), fun g hg w hw => f.ok w (h3.from_ g hg w hw)⟩
    refine ⟨n, lines_of_raw e hn, ?_⟩
    rw [if_pos ((right_iff n).mpr ⟨f.nd, h2, h3, h4⟩)]
end GN
namespace GN
open Sf33
open PySem (Str)
theorem all256 {P : UInt8 → Prop} (h : ∀ n, n < 256 → P (UInt8.ofNat n)) (c : UInt8) : P c := by
  have e : UInt8.ofNat c.toNat = c := by simp
  rw [← e]
  exact h _ c.toNat_lt
def known (c : UInt8) : Bool := c == 10 || (c == 9 || (c == 32 || (c == 35 || (c == 61 || inName c))))
def sp1 (c : UInt8) : Nat := if known c = true then c.toNat else 63
def en (w : Bytes) : Str := ⟨(w.map sp1).toArray⟩
theorem en_tl (w : Bytes) : TL.tl (en w) = w.map sp1 := rfl
theorem en_len (w : Bytes) : (en w).length = w.length := by
  show ((w.map sp1).toArray).size = _
  simp
theorem sp1_inj {c d : UInt8} (hd : known d = true) (e : sp1 c = sp1 d) : c = d := by
  unfold sp1 at e
  rw [if_pos hd] at e
  split at e
  · exact UInt8.toNat_inj.mp e
  · have z : d = 63 := UInt8.toNat_inj.mp (by rw [← e]; rfl)
    rw [z] at hd
    exact absurd hd (by decide)
theorem map_sp1_inj : ∀ {v w : Bytes}, (∀ d ∈ v, known d = true) → w.map sp1 = v.map sp1 → w = v
  | [], [], _, _ => rfl
  | [], _ :: _, _, e => by simp at e
  | _ :: _, [], _, e => by simp at e
  | d :: v, c :: w, h, e => by
    rw [List.map_cons, List.map_cons] at e
    injection e with e1 e2
    rw [sp1_inj (h d List.mem_cons_self) e1, map_sp1_inj (fun x hx => h x (List.mem_cons_of_mem _ hx)) e2]
theorem en_inj {v w : Bytes} (h : ∀ d ∈ v, known d = true) (e : en w = en v) : w = v := map_sp1_inj h (by rw [← en_tl, ← en_tl, e])
theorem known_inName : ∀ c : UInt8, inName c = true → known c = true := fun c h => by
  unfold known
  rw [h]
  simp
theorem small_inName (c : UInt8) (h : small c = true) : inName c = true := by
  unfold inName
  rw [h]
  rfl
theorem isName_known {v : Bytes} (h : isName v = true) : ∀ d ∈ v, known d = true := by
  unfold isName at h
  split at h
  · cases h
  · rename_i c r
    simp only [Bool.and_eq_true, List.all_eq_true] at h
    intro d hd
    rcases List.mem_cons.mp hd with e | e
    · exact e ▸ known_inName c (small_inName c h.1)
    · exact known_inName d (h.2.1 d e)
theorem en_inj' {v w : Bytes} (h : isName v = true) : en w = en v ↔ w = v := ⟨en_inj (isName_known h), fun e => by rw [e]⟩
/-- back from a text -/
def de (z : Str) : Bytes := z.cps.toList.map UInt8.ofNat
theorem de_en {v : Bytes} (h : isName v = true) : de (en v) = v := by
  show (v.map sp1).map UInt8.ofNat = v
  have k := isName_known h
  rw [List.map_map]
  conv => rhs; rw [← List.map_id v]
  refine List.map_congr_left fun c hc => ?_
  show UInt8.ofNat (sp1 c) = c
  unfold sp1
  rw [if_pos (k c hc)]
  simp

/-! words that are written -/
theorem lit_eq {s : Str} {v : Bytes} (h : en v = s) (hv : v.all known = true) (w : Bytes) : en w = s ↔ w = v := by
  rw [← h]
  exact ⟨en_inj (List.all_eq_true.mp hv), fun e => by rw [e]⟩
abbrev sIn : Str := "in"
abbrev sOut : Str := "out"
abbrev sEq : Str := "="
theorem en_in (w : Bytes) : en w = sIn ↔ w = txt "in" := lit_eq (by decide +kernel) (by decide +kernel) w
theorem en_out (w : Bytes) : en w = sOut ↔ w = txt "out" := lit_eq (by decide +kernel) (by decide +kernel) w
theorem en_eq (w : Bytes) : en w = sEq ↔ w = [61] := lit_eq (by decide +kernel) (by decide +kernel) w
def letters : List Nat := (Str.ofString "abcdefghijklmnopqrstuvwxyz").cps.toList
def signs : List Nat := (Str.ofString "abcdefghijklmnopqrstuvwxyz0123456789_").cps.toList
theorem letters_iff (c : UInt8) : decide (sp1 c ∈ letters) = small c := all256 (P := fun c => decide (sp1 c ∈ letters) = small c) (by decide +kernel) c
theorem signs_iff (c : UInt8) : decide (sp1 c ∈ signs) = inName c := all256 (P := fun c => decide (sp1 c ∈ signs) = inName c) (by decide +kernel) c
/-- is_name -/
def pname (z : Str) : Bool := if z = sIn ∨ z = sOut then false else if z.length > 15 ∨ ¬ z.cps.toList.headD 0 ∈ letters then false else z.cps.toList.all fun c => decide (c ∈ signs)
theorem head0 : (0 : Nat) ∉ letters := by decide +kernel
theorem pname_en (w : Bytes) : pname (en w) = isName w := by
  unfold pname
  simp only [en_in, en_out, en_len]
  show (if w = txt "in" ∨ w = txt "out" then false else if w.length > 15 ∨ ¬ (w.map sp1).headD 0 ∈ letters then false else (w.map sp1).all fun c => decide (c ∈ signs)) = isName w
  have ha : ((w.map sp1).all fun c => decide (c ∈ signs)) = w.all inName := by
    rw [List.all_map]
    congr 1
    funext c
    exact signs_iff c
  rw [ha]
  unfold isName
  cases w with
  | nil => simp [head0]
  | cons c r =>
    have hl := letters_iff c
    simp only [List.map_cons, List.headD_cons, List.length_cons, List.all_cons]
    by_cases h1 : c :: r = txt "in"
    · simp [h1]
    · by_cases h2 : c :: r = txt "out"
      · simp [h2]
      · rw [if_neg (by simp [h1, h2])]
        by_cases h3 : r.length ≤ 14
        · by_cases h4 : sp1 c ∈ letters
          · rw [decide_eq_true h4] at hl
            rw [if_neg (by simp [h4]; omega), ← hl, small_inName c hl.symm]
            simp [h1, h2, h3]
          · rw [decide_eq_false h4] at hl
            rw [if_pos (.inr h4), ← hl]
            rfl
        · rw [if_pos (.inl (by omega))]
          simp [h3]

/-! kinds -/
abbrev kZero : Str := "zero"
abbrev kOne : Str := "one"
abbrev kNot : Str := "not"
abbrev kBuf : Str := "buf"
abbrev kReg : Str := "reg"
abbrev kReg1 : Str := "reg1"
abbrev kAnd : Str := "and"
abbrev kOr : Str := "or"
abbrev kXor : Str := "xor"
abbrev kNand : Str := "nand"
abbrev kNor : Str := "nor"
abbrev kXnor : Str := "xnor"
abbrev kMaj : Str := "maj"
abbrev kMux : Str := "mux"
/-- how many names a kind takes -/
def kc (z : Str) : Option Nat :=
  if z = kZero then some 0 else if z = kOne then some 0 else if z = kNot then some 1 else if z = kBuf then some 1 else if z = kReg then some 1 else if z = kReg1 then some 1
  else if z = kAnd then some 2 else if z = kOr then some 2 else if z = kXor then some 2 else if z = kNand then some 2 else if z = kNor then some 2 else if z = kXnor then some 2
  else if z = kMaj then some 3 else if z = kMux then some 3 else none
def kw : Kind → Str
  | .zero => kZero | .one => kOne | .not => kNot | .buf => kBuf | .reg false => kReg | .reg true => kReg1
  | .and => kAnd | .or => kOr | .xor => kXor | .nand => kNand | .nor => kNor | .xnor => kXnor | .maj => kMaj | .mux => kMux
theorem en_zero (w : Bytes) : en w = kZero ↔ w = txt "zero" := lit_eq (by decide +kernel) (by decide +kernel) w
theorem en_one (w : Bytes) : en w = kOne ↔ w = txt "one" := lit_eq (by decide +kernel) (by decide +kernel) w
theorem en_not (w : Bytes) : en w = kNot ↔ w = txt "not" := lit_eq (by decide +kernel) (by decide +kernel) w
theorem en_buf (w : Bytes) : en w = kBuf ↔ w = txt "buf" := lit_eq (by decide +kernel) (by decide +kernel) w
theorem en_reg (w : Bytes) : en w = kReg ↔ w = txt "reg" := lit_eq (by decide +kernel) (by decide +kernel) w
theorem en_reg1 (w : Bytes) : en w = kReg1 ↔ w = txt "reg1" := lit_eq (by decide +kernel) (by decide +kernel) w
theorem en_and (w : Bytes) : en w = kAnd ↔ w = txt "and" := lit_eq (by decide +kernel) (by decide +kernel) w
theorem en_or (w : Bytes) : en w = kOr ↔ w = txt "or" := lit_eq (by decide +kernel) (by decide +kernel) w
theorem en_xor (w : Bytes) : en w = kXor ↔ w = txt "xor" := lit_eq (by decide +kernel) (by decide +kernel) w
theorem en_nand (w : Bytes) : en w = kNand ↔ w = txt "nand" := lit_eq (by decide +kernel) (by decide +kernel) w
theorem en_nor (w : Bytes) : en w = kNor ↔ w = txt "nor" := lit_eq (by decide +kernel) (by decide +kernel) w
theorem en_xnor (w : Bytes) : en w = kXnor ↔ w = txt "xnor" := lit_eq (by decide +kernel) (by decide +kernel) w
theorem en_maj (w : Bytes) : en w = kMaj ↔ w = txt "maj" := lit_eq (by decide +kernel) (by decide +kernel) w
theorem en_mux (w : Bytes) : en w = kMux ↔ w = txt "mux" := lit_eq (by decide +kernel) (by decide +kernel) w
theorem kc_en (w : Bytes) : kc (en w) = (kindOf w).map (·.2) := by
  unfold kc kindOf
  simp only [en_zero, en_one, en_not, en_buf, en_reg, en_reg1, en_and, en_or, en_xor, en_nand, en_nor, en_xnor, en_maj, en_mux]
  simp only [apply_ite (Option.map fun x : Kind × Nat => x.2), Option.map_some, Option.map_none]
theorem ite_some {c : Prop} [Decidable c] {a x : Kind × Nat} {t : Option (Kind × Nat)} (h : (if c then some a else t) = some x) : (c ∧ a = x) ∨ t = some x := by
  by_cases hc : c
  · rw [if_pos hc] at h
    exact .inl ⟨hc, Option.some.inj h⟩
  · rw [if_neg hc] at h
    exact .inr h
theorem kw_en {w : Bytes} {x : Kind × Nat} (h : kindOf w = some x) : en w = kw x.1 := by
  unfold kindOf at h
  rcases ite_some h with ⟨e, rfl⟩ | h
  · exact (en_zero w).mpr e
  rcases ite_some h with ⟨e, rfl⟩ | h
  · exact (en_one w).mpr e
  rcases ite_some h with ⟨e, rfl⟩ | h
  · exact (en_not w).mpr e
  rcases ite_some h with ⟨e, rfl⟩ | h
  · exact (en_buf w).mpr e
  rcases ite_some h with ⟨e, rfl⟩ | h
  · exact (en_reg w).mpr e
  rcases ite_some h with ⟨e, rfl⟩ | h
  · exact (en_reg1 w).mpr e
  rcases ite_some h with ⟨e, rfl⟩ | h
  · exact (en_and w).mpr e
  rcases ite_some h with ⟨e, rfl⟩ | h
  · exact (en_or w).mpr e
  rcases ite_some h with ⟨e, rfl⟩ | h
  · exact (en_xor w).mpr e
  rcases ite_some h with ⟨e, rfl⟩ | h
  · exact (en_nand w).mpr e
  rcases ite_some h with ⟨e, rfl⟩ | h
  · exact (en_nor w).mpr e
  rcases ite_some h with ⟨e, rfl⟩ | h
  · exact (en_xnor w).mpr e
  rcases ite_some h with ⟨e, rfl⟩ | h
  · exact (en_maj w).mpr e
  rcases ite_some h with ⟨e, rfl⟩ | h
  · exact (en_mux w).mpr e
  cases h
def isRegS (z : Str) : Bool := decide (z = kReg) || decide (z = kReg1)
theorem isReg_kw (k : Kind) : isRegS (kw k) = k.isReg := by
  cases k with
  | reg b => cases b <;> decide +kernel
  | _ => decide +kernel
end GN
namespace GN
open Sf33
open PySem (Str)
/-! ### the text's lines -/
theorem sp1_ten (c : UInt8) : (sp1 c = 10) ↔ ((c == 10) = true) := by
  have h := all256 (P := fun c => decide (sp1 c = 10) = (c == 10)) (by decide +kernel) c
  rw [← h]
  simp
theorem sp1_hash (c : UInt8) : (sp1 c = 35) ↔ ((c != 35) = false) := by
  have h := all256 (P := fun c => decide (sp1 c = 35) = !(c != 35)) (by decide +kernel) c
  by_cases e : sp1 c = 35
  · simp only [e, decide_true] at h
    simp only [e, true_iff]
    cases q : (c != 35)
    · rfl
    · rw [q] at h; cases h
  · simp only [e, decide_false] at h
    simp only [e, false_iff]
    intro q
    rw [q] at h
    cases h
theorem sp1_space (c : UInt8) (h : (c == 10) = false) : PySem.Unicode.isSpace (sp1 c) = blank c := by
  have k := all256 (P := fun c => (c == 10) = false → PySem.Unicode.isSpace (sp1 c) = blank c) (by decide +kernel) c
  exact k h
theorem pre_one (s c : Nat) (r : List Nat) : TL.pre [s] (c :: r) = decide (c = s) := by
  show (List.take 1 (c :: r) == [s]) = _
  rw [Bool.eq_iff_iff]
  simp
theorem spl_lines : ∀ (b w : Bytes), TL.spl [10] 0 (w.map sp1) (b.map sp1) = (split (fun c => c == 10) b w).map (fun l => l.map sp1)
  | [], w => by rw [List.map_nil, TL.spl_nil]; rfl
  | c :: r, w => by
    rw [List.map_cons]
    by_cases h : (c == 10) = true
    · rw [TL.spl_hit (by rw [pre_one]; exact decide_eq_true ((sp1_ten c).mpr h))]
      have e : split (fun c => c == 10) (c :: r) w = w :: split (fun c => c == 10) r [] := if_pos h
      rw [e, List.map_cons]
      exact congrArg _ (spl_lines r [])
    · rw [TL.spl_miss (by rw [pre_one]; exact decide_eq_false fun z => h ((sp1_ten c).mp z))]
      have e : split (fun c => c == 10) (c :: r) w = split (fun c => c == 10) r (w ++ [c]) := if_neg h
      rw [e, ← spl_lines r (w ++ [c]), List.map_append]
      rfl
theorem split_no : ∀ (b w : Bytes), (∀ c ∈ w, (c == 10) = false) → ∀ l ∈ split (fun c => c == 10) b w, ∀ c ∈ l, (c == 10) = false
  | [], w, h, l, hl => by
    rw [List.mem_singleton.mp hl]
    exact h
  | c :: r, w, h, l, hl => by
    unfold split at hl
    split at hl
    · rcases List.mem_cons.mp hl with e | e
      · exact e ▸ h
      · exact split_no r [] (fun _ z => by cases z) l e
    · rename_i hc
      refine split_no r (w ++ [c]) (fun x hx => ?_) l hl
      rcases List.mem_append.mp hx with e | e
      · exact h x e
      · rw [List.mem_singleton.mp e]
        simpa using hc
theorem par_hash : ∀ (b w : Bytes), (match TL.par [35] (w.map sp1) (b.map sp1) with | some (a, _) => a | none => w.map sp1 ++ b.map sp1) = (w ++ b.takeWhile fun c => c != 35).map sp1
  | [], w => by
    show w.map sp1 ++ [] = (w ++ []).map sp1
    simp
  | c :: r, w => by
    rw [List.map_cons]
    by_cases h : (c != 35) = false
    · rw [TL.par_hit (by rw [pre_one]; exact decide_eq_true ((sp1_hash c).mpr h)), List.takeWhile_cons, h]
      simp
    · have h' : (c != 35) = true := by simpa using h
      rw [TL.par_miss (by rw [pre_one]; exact decide_eq_false fun z => h ((sp1_hash c).mp z)), List.takeWhile_cons, h']
      have ih := par_hash r (w ++ [c])
      simp only [List.map_append, List.map_cons, List.map_nil, List.append_assoc, List.cons_append, List.nil_append, if_true] at ih ⊢
      exact ih
theorem partition_en (l : Bytes) : (PySem.Txt.partition (en l) "#").1 = en (l.takeWhile fun c => c != 35) := by
  have hy : TL.tl ("#" : Str) = [35] := by decide +kernel
  rw [TL.partition_par _ _ (by rw [hy]; simp), hy]
  have h := par_hash l []
  rw [List.map_nil, List.nil_append, List.nil_append] at h
  show (match TL.par [35] [] (l.map sp1) with | some (a, b) => ((⟨a.toArray⟩ : Str), ("#" : Str), (⟨b.toArray⟩ : Str)) | none => (en l, PySem.Str.empty, PySem.Str.empty)).1 = _
  unfold en
  rw [← h]
  cases TL.par [35] [] (l.map sp1) with
  | none => rfl
  | some q => rfl
theorem fold_words : ∀ (l u : Bytes) (ws : List Bytes), (∀ c ∈ l, (c == 10) = false) →
    TL.wfin ((l.map sp1).foldl TL.wstep (ws.map (fun w => w.map sp1), u.map sp1)) = (ws ++ (split blank l u).filter fun w => w != []).map (fun w => w.map sp1)
  | [], u, ws, _ => by
    show (if u.map sp1 = [] then ws.map _ else ws.map _ ++ [u.map sp1]) = (ws ++ [u].filter fun w => w != []).map _
    cases u with
    | nil => simp
    | cons a u => simp
  | c :: r, u, ws, h => by
    have hc := h c List.mem_cons_self
    have hr := fun x hx => h x (List.mem_cons_of_mem c hx)
    have hs := sp1_space c hc
    rw [List.map_cons, List.foldl_cons]
    by_cases hb : blank c = true
    · have e : split blank (c :: r) u = u :: split blank r [] := if_pos hb
      rw [e]
      cases u with
      | nil =>
        have q : TL.wstep (ws.map (fun w => w.map sp1), ([] : Bytes).map sp1) (sp1 c) = (ws.map (fun w => w.map sp1), ([] : Bytes).map sp1) := (if_pos (hs.trans hb)).trans (if_pos rfl)
        rw [q, fold_words r [] ws hr]
        rfl
      | cons a u =>
        have q : TL.wstep (ws.map (fun w => w.map sp1), (a :: u).map sp1) (sp1 c) = ((ws ++ [a :: u]).map (fun w => w.map sp1), ([] : Bytes).map sp1) := by
          refine (if_pos (hs.trans hb)).trans ((if_neg (by simp)).trans ?_)
          simp
        rw [q, fold_words r [] (ws ++ [a :: u]) hr]
        have f : ((a :: u) :: split blank r []).filter (fun w => w != []) = (a :: u) :: (split blank r []).filter (fun w => w != []) := rfl
        rw [f, List.append_assoc]
        rfl
    · have e : split blank (c :: r) u = split blank r (u ++ [c]) := if_neg hb
      have q : TL.wstep (ws.map (fun w => w.map sp1), u.map sp1) (sp1 c) = (ws.map (fun w => w.map sp1), (u ++ [c]).map sp1) := by
        refine (if_neg (by rw [hs]; exact hb)).trans ?_
        simp
      rw [e, q, fold_words r (u ++ [c]) ws hr]
theorem words_en {l : Bytes} (h : ∀ c ∈ l, (c == 10) = false) : PySem.Txt.words (en l) = ((split blank l []).filter fun w => w != []).map en := by
  refine TL.map_tl_inj ?_
  rw [TL.words_tl]
  have k := fold_words l [] [] h
  rw [List.map_nil, List.nil_append] at k
  rw [show TL.tl (en l) = l.map sp1 from rfl]
  refine k.trans ?_
  rw [List.map_map]
  rfl
/-- the lines of the text, before words -/
def rows (b : Bytes) : List Bytes := split (fun c => c == 10) b []
theorem split_en (b : Bytes) : PySem.Txt.split (en b) "\n" = (rows b).map en := by
  refine TL.map_tl_inj ?_
  have hy : TL.tl ("\n" : Str) = [10] := by decide +kernel
  rw [TL.split_spl _ _ (by rw [hy]; simp) (TL.kind_ok (by decide +kernel)), hy]
  have k := spl_lines b []
  rw [List.map_nil] at k
  rw [show TL.tl (en b) = b.map sp1 from rfl]
  refine k.trans ?_
  rw [List.map_map]
  rfl
/-- the words of a line -/
def wordsOf (l : Bytes) : List Bytes := (split blank (l.takeWhile fun c => c != 35) []).filter fun w => w != []
theorem lines_rows (b : Bytes) : lines b = (rows b).map wordsOf := rfl
theorem words_row {b l : Bytes} (h : l ∈ rows b) : PySem.Txt.words (PySem.Txt.partition (en l) "#").1 = (wordsOf l).map en := by
  rw [partition_en]
  refine words_en fun c hc => ?_
  exact split_no b [] (fun _ z => by cases z) l h c (List.takeWhile_sublist _ |>.subset hc)
/-! ### sizes -/
theorem split_sum (p : UInt8 → Bool) : ∀ (b w : Bytes), ((split p b w).map List.length).sum ≤ b.length + w.length
  | [], w => by simp [split]
  | c :: r, w => by
    unfold split
    split
    · have := split_sum p r []
      simp only [List.map_cons, List.sum_cons, List.length_nil] at this ⊢
      rw [List.length_cons]
      omega
    · have := split_sum p r (w ++ [c])
      rw [List.length_append] at this
      simp only [List.length_cons, List.length_nil] at this ⊢
      omega
theorem filter_len : ∀ L : List Bytes, (L.filter fun w => w != []).length ≤ (L.map List.length).sum
  | [] => by simp
  | [] :: L => by
    have := filter_len L
    simpa using this
  | (a :: w) :: L => by
    have := filter_len L
    have e : ((a :: w) :: L).filter (fun w => w != []) = (a :: w) :: L.filter (fun w => w != []) := rfl
    rw [e]
    simp only [List.length_cons, List.map_cons, List.sum_cons]
    omega
theorem words_count (l : Bytes) : (wordsOf l).length ≤ l.length := by
  unfold wordsOf
  have h1 := filter_len (split blank (l.takeWhile fun c => c != 35) [])
  have h2 := split_sum blank (l.takeWhile fun c => c != 35) []
  have h3 : (l.takeWhile fun c => c != 35).length ≤ l.length := (List.takeWhile_sublist _).length_le
  simp only [List.length_nil] at h2
  exact Nat.le_trans h1 (by omega)
theorem mem_sum : ∀ {L : List Bytes} {l : Bytes}, l ∈ L → l.length ≤ (L.map List.length).sum
  | a :: L, l, h => by
    simp only [List.map_cons, List.sum_cons]
    rcases List.mem_cons.mp h with e | e
    · subst e; omega
    · have := mem_sum e; omega
theorem row_len {b l : Bytes} (h : l ∈ rows b) : l.length ≤ b.length := by
  have h1 := mem_sum h
  have h2 := split_sum (fun c => c == 10) b []
  unfold rows at h1
  simp only [List.length_nil] at h2
  omega
theorem word_len {l w : Bytes} (h : w ∈ wordsOf l) : 1 ≤ w.length ∧ w.length ≤ l.length := by
  unfold wordsOf at h
  obtain ⟨h1, h2⟩ := List.mem_filter.mp h
  have a := mem_sum h1
  have b := split_sum blank (l.takeWhile fun c => c != 35) []
  have c : (l.takeWhile fun c => c != 35).length ≤ l.length := (List.takeWhile_sublist _).length_le
  simp only [List.length_nil] at b
  refine ⟨?_, by omega⟩
  cases w with
  | nil => simp at h2
  | cons _ _ => simp
theorem rows_total : ∀ (L : List Bytes), (L.map fun l => (wordsOf l).length).sum ≤ (L.map List.length).sum
  | [] => by simp
  | l :: L => by
    have := rows_total L
    have := words_count l
    simp only [List.map_cons, List.sum_cons]
    omega
theorem all_words (b : Bytes) : ((rows b).map fun l => (wordsOf l).length).sum ≤ b.length := by
  have h1 := rows_total (rows b)
  have h2 := split_sum (fun c => c == 10) b []
  unfold rows at h1 ⊢
  simp only [List.length_nil] at h2
  omega
theorem rows_len : ∀ (b w : Bytes), (split (fun c => c == 10) b w).length ≤ b.length + 1
  | [], w => by simp [split]
  | c :: r, w => by
    unfold split
    split
    · have := rows_len r []
      simp only [List.length_cons]
      omega
    · have := rows_len r (w ++ [c])
      simp only [List.length_cons]
      omega
end GN
namespace GN
open Sf33
open PySem (Str)
/-! ### the program's own network: names as texts -/
structure PG where
  name : Str
  kind : Str
  src : List Str
structure PN where
  ins : List Str
  outs : List Str
  gates : List PG
def PN.gn (p : PN) : List Str := p.gates.map PG.name
def PN.given (p : PN) (w : Str) : Bool := decide (w ∈ p.ins) || decide (w ∈ p.gn)
def PN.fresh (p : PN) (w : Str) : Bool := pname w && !p.given w
def pIn (p : PN) (w : Str) : Option PN := if p.fresh w = true then some { p with ins := p.ins ++ [w] } else none
def pGate (p : PN) (w e k : Str) (a : List Str) : Option PN :=
  if e = sEq then (match kc k with
    | some c => if a.length = c ∧ p.fresh w = true then some { p with gates := p.gates ++ [⟨w, k, a⟩] } else none
    | none => none) else none
def pLine (p : PN) (ws : List Str) : Option PN := match ws with
  | [] => some p
  | w :: r =>
    if w = sIn then (if r = [] then none else r.foldlM pIn p)
    else if w = sOut then (if r = [] then none else some { p with outs := p.outs ++ r })
    else match r with
      | e :: k :: a => pGate p w e k a
      | _ => none
def encG (g : Gate) : PG := ⟨en g.name, kw g.kind, g.from_.map en⟩
def encN (n : Net) : PN := ⟨n.ins.map en, n.outs.map en, n.gates.map encG⟩
theorem gn_enc (n : Net) : (encN n).gn = (n.gates.map fun g => g.name).map en := by
  show (n.gates.map encG).map PG.name = _
  rw [List.map_map, List.map_map]
  rfl
theorem mem_en {l : List Bytes} (h : ∀ v ∈ l, isName v = true) (w : Bytes) : en w ∈ l.map en ↔ w ∈ l := by
  constructor
  · intro hm
    obtain ⟨v, hv, e⟩ := List.mem_map.mp hm
    rw [(en_inj' (h v hv)).mp e.symm]
    exact hv
  · exact fun hm => List.mem_map.mpr ⟨w, hm, rfl⟩
theorem Fine.ins {n : Net} (f : Fine n) : ∀ v ∈ n.ins, isName v = true := fun v hv => f.ok v (List.mem_append_left _ hv)
theorem Fine.gts {n : Net} (f : Fine n) : ∀ v ∈ n.gates.map (fun g => g.name), isName v = true := fun v hv => f.ok v (List.mem_append_right _ hv)
theorem given_enc {n : Net} (f : Fine n) (w : Bytes) : (encN n).given (en w) = decide (w ∈ n.names) := by
  unfold PN.given
  rw [gn_enc]
  have h1 := mem_en f.ins w
  have h2 := mem_en f.gts w
  show (decide (en w ∈ n.ins.map en) || decide (en w ∈ (n.gates.map fun g => g.name).map en)) = _
  unfold Net.names
  rw [Bool.eq_iff_iff]
  simp only [Bool.or_eq_true, decide_eq_true_eq, List.mem_append, h1, h2]
theorem fresh_enc {n : Net} (f : Fine n) (w : Bytes) : (encN n).fresh (en w) = true ↔ isName w = true ∧ w ∉ n.names := by
  unfold PN.fresh
  rw [pname_en, given_enc f]
  simp
theorem pIn_enc {n : Net} (f : Fine n) (w : Bytes) : pIn (encN n) (en w) = (rawIn n w).map encN := by
  unfold pIn rawIn
  by_cases h : isName w = true ∧ w ∉ n.names
  · rw [if_pos ((fresh_enc f w).mpr h), if_pos h]
    simp [encN]
  · rw [if_neg (fun z => h ((fresh_enc f w).mp z)), if_neg h]
    rfl
theorem pIns_enc : ∀ {r : List Bytes} {n : Net}, Fine n → (r.map en).foldlM pIn (encN n) = (r.foldlM rawIn n).map encN
  | [], n, _ => rfl
  | w :: r, n, f => by
    rw [List.map_cons, List.foldlM_cons, List.foldlM_cons, pIn_enc f]
    cases q : rawIn n w with
    | none => rfl
    | some k => exact pIns_enc (rawIn_fine f q)
theorem pGate_enc {n : Net} (f : Fine n) (w e k : Bytes) (a : List Bytes) :
    pGate (encN n) (en w) (en e) (en k) (a.map en) = (if e = [61] then ((kindOf k).bind fun x => if a.length = x.2 ∧ (isName w = true ∧ w ∉ n.names) then some { n with gates := n.gates ++ [⟨w, x.1, a⟩] } else none) else none).map encN := by
  unfold pGate
  by_cases he : e = [61]
  · rw [if_pos ((en_eq e).mpr he), if_pos he, kc_en]
    cases q : kindOf k with
    | none => rfl
    | some x =>
      simp only [Option.map_some, Option.bind_some, List.length_map]
      by_cases h : a.length = x.2 ∧ (isName w = true ∧ w ∉ n.names)
      · rw [if_pos ⟨h.1, (fresh_enc f w).mpr h.2⟩, if_pos h]
        simp [encN, encG, kw_en q]
      · rw [if_neg (fun z => h ⟨z.1, (fresh_enc f w).mp z.2⟩), if_neg h]
        rfl
  · rw [if_neg (fun z => he ((en_eq e).mp z)), if_neg he]
    rfl
theorem pLine_enc {n : Net} (f : Fine n) (l : List Bytes) : pLine (encN n) (l.map en) = (rawLine n l).map encN := by
  cases l with
  | nil => rfl
  | cons w r =>
    unfold pLine rawLine
    simp only [List.map_cons, en_in, en_out, List.map_eq_nil_iff]
    by_cases h1 : w = txt "in"
    · simp only [if_pos h1]
      by_cases h2 : r = []
      · simp only [if_pos h2]; rfl
      · simp only [if_neg h2]
        exact pIns_enc f
    · simp only [if_neg h1]
      by_cases h3 : w = txt "out"
      · simp only [if_pos h3]
        by_cases h2 : r = []
        · simp only [if_pos h2]; rfl
        · simp only [if_neg h2]
          simp [encN]
      · simp only [if_neg h3]
        match r with
        | [] => rfl
        | [e] =>
          show (none : Option PN) = _
          split
          · rename_i heq
            simp at heq
          · rfl
        | e :: k :: a =>
          have key := pGate_enc f w e k a
          by_cases he : e = [61]
          · subst he
            rw [if_pos rfl] at key
            exact key
          · rw [if_neg he] at key
            show pGate (encN n) (en w) (en e) (en k) (a.map en) = _
            rw [key]
            split
            · rename_i heq
              injection heq with h1 h2
              exact absurd h1 he
            · rfl
theorem parse_enc : ∀ {L : List (List Bytes)} {n : Net}, Fine n → (L.map fun l => l.map en).foldlM pLine (encN n) = (L.foldlM rawLine n).map encN
  | [], n, _ => rfl
  | l :: L, n, f => by
    rw [List.map_cons, List.foldlM_cons, List.foldlM_cons, pLine_enc f]
    cases q : rawLine n l with
    | none => rfl
    | some k => exact parse_enc (rawLine_fine f q)
/-! ### sizes -/
def PN.sz (p : PN) : Nat := p.ins.length + p.outs.length + p.gates.length
theorem pIns_sz : ∀ {r : List Str} {p q : PN}, r.foldlM pIn p = some q → q.sz = p.sz + r.length
  | [], p, q, e => by cases e; rfl
  | w :: r, p, q, e => by
    rw [List.foldlM_cons] at e
    unfold pIn at e
    split at e
    · have := pIns_sz (p := { p with ins := p.ins ++ [w] }) e
      unfold PN.sz at this ⊢
      simp only [List.length_append, List.length_cons, List.length_nil] at this ⊢
      omega
    · cases e
theorem pLine_sz {p q : PN} {ws : List Str} (e : pLine p ws = some q) : q.sz ≤ p.sz + ws.length := by
  unfold pLine at e
  split at e
  · cases e; simp
  · rename_i w r
    split at e
    · split at e
      · cases e
      · have := pIns_sz e
        rw [List.length_cons]
        omega
    · split at e
      · split at e
        · cases e
        · cases e
          unfold PN.sz
          simp only [List.length_append, List.length_cons]
          omega
      · split at e
        · unfold pGate at e
          split at e
          · split at e
            · split at e
              · cases e
                unfold PN.sz
                simp only [List.length_append, List.length_cons, List.length_nil]
                omega
              · cases e
            · cases e
          · cases e
        · cases e
/-! ### the checks -/
def PSmall (p : PN) : Prop := p.ins.length ≤ 64 ∧ p.outs.length ≤ 64 ∧ p.ins.length + p.gates.length ≤ 1024
def PKnown (p : PN) : Prop := (∀ w ∈ p.outs, p.given w = true) ∧ ∀ g ∈ p.gates, ∀ w ∈ g.src, p.given w = true
theorem small_enc (n : Net) : PSmall (encN n) ↔ Small n := by
  unfold PSmall encN
  simp only [List.length_map]
  have h : n.names.length = n.ins.length + n.gates.length := by simp [Net.names]
  constructor
  · rintro ⟨a, b, c⟩
    exact ⟨a, b, by omega⟩
  · rintro ⟨a, b, c⟩
    exact ⟨a, b, by omega⟩
theorem known_enc {n : Net} (f : Fine n) : PKnown (encN n) ↔ Known n := by
  constructor
  · rintro ⟨h1, h2⟩
    refine ⟨fun w hw => ?_, fun g hg w hw => ?_⟩
    · have := h1 (en w) (List.mem_map.mpr ⟨w, hw, rfl⟩)
      rw [given_enc f] at this
      exact of_decide_eq_true this
    · have := h2 (encG g) (List.mem_map.mpr ⟨g, hg, rfl⟩) (en w) (List.mem_map.mpr ⟨w, hw, rfl⟩)
      rw [given_enc f] at this
      exact of_decide_eq_true this
  · rintro ⟨h1, h2⟩
    refine ⟨fun w hw => ?_, fun g hg w hw => ?_⟩
    · obtain ⟨v, hv, rfl⟩ := List.mem_map.mp hw
      rw [given_enc f]
      exact decide_eq_true (h1 v hv)
    · obtain ⟨x, hx, rfl⟩ := List.mem_map.mp hg
      obtain ⟨v, hv, rfl⟩ := List.mem_map.mp hw
      rw [given_enc f]
      exact decide_eq_true (h2 x hx v hv)
/-! ### what a gate awaits -/
def PG.now (g : PG) : List Str := if isRegS g.kind = true then [] else g.src
def PN.aw (p : PN) (z : Str) : List Str := match p.gates.find? fun g => decide (g.name = z) with
  | some g => g.now.filter fun s => decide (s ∈ p.gn)
  | none => []
theorem aw_sub (p : PN) (z s : Str) (h : s ∈ p.aw z) : s ∈ p.gn := by
  unfold PN.aw at h
  split at h
  · exact of_decide_eq_true (List.mem_filter.mp h).2
  · cases h
theorem find_enc {n : Net} (f : Fine n) (w : Bytes) : ((encN n).gates.find? fun g => decide (g.name = en w)) = (n.gate w).map encG := by
  show (n.gates.map encG).find? _ = _
  unfold Net.gate
  rw [List.find?_map]
  congr 1
  have key : ∀ (l : List Gate), (∀ g ∈ l, isName g.name = true) → l.find? ((fun g : PG => decide (g.name = en w)) ∘ encG) = l.find? fun g => g.name == w := by
    intro l
    induction l with
    | nil => intro _; rfl
    | cons g l ih =>
      intro h
      have e : ((fun g : PG => decide (g.name = en w)) ∘ encG) g = (g.name == w) := by
        show decide (en g.name = en w) = (g.name == w)
        have := en_inj' (w := w) (h g List.mem_cons_self)
        rw [Bool.eq_iff_iff]
        simp only [decide_eq_true_eq, beq_iff_eq]
        rw [eq_comm, this, eq_comm]
      rw [List.find?_cons, List.find?_cons, e, ih fun x hx => h x (List.mem_cons_of_mem _ hx)]
  exact key n.gates fun g hg => f.gts g.name (List.mem_map.mpr ⟨g, hg, rfl⟩)
theorem aw_enc {n : Net} (f : Fine n) (w : Bytes) : (encN n).aw (en w) = ((n.takes w).filter fun s => decide (s ∈ n.gates.map fun g => g.name)).map en := by
  unfold PN.aw Net.takes
  rw [find_enc f]
  cases n.gate w with
  | none => rfl
  | some g =>
    show (encG g).now.filter _ = _
    unfold PG.now
    rw [show (encG g).kind = kw g.kind from rfl, isReg_kw]
    by_cases hr : g.kind.isReg = true
    · simp [hr]
    · simp only [if_neg hr]
      show (g.from_.map en).filter _ = _
      rw [List.filter_map]
      congr 1
      congr 1
      funext s
      show decide (en s ∈ (encN n).gn) = _
      rw [gn_enc]
      simp only [mem_en f.gts s]
theorem gate_of_take {n : Net} {w s : Bytes} (h : s ∈ n.takes w) : w ∈ n.gates.map fun g => g.name := by
  unfold Net.takes at h
  split at h
  · rename_i g hg
    unfold Net.gate at hg
    have h1 := List.mem_of_find?_eq_some hg
    have h2 := List.find?_some hg
    exact List.mem_map.mpr ⟨g, h1, eq_of_beq h2⟩
  · cases h
theorem rank_of {n : Net} (f : Fine n) (h : Ranked (encN n).gn (encN n).aw) : Rank n := by
  obtain ⟨r, hb, hr⟩ := h
  have hgl : (encN n).gn.length = n.gates.length := by rw [gn_enc]; simp
  have hnl : n.names.length = n.ins.length + n.gates.length := by simp [Net.names]
  have hin : ∀ g, g ∈ n.gates.map (fun g => g.name) → en g ∈ (encN n).gn := fun g hg => by rw [gn_enc]; exact List.mem_map.mpr ⟨g, hg, rfl⟩
  refine ⟨fun w => if w ∈ n.gates.map (fun g => g.name) then r (en w) + 1 else 0, fun g hg => ?_, fun g hg s hs => ?_⟩
  · show (if g ∈ n.gates.map (fun g => g.name) then r (en g) + 1 else 0) ≤ _
    split
    · rename_i hm
      have := hb (en g) (hin g hm)
      omega
    · omega
  · have hm := gate_of_take hs
    show (if s ∈ n.gates.map (fun g => g.name) then r (en s) + 1 else 0) < (if g ∈ n.gates.map (fun g => g.name) then r (en g) + 1 else 0)
    rw [if_pos hm]
    split
    · rename_i hsm
      have := hr (en g) (hin g hm) (en s) (by
        rw [aw_enc f]
        exact List.mem_map.mpr ⟨s, List.mem_filter.mpr ⟨hs, decide_eq_true hsm⟩, rfl⟩)
      omega
    · omega
theorem ranked_of {n : Net} (f : Fine n) (h : Rank n) : ∃ r : Str → Nat, ∀ g ∈ (encN n).gn, ∀ s ∈ (encN n).aw g, r s < r g := by
  obtain ⟨r, _, hr⟩ := h
  refine ⟨fun z => r (de z), fun g hg s hs => ?_⟩
  rw [gn_enc] at hg
  obtain ⟨w, hw, rfl⟩ := List.mem_map.mp hg
  rw [aw_enc f] at hs
  obtain ⟨v, hv, rfl⟩ := List.mem_map.mp hs
  obtain ⟨hv1, hv2⟩ := List.mem_filter.mp hv
  show r (de (en v)) < r (de (en w))
  rw [de_en (f.gts v (of_decide_eq_true hv2)), de_en (f.gts w hw)]
  exact hr w (List.mem_append_right _ hw) v hv1
theorem gn_nodup {n : Net} (f : Fine n) : (encN n).gn.Nodup := by
  rw [gn_enc]
  have h : (n.gates.map fun g => g.name).Nodup := (List.nodup_append.mp f.nd).2.1
  have key : ∀ l : List Bytes, (∀ v ∈ l, isName v = true) → l.Nodup → (l.map en).Nodup := by
    intro l
    induction l with
    | nil => intro _ _; exact List.nodup_nil
    | cons a l ih =>
      intro ho hn
      rw [List.map_cons, List.nodup_cons]
      have hn' := List.nodup_cons.mp hn
      have ho' := fun v hv => ho v (List.mem_cons_of_mem _ hv)
      exact ⟨fun hm => hn'.1 ((mem_en ho' a).mp hm), ih ho' hn'.2⟩
  exact key _ f.gts h
/-- where the program's order is whole there is no circle, and back -/
theorem order_iff {n : Net} (f : Fine n) {order : List Str} {w : Str → Nat} (k : KInv (encN n).gn (encN n).aw order [] w []) : ¬ order.length < (encN n).gn.length ↔ Rank n := by
  constructor
  · exact fun h => rank_of f (k.ranked h)
  · intro h
    obtain ⟨r, hr⟩ := ranked_of f h
    exact k.complete (gn_nodup f) (fun g _ s hs => aw_sub _ g s hs) r hr
end GN
namespace GN
open Sf33
/-! ### a table filled place by place -/
section
variable {β : Type}
def sweep (F : Nat → (Nat → β) → β) (d : β) (row : List Nat) (a : Array β) : Array β := row.foldl (fun v i => v.modify i fun _ => F i fun j => v.getD j d) a
theorem getD_modify (v : Array β) (i j : Nat) (x d : β) : (v.modify i fun _ => x).getD j d = if i = j ∧ i < v.size then x else v.getD j d := by
  rw [Array.getD_eq_getD_getElem?, Array.getD_eq_getD_getElem?, Array.getElem?_modify]
  by_cases h : i = j
  · subst h
    by_cases hs : i < v.size
    · rw [if_pos rfl, if_pos ⟨rfl, hs⟩, Array.getElem?_eq_getElem hs]
      rfl
    · rw [if_pos rfl, if_neg (fun z => hs z.2), Array.getElem?_eq_none (by omega)]
      rfl
  · rw [if_neg h, if_neg (fun z => h z.1)]
theorem sweep_size (F : Nat → (Nat → β) → β) (d : β) : ∀ (row : List Nat) (a : Array β), (sweep F d row a).size = a.size
  | [], _ => rfl
  | i :: row, a => by
    show (sweep F d row (a.modify i _)).size = a.size
    rw [sweep_size F d row, Array.size_modify]
theorem sweep_out (F : Nat → (Nat → β) → β) (d : β) : ∀ (row : List Nat) (a : Array β) (j : Nat), j ∉ row → (sweep F d row a).getD j d = a.getD j d
  | [], _, _, _ => rfl
  | i :: row, a, j, h => by
    show (sweep F d row (a.modify i _)).getD j d = a.getD j d
    rw [sweep_out F d row _ j (fun z => h (List.mem_cons_of_mem _ z)), getD_modify, if_neg]
    exact fun z => h (by rw [z.1]; exact List.mem_cons_self)
theorem sweep_append (F : Nat → (Nat → β) → β) (d : β) (p q : List Nat) (a : Array β) : sweep F d (p ++ q) a = sweep F d q (sweep F d p a) := List.foldl_append
/-- what a place asks stands ahead of it: so in the end each place has what it should -/
theorem sweep_fix {F : Nat → (Nat → β) → β} {d : β} {row : List Nat} {a : Array β} (hn : row.Nodup) (hs : ∀ i ∈ row, i < a.size)
    (hF : ∀ pre i post, row = pre ++ i :: post → ∀ f g : Nat → β, (∀ j ∈ pre, f j = g j) → F i f = F i g) :
    ∀ i ∈ row, (sweep F d row a).getD i d = F i fun j => (sweep F d row a).getD j d := by
  intro i hi
  obtain ⟨pre, post, e⟩ := List.append_of_mem hi
  have hn' := hn
  rw [e, List.nodup_append, List.nodup_cons] at hn'
  have hpost : i ∉ post := hn'.2.1.1
  have hsz : i < (sweep F d pre a).size := by rw [sweep_size]; exact hs i hi
  have e1 : sweep F d row a = sweep F d post ((sweep F d pre a).modify i fun _ => F i fun j => (sweep F d pre a).getD j d) := by
    rw [e, sweep_append]
    rfl
  have e2 : (sweep F d row a).getD i d = F i fun j => (sweep F d pre a).getD j d := by
    rw [e1, sweep_out _ _ _ _ _ hpost, getD_modify, if_pos ⟨rfl, hsz⟩]
  rw [e2]
  refine hF pre i post e _ _ fun j hj => ?_
  have hjp : j ∉ post := fun z => hn'.2.2 j hj j (List.mem_cons_of_mem _ z) rfl
  have hji : ¬ (i = j ∧ i < (sweep F d pre a).size) := fun z => hn'.2.2 j hj i List.mem_cons_self z.1.symm
  rw [e1, sweep_out _ _ _ _ _ hjp, getD_modify, if_neg hji]
end
/-! ### the row of a network -/
structure Right (n : Net) : Prop where
  nd : n.names.Nodup
  known : Known n
  far : ∀ i, i < n.names.length → tab n.links (n.names.length + 1) i ≤ n.names.length
theorem right_of {n : Net} (h : n.right = true) : Right n := by
  obtain ⟨h1, _, h3, h4⟩ := (right_iff n).mp h
  refine ⟨h1, h3, ?_⟩
  have := (far_iff n (takes_known h3)).mpr h4
  unfold Net.far at this
  rw [all_tab] at this
  intro i hi
  exact this i (by simpa [Net.links] using hi)
theorem network_right {k : Int} {b : Bytes} {n : Net} (h : network k b = some n) : n.right = true := by
  unfold network at h
  split at h
  · obtain ⟨m, _, e⟩ := Option.bind_eq_some_iff.mp h
    split at e
    · rename_i r
      cases e
      exact r
    · cases e
  · cases h
theorem place_at {n : Net} (r : Right n) {i : Nat} (hi : i < n.names.length) : n.place (n.names.getD i []) = i := by
  have hm : n.names.getD i [] ∈ n.names := by
    rw [List.getD_eq_getElem?_getD, List.getElem?_eq_getElem hi]
    exact List.getElem_mem hi
  have h1 := place_get hm
  have h2 := place_lt hm
  have e : n.names.getD i [] = n.names[i] := by
    rw [List.getD_eq_getElem?_getD, List.getElem?_eq_getElem hi]
    rfl
  generalize n.place (n.names.getD i []) = j at h1 h2
  rw [e, List.getD_eq_getElem?_getD, List.getElem?_eq_getElem h2] at h1
  exact (List.getElem_inj r.nd).mp h1
/-- how far a place's chains go -/
def Net.lvl (n : Net) (i : Nat) : Nat := tab n.links (n.names.length + 1) i
theorem lvl_lt {n : Net} (r : Right n) {g s : Bytes} (hg : g ∈ n.names) (hs : s ∈ n.takes g) : Net.lvl n (n.place s) < Net.lvl n (n.place g) := by
  have hk := takes_known r.known
  have hp := place_lt hg
  have hl := links_get n _ hp
  rw [place_get hg] at hl
  have hm : n.place s ∈ n.links.getD (n.place g) [] := by
    rw [hl]
    exact List.mem_map.mpr ⟨s, hs, rfl⟩
  have h1 := mx_ge (tab n.links n.names.length) _ 0 _ hm
  have h2 := r.far _ (place_lt (hk g hg s hs))
  have h3 := tab_mono n.links n.names.length (n.place s)
  have h4 := tab_new n.links n.names.length (n.place s)
  unfold Net.lvl
  rw [tab_succ n.links n.names.length (n.place g)]
  omega
theorem row_eq (n : Net) : n.ready.row = (List.range (n.names.length + 1)).flatMap fun d => (List.range n.names.length).filter fun i => Net.lvl n i == d := rfl
theorem row_mem {n : Net} (r : Right n) (i : Nat) : i ∈ n.ready.row ↔ i < n.names.length := by
  rw [row_eq, List.mem_flatMap]
  constructor
  · rintro ⟨d, _, h⟩
    exact List.mem_range.mp (List.mem_filter.mp h).1
  · intro h
    exact ⟨Net.lvl n i, List.mem_range.mpr (Nat.lt_succ_of_le (r.far i h)), List.mem_filter.mpr ⟨List.mem_range.mpr h, by simp⟩⟩
theorem row_sorted (n : Net) : n.ready.row.Pairwise fun a b => a ≠ b ∧ Net.lvl n a ≤ Net.lvl n b := by
  rw [row_eq, List.pairwise_flatMap]
  refine ⟨fun d _ => ?_, ?_⟩
  · have h : ((List.range n.names.length).filter fun i => Net.lvl n i == d).Pairwise fun a b => a ≠ b := List.Pairwise.filter _ List.nodup_range
    refine h.imp_of_mem fun {a b} ha hb hab => ⟨hab, ?_⟩
    have h1 := eq_of_beq (List.mem_filter.mp ha).2
    have h2 := eq_of_beq (List.mem_filter.mp hb).2
    omega
  · refine List.pairwise_lt_range.imp fun {d e} hde x hx y hy => ?_
    have h1 := eq_of_beq (List.mem_filter.mp hx).2
    have h2 := eq_of_beq (List.mem_filter.mp hy).2
    refine ⟨fun z => ?_, by omega⟩
    rw [z] at h1
    omega
theorem row_nodup (n : Net) : n.ready.row.Nodup := (row_sorted n).imp fun h => h.1
theorem row_ahead {n : Net} (r : Right n) {pre post : List Nat} {i j : Nat} (e : n.ready.row = pre ++ i :: post) (hj : j < n.names.length) (hl : Net.lvl n j < Net.lvl n i) : j ∈ pre := by
  have hm : j ∈ n.ready.row := (row_mem r j).mpr hj
  have hs := row_sorted n
  rw [e] at hm hs
  rcases List.mem_append.mp hm with h | h
  · exact h
  · rcases List.mem_cons.mp h with h | h
    · subst h
      omega
    · have := ((List.pairwise_cons.mp (List.pairwise_append.mp hs).2.1).1 j h).2
      omega
/-! ### what a place asks -/
def asks (k : Is) : List Nat := match k with
  | .gate _ l => l
  | _ => []
theorem is_at (n : Net) (i : Nat) (hi : i < n.names.length) : n.ready.is_.getD i (.gate .zero []) = n.is_ (n.names.getD i []) := by
  show ((n.names.map n.is_).toArray).getD i _ = _
  rw [Array.getD_eq_getD_getElem?, List.getElem?_toArray, List.getElem?_map, List.getD_eq_getElem?_getD, List.getElem?_eq_getElem hi]
  rfl
theorem regs_find {n : Net} {g : Gate} (hg : g ∈ n.gates) (hr : g.kind.isReg = true) : ∃ i, (n.regs.findIdx? fun r => r.name == g.name) = some i := by
  have hm : g ∈ n.regs := List.mem_filter.mpr ⟨hg, hr⟩
  cases e : n.regs.findIdx? fun r => r.name == g.name with
  | some i => exact ⟨i, rfl⟩
  | none =>
    have := List.findIdx?_eq_none_iff.mp e g hm
    simp at this
theorem gate_name {n : Net} {w : Bytes} {g : Gate} (h : n.gate w = some g) : g.name = w := by
  unfold Net.gate at h
  have := List.find?_some h
  exact eq_of_beq this
/-- what a name asks are the places of those that it takes in the same beat -/
theorem asks_is {n : Net} (w : Bytes) (j : Nat) (h : j ∈ asks (n.is_ w)) : ∃ s ∈ n.takes w, j = n.place s := by
  unfold Net.is_ at h
  split at h
  · cases h
  · split at h
    · cases h
    · rename_i g hg
      split at h
      · cases h
      · rename_i hn
        obtain ⟨s, hs, e⟩ := List.mem_map.mp (show j ∈ g.from_.map n.place from h)
        refine ⟨s, ?_, e.symm⟩
        unfold Net.takes
        rw [hg]
        have hgm : g ∈ n.gates := List.mem_of_find?_eq_some hg
        have hgn : g.name = w := gate_name hg
        by_cases hr : g.kind.isReg = true
        · obtain ⟨i, hi⟩ := regs_find hgm hr
          rw [hgn, hn] at hi
          cases hi
        · show s ∈ (if g.kind.isReg = true then [] else g.from_)
          rw [if_neg hr]
          exact hs
/-- **the table of a network** is as each place asks -/
theorem net_fix {β : Type} {n : Net} (r : Right n) (F : Is → (Nat → β) → β) (hF : ∀ k f g, (∀ j ∈ asks k, f j = g j) → F k f = F k g) (d : β) (a : Array β) (ha : a.size = n.names.length) (i : Nat) (hi : i < n.names.length) :
    (sweep (fun i f => F (n.ready.is_.getD i (.gate .zero [])) f) d n.ready.row a).getD i d =
      F (n.is_ (n.names.getD i [])) fun j => (sweep (fun i f => F (n.ready.is_.getD i (.gate .zero [])) f) d n.ready.row a).getD j d := by
  rw [← is_at n i hi]
  refine sweep_fix (F := fun i f => F (n.ready.is_.getD i (.gate .zero [])) f) (row_nodup n) (fun k hk => by rw [ha]; exact (row_mem r k).mp hk) ?_ i ((row_mem r i).mpr hi)
  intro pre k post e f g hfg
  have hk : k < n.names.length := (row_mem r k).mp (by rw [e]; exact List.mem_append_right _ List.mem_cons_self)
  refine hF _ _ _ fun j hj => hfg j ?_
  rw [is_at n k hk] at hj
  obtain ⟨s, hs, rfl⟩ := asks_is _ _ hj
  have hm : n.names.getD k [] ∈ n.names := by
    rw [List.getD_eq_getElem?_getD, List.getElem?_eq_getElem hk]
    exact List.getElem_mem hk
  have hl := lvl_lt r hm hs
  rw [place_at r hk] at hl
  exact row_ahead r e (place_lt (takes_known r.known _ hm s hs)) hl
end GN
namespace GN
open Sf33
/-! ### what a name is -/
theorem names_split {n : Net} {w : Bytes} (h : w ∈ n.names) : (∃ j : Nat, n.ins[j]? = some w) ∨ ∃ g ∈ n.gates, g.name = w := by
  rcases List.mem_append.mp h with h | h
  · exact .inl (List.getElem?_of_mem h)
  · obtain ⟨g, hg, e⟩ := List.mem_map.mp h
    exact .inr ⟨g, hg, e⟩
theorem Right.ins_nd {n : Net} (r : Right n) : n.ins.Nodup := (List.nodup_append.mp r.nd).1
theorem Right.gts_nd {n : Net} (r : Right n) : (n.gates.map fun g => g.name).Nodup := (List.nodup_append.mp r.nd).2.1
theorem Right.apart {n : Net} (r : Right n) {g : Gate} (hg : g ∈ n.gates) : g.name ∉ n.ins := fun h => (List.nodup_append.mp r.nd).2.2 g.name h g.name (List.mem_map.mpr ⟨g, hg, rfl⟩) rfl
theorem in_find {l : List Bytes} (hn : l.Nodup) {j : Nat} {w : Bytes} (h : l[j]? = some w) : (l.findIdx? fun y => y == w) = some j := by
  obtain ⟨hj, e⟩ := List.getElem?_eq_some_iff.mp h
  rw [List.findIdx?_eq_some_iff_getElem]
  refine ⟨hj, by rw [e]; exact beq_self_eq_true w, fun k hk => ?_⟩
  intro hb
  have e2 : l[k]'(by omega) = w := eq_of_beq hb
  have := (List.getElem_inj hn).mp (e2.trans e.symm)
  omega
theorem gate_eq_of {l : List Gate} (hn : (l.map fun g => g.name).Nodup) {g k : Gate} (hg : g ∈ l) (hk : k ∈ l) (e : g.name = k.name) : g = k := by
  obtain ⟨i, hi, rfl⟩ := List.getElem_of_mem hg
  obtain ⟨j, hj, rfl⟩ := List.getElem_of_mem hk
  have h : i = j := (List.getElem_inj (xs := l.map fun g => g.name) (h₀ := by simpa using hi) (h₁ := by simpa using hj) hn).mp (by simpa using e)
  subst h
  rfl
theorem gate_find {n : Net} (r : Right n) {g : Gate} (hg : g ∈ n.gates) : n.gate g.name = some g := by
  unfold Net.gate
  cases e : n.gates.find? fun k => k.name == g.name with
  | none =>
    have := List.find?_eq_none.mp e g hg
    simp at this
  | some k =>
    have h1 := List.mem_of_find?_eq_some e
    have h2 : k.name = g.name := eq_of_beq (List.find?_some (p := fun k : Gate => k.name == g.name) e)
    rw [gate_eq_of r.gts_nd h1 hg h2]
theorem ins_none {n : Net} (r : Right n) {g : Gate} (hg : g ∈ n.gates) : (n.ins.findIdx? fun y => y == g.name) = none := by
  rw [List.findIdx?_eq_none_iff]
  intro x hx
  have : x ≠ g.name := fun e => r.apart hg (e ▸ hx)
  simpa using this
theorem is_in {n : Net} (r : Right n) {j : Nat} {w : Bytes} (h : n.ins[j]? = some w) : n.is_ w = .input j := by
  unfold Net.is_
  rw [in_find r.ins_nd h]
theorem regs_sub {n : Net} {g : Gate} (h : g ∈ n.regs) : g ∈ n.gates ∧ g.kind.isReg = true := List.mem_filter.mp h
theorem regs_nd {n : Net} (r : Right n) : (n.regs.map fun g => g.name).Nodup := List.Nodup.sublist (List.Sublist.map _ List.filter_sublist) r.gts_nd
theorem is_reg {n : Net} (r : Right n) {i : Nat} {g : Gate} (h : n.regs[i]? = some g) : n.is_ g.name = .reg i := by
  have hm := regs_sub (List.mem_of_getElem? h)
  unfold Net.is_
  rw [ins_none r hm.1, gate_find r hm.1]
  have hf : (n.regs.findIdx? fun k => k.name == g.name) = some i := by
    obtain ⟨hi, e⟩ := List.getElem?_eq_some_iff.mp h
    rw [List.findIdx?_eq_some_iff_getElem]
    refine ⟨hi, by rw [e]; exact beq_self_eq_true _, fun k hk hb => ?_⟩
    have hk' : k < n.regs.length := by omega
    have e1 : n.regs[k].name = g.name := eq_of_beq hb
    have e2 := gate_eq_of (regs_nd r) (List.getElem_mem hk') (List.getElem_mem hi) (by rw [e1, e])
    have := (List.getElem_inj (xs := n.regs.map fun g => g.name) (h₀ := by simpa using hk') (h₁ := by simpa using hi) (regs_nd r)).mp (by simp [e2])
    omega
  simp only [hf]
theorem is_gate {n : Net} (r : Right n) {g : Gate} (hg : g ∈ n.gates) (hr : g.kind.isReg = false) : n.is_ g.name = .gate g.kind (g.from_.map n.place) := by
  unfold Net.is_
  rw [ins_none r hg, gate_find r hg]
  have hf : (n.regs.findIdx? fun k => k.name == g.name) = none := by
    rw [List.findIdx?_eq_none_iff]
    intro k hk
    have hm := regs_sub hk
    have : k.name ≠ g.name := fun e => by
      have := gate_eq_of r.gts_nd hm.1 hg e
      rw [← this, hm.2] at hr
      cases hr
    simpa using this
  simp only [hf]
/-! ### a beat -/
def evB (s : Array Bool) (x : Nat) (k : Is) (f : Nat → Bool) : Bool := match k with
  | .input j => x.testBit j
  | .reg j => s.getD j false
  | .gate k l => k.run (l.map f)
theorem evB_congr (s : Array Bool) (x : Nat) (k : Is) (f g : Nat → Bool) (h : ∀ j ∈ asks k, f j = g j) : evB s x k f = evB s x k g := by
  cases k with
  | input j => rfl
  | reg j => rfl
  | gate k l =>
    show k.run (l.map f) = k.run (l.map g)
    have e : l.map f = l.map g := List.map_congr_left fun j hj => h j hj
    rw [e]
theorem values_sweep (n : Net) (s : Array Bool) (x : Nat) : n.ready.values s x = sweep (fun i f => evB s x (n.ready.is_.getD i (.gate .zero [])) f) false n.ready.row (n.ready.is_.map fun _ => false) := rfl
theorem is_size (n : Net) : n.ready.is_.size = n.names.length := by
  show ((n.names.map n.is_).toArray).size = _
  simp
theorem at_fix {n : Net} (r : Right n) (s : State) (x : Nat) {w : Bytes} (hw : w ∈ n.names) : n.at_ s x w = evB s.toArray x (n.is_ w) fun j => (n.ready.values s.toArray x).getD j false := by
  have h := net_fix r (evB s.toArray x) (evB_congr s.toArray x) false (n.ready.is_.map fun _ => false) (by rw [Array.size_map, is_size]) (n.place w) (place_lt hw)
  rw [← values_sweep, place_get hw] at h
  exact h
theorem at_in {n : Net} (r : Right n) (s : State) (x : Nat) {j : Nat} {w : Bytes} (h : n.ins[j]? = some w) : n.at_ s x w = x.testBit j := by
  rw [at_fix r s x (List.mem_append_left _ (List.mem_of_getElem? h)), is_in r h]
  rfl
theorem at_reg {n : Net} (r : Right n) (s : State) (x : Nat) {i : Nat} {g : Gate} (h : n.regs[i]? = some g) : n.at_ s x g.name = s.getD i false := by
  have hm := regs_sub (List.mem_of_getElem? h)
  rw [at_fix r s x (List.mem_append_right _ (List.mem_map.mpr ⟨g, hm.1, rfl⟩)), is_reg r h]
  show s.toArray.getD i false = _
  rw [Array.getD_eq_getD_getElem?, List.getElem?_toArray, List.getD_eq_getElem?_getD]
theorem at_gate {n : Net} (r : Right n) (s : State) (x : Nat) {g : Gate} (hg : g ∈ n.gates) (hr : g.kind.isReg = false) : n.at_ s x g.name = g.kind.run (g.from_.map (n.at_ s x)) := by
  rw [at_fix r s x (List.mem_append_right _ (List.mem_map.mpr ⟨g, hg, rfl⟩)), is_gate r hg hr]
  show g.kind.run ((g.from_.map n.place).map _) = _
  rw [List.map_map]
  rfl
theorem takes_gate {n : Net} (r : Right n) {g : Gate} (hg : g ∈ n.gates) (hr : g.kind.isReg = false) : n.takes g.name = g.from_ := by
  unfold Net.takes
  rw [gate_find r hg]
  show (if g.kind.isReg = true then [] else g.from_) = g.from_
  rw [hr]
  rfl
/-- to go from those that a name takes to it -/
theorem by_level {n : Net} (r : Right n) {C : Bytes → Prop} (hin : ∀ (j : Nat) (w : Bytes), n.ins[j]? = some w → C w) (hreg : ∀ (i : Nat) (g : Gate), n.regs[i]? = some g → C g.name)
    (hg : ∀ g ∈ n.gates, g.kind.isReg = false → (∀ s ∈ g.from_, C s) → C g.name) : ∀ w ∈ n.names, C w := by
  have key : ∀ m w, w ∈ n.names → Net.lvl n (n.place w) < m → C w := by
    intro m
    induction m with
    | zero => intro w _ h; omega
    | succ m ih =>
      intro w hw hm
      rcases names_split hw with ⟨j, hj⟩ | ⟨g, hgm, rfl⟩
      · exact hin j w hj
      · cases hr : g.kind.isReg with
        | true =>
          obtain ⟨i, hi⟩ := List.getElem?_of_mem (List.mem_filter.mpr ⟨hgm, hr⟩ : g ∈ n.regs)
          exact hreg i g hi
        | false =>
          refine hg g hgm hr fun s hs => ih s (r.known.from_ g hgm s hs) ?_
          have := lvl_lt r hw (by rw [takes_gate r hgm hr]; exact hs)
          omega
  exact fun w hw => key _ w hw (Nat.lt_succ_self _)
/-- what fits is what the specification has -/
theorem at_unique {n : Net} (r : Right n) (s : State) (x : Nat) (h : Bytes → Bool) (hin : ∀ (j : Nat) (w : Bytes), n.ins[j]? = some w → h w = x.testBit j) (hreg : ∀ (i : Nat) (g : Gate), n.regs[i]? = some g → h g.name = s.getD i false)
    (hg : ∀ g ∈ n.gates, g.kind.isReg = false → h g.name = g.kind.run (g.from_.map h)) : ∀ w ∈ n.names, h w = n.at_ s x w := by
  refine by_level r (fun j w hj => ?_) (fun i g hi => ?_) fun g hgm hr ih => ?_
  · rw [hin j w hj, at_in r s x hj]
  · rw [hreg i g hi, at_reg r s x hi]
  · rw [hg g hgm hr, at_gate r s x hgm hr, List.map_congr_left fun w hw => ih w hw]
/-- a beat's outputs, and what the registers have then -/
theorem out_at (n : Net) (s : State) (x : Nat) : n.ready.out (n.ready.values s.toArray x) = bits (n.outs.map (n.at_ s x)) := by
  show bits ((n.outs.map n.place).map _) = _
  rw [List.map_map]
  rfl
theorem next_at (n : Net) (s : State) (x : Nat) : n.ready.next (n.ready.values s.toArray x) = n.regs.map fun g => n.at_ s x (g.from_.headD []) := by
  show (n.regs.map fun g => n.place (g.from_.headD [])).map _ = _
  rw [List.map_map]
  rfl
theorem run_cons (n : Net) (s : State) (x : Nat) (l : List Nat) : n.run s (x :: l) = bits (n.outs.map (n.at_ s x)) :: n.run (n.regs.map fun g => n.at_ s x (g.from_.headD [])) l := by
  rw [← out_at, ← next_at]
  rfl
theorem run_nil (n : Net) (s : State) : n.run s [] = [] := rfl
theorem first_at (n : Net) (i : Nat) (g : Gate) (h : n.regs[i]? = some g) : n.first.getD i false = (g.kind == .reg true) := by
  unfold Net.first
  rw [List.getD_eq_getElem?_getD, List.getElem?_map, h]
  rfl
/-! ### depth -/
def evD (k : Is) (f : Nat → Nat) : Nat := match k with
  | .gate _ l => if l = [] then 0 else (l.foldl (fun d j => max d (f j)) 0) + 1
  | _ => 0
theorem fold_congr {α : Type} (f g : α → Nat) : ∀ (l : List α) (a : Nat), (∀ j ∈ l, f j = g j) → l.foldl (fun d j => max d (f j)) a = l.foldl (fun d j => max d (g j)) a
  | [], _, _ => rfl
  | j :: l, a, h => by
    rw [List.foldl_cons, List.foldl_cons, h j List.mem_cons_self]
    exact fold_congr f g l _ fun k hk => h k (List.mem_cons_of_mem _ hk)
theorem evD_congr (k : Is) (f g : Nat → Nat) (h : ∀ j ∈ asks k, f j = g j) : evD k f = evD k g := by
  cases k with
  | input j => rfl
  | reg j => rfl
  | gate k l =>
    show (if l = [] then 0 else (l.foldl (fun d j => max d (f j)) 0) + 1) = (if l = [] then 0 else (l.foldl (fun d j => max d (g j)) 0) + 1)
    rw [fold_congr f g l 0 h]
theorem depths_sweep (n : Net) : n.ready.depths = sweep (fun i f => evD (n.ready.is_.getD i (.gate .zero [])) f) 0 n.ready.row (n.ready.is_.map fun _ => 0) := rfl
/-- how deep a name lies -/
def Net.deep (n : Net) (w : Bytes) : Nat := n.ready.depths.getD (n.place w) 0
theorem deep_fix {n : Net} (r : Right n) {w : Bytes} (hw : w ∈ n.names) : Net.deep n w = evD (n.is_ w) fun j => n.ready.depths.getD j 0 := by
  have h := net_fix r evD evD_congr 0 (n.ready.is_.map fun _ => 0) (by rw [Array.size_map, is_size]) (n.place w) (place_lt hw)
  rw [← depths_sweep, place_get hw] at h
  exact h
theorem deep_in {n : Net} (r : Right n) {j : Nat} {w : Bytes} (h : n.ins[j]? = some w) : Net.deep n w = 0 := by
  rw [deep_fix r (List.mem_append_left _ (List.mem_of_getElem? h)), is_in r h]
  rfl
theorem deep_reg {n : Net} (r : Right n) {i : Nat} {g : Gate} (h : n.regs[i]? = some g) : Net.deep n g.name = 0 := by
  have hm := regs_sub (List.mem_of_getElem? h)
  rw [deep_fix r (List.mem_append_right _ (List.mem_map.mpr ⟨g, hm.1, rfl⟩)), is_reg r h]
  rfl
theorem fold_map {α : Type} (f : Nat → Nat) (p : α → Nat) : ∀ (l : List α) (a : Nat), (l.map p).foldl (fun d j => max d (f j)) a = l.foldl (fun d w => max d (f (p w))) a
  | [], _ => rfl
  | j :: l, a => by
    rw [List.map_cons, List.foldl_cons, List.foldl_cons]
    exact fold_map f p l _
theorem deep_gate {n : Net} (r : Right n) {g : Gate} (hg : g ∈ n.gates) (hr : g.kind.isReg = false) : Net.deep n g.name = if g.from_ = [] then 0 else (g.from_.foldl (fun d w => max d (Net.deep n w)) 0) + 1 := by
  rw [deep_fix r (List.mem_append_right _ (List.mem_map.mpr ⟨g, hg, rfl⟩)), is_gate r hg hr]
  show (if g.from_.map n.place = [] then 0 else ((g.from_.map n.place).foldl (fun d j => max d (n.ready.depths.getD j 0)) 0) + 1) = _
  rw [fold_map (fun j => n.ready.depths.getD j 0) n.place]
  simp only [List.map_eq_nil_iff]
  rfl
theorem deep_unique {n : Net} (r : Right n) (h : Bytes → Nat) (hin : ∀ (j : Nat) (w : Bytes), n.ins[j]? = some w → h w = 0) (hreg : ∀ (i : Nat) (g : Gate), n.regs[i]? = some g → h g.name = 0)
    (hg : ∀ g ∈ n.gates, g.kind.isReg = false → h g.name = if g.from_ = [] then 0 else (g.from_.foldl (fun d w => max d (h w)) 0) + 1) : ∀ w ∈ n.names, h w = Net.deep n w := by
  refine by_level r (fun j w hj => ?_) (fun i g hi => ?_) fun g hgm hr ih => ?_
  · rw [hin j w hj, deep_in r hj]
  · rw [hreg i g hi, deep_reg r hi]
  · rw [hg g hgm hr, deep_gate r hgm hr, fold_congr h (Net.deep n) g.from_ 0 ih]
theorem depth_names {n : Net} (r : Right n) : n.depth = n.names.foldl (fun d w => max d (Net.deep n w)) 0 := by
  have hs : n.ready.depths.size = n.names.length := by rw [depths_sweep, sweep_size, Array.size_map, is_size]
  have e : n.ready.depths.toList = n.names.map (Net.deep n) := by
    refine List.ext_getElem (by simp [hs]) fun i h1 h2 => ?_
    have hi : i < n.names.length := by simpa using h2
    have hi' : i < n.ready.depths.size := by omega
    rw [List.getElem_map, Array.getElem_toList]
    unfold Net.deep
    have hp := place_at r hi
    have e2 : n.names.getD i [] = n.names[i] := by
      rw [List.getD_eq_getElem?_getD, List.getElem?_eq_getElem hi]
      rfl
    rw [e2] at hp
    rw [hp, Array.getD_eq_getD_getElem?, Array.getElem?_eq_getElem hi']
    rfl
  unfold Net.depth
  rw [← Array.foldl_toList, e, List.foldl_map]
end GN
namespace GN
open Sf33
theorem bits_snoc (l : List Bool) (b : Bool) : bits (l ++ [b]) = bits l + if b = true then 2 ^ l.length else 0 := by
  unfold bits
  rw [List.length_append, List.length_singleton, List.range_succ, List.map_append, List.sum_append]
  congr 1
  · congr 1
    refine List.map_congr_left fun i hi => ?_
    have h := List.mem_range.mp hi
    rw [List.getD_eq_getElem?_getD, List.getD_eq_getElem?_getD, List.getElem?_append_left h]
  · simp
theorem bits_nil : bits [] = 0 := rfl
theorem snoc_cases {α : Type} (l : List α) : l = [] ∨ ∃ r a, l = r ++ [a] := by
  rcases List.eq_nil_or_concat l with h | ⟨r, a, h⟩
  · exact .inl h
  · exact .inr ⟨r, a, by rw [h, List.concat_eq_append]⟩
theorem bits_lt : ∀ (k : Nat) (l : List Bool), l.length = k → bits l < 2 ^ k
  | 0, l, h => by
    rw [List.length_eq_zero_iff.mp h]
    decide
  | k + 1, l, h => by
    rcases snoc_cases l with e | ⟨r, a, rfl⟩
    · subst e
      simp at h
    · rw [List.length_append, List.length_singleton] at h
      have hr : r.length = k := by omega
      have := bits_lt k r hr
      rw [bits_snoc, hr, Nat.pow_succ]
      split <;> omega
theorem bits_inj : ∀ (k : Nat) (l m : List Bool), l.length = k → m.length = k → bits l = bits m → l = m
  | 0, l, m, h, h', _ => by rw [List.length_eq_zero_iff.mp h, List.length_eq_zero_iff.mp h']
  | k + 1, l, m, h, h', e => by
    rcases snoc_cases l with z | ⟨r, a, rfl⟩
    · subst z
      simp at h
    rcases snoc_cases m with z | ⟨q, b, rfl⟩
    · subst z
      simp at h'
    rw [List.length_append, List.length_singleton] at h h'
    have hr : r.length = k := by omega
    have hq : q.length = k := by omega
    rw [bits_snoc, bits_snoc, hr, hq] at e
    have h1 := bits_lt k r hr
    have h2 := bits_lt k q hq
    cases a <;> cases b <;> simp at e
    · rw [bits_inj k r q hr hq e]
    · omega
    · omega
    · rw [bits_inj k r q hr hq e]
theorem regs_none {n : Net} (h : n.regs = []) : ∀ g ∈ n.gates, g.kind.isReg = false := by
  intro g hg
  cases e : g.kind.isReg with
  | false => rfl
  | true =>
    have : g ∈ n.regs := List.mem_filter.mpr ⟨hg, e⟩
    rw [h] at this
    cases this
/-- the outputs for a number of inputs, of a network without registers -/
theorem out_plain (n : Net) (x : Nat) : n.ready.out (n.ready.values #[] x) = bits (n.outs.map (n.at_ [] x)) := out_at n [] x
theorem differ_eq (a b : Net) (k : Nat) : differ a.ready b.ready k = (List.range (2 ^ k)).find? fun x => bits (a.outs.map (a.at_ [] x)) != bits (b.outs.map (b.at_ [] x)) := by
  unfold differ
  simp only [out_plain]
end GN
namespace GN
open Sf33
open PySem (Str)
/-! ### bits by places -/
abbrev pl (nms : List Str) (z : Str) : Nat := nms.idxOf z
def bAt (B : List Bool) (i : Nat) : Bool := B.getD i false
def b2n (b : Bool) : Nat := if b = true then 1 else 0
theorem pl_lt {nms : List Str} {z : Str} (h : z ∈ nms) : pl nms z < nms.length := List.idxOf_lt_length_iff.mpr h
theorem pl_get {nms : List Str} {z : Str} (h : z ∈ nms) : nms[pl nms z]? = some z := by
  have h' := pl_lt h
  rw [List.getElem?_eq_getElem h']
  exact congrArg some (List.getElem_idxOf h')
theorem pl_inj {nms : List Str} {y z : Str} (hy : y ∈ nms) (hz : z ∈ nms) (e : pl nms y = pl nms z) : y = z := by
  have h1 := pl_get hy
  have h2 := pl_get hz
  rw [e, h2] at h1
  exact (Option.some.inj h1).symm
theorem pl_at {nms : List Str} (hn : nms.Nodup) {i : Nat} {z : Str} (h : nms[i]? = some z) : pl nms z = i := by
  obtain ⟨hi, e⟩ := List.getElem?_eq_some_iff.mp h
  have hm : z ∈ nms := List.mem_of_getElem? h
  have h' := pl_lt hm
  refine (List.getElem_inj (h₀ := h') (h₁ := hi) hn).mp ?_
  rw [e]
  exact List.getElem_idxOf h'
theorem bAt_set (B : List Bool) (i j : Nat) (b : Bool) : bAt (B.set i b) j = if i = j ∧ i < B.length then b else bAt B j := by
  unfold bAt
  rw [List.getD_eq_getElem?_getD, List.getD_eq_getElem?_getD, List.getElem?_set]
  by_cases e : i = j
  · subst e
    by_cases h : i < B.length
    · simp [h]
    · simp [h]
  · simp [e]
/-! ### names are given bits, one behind the other -/
def sets (nms : List Str) (L : List (Str × Bool)) (B : List Bool) : List Bool := L.foldl (fun B q => B.set (pl nms q.1) q.2) B
theorem sets_len (nms : List Str) : ∀ (L : List (Str × Bool)) (B : List Bool), (sets nms L B).length = B.length
  | [], _ => rfl
  | q :: L, B => by
    show (sets nms L (B.set (pl nms q.1) q.2)).length = _
    rw [sets_len nms L, List.length_set]
theorem sets_snoc (nms : List Str) (L : List (Str × Bool)) (q : Str × Bool) (B : List Bool) : sets nms (L ++ [q]) B = (sets nms L B).set (pl nms q.1) q.2 := by
  unfold sets
  rw [List.foldl_append]
  rfl
theorem sets_out (nms : List Str) : ∀ (L : List (Str × Bool)) (B : List Bool) (i : Nat), (∀ q ∈ L, pl nms q.1 ≠ i) → bAt (sets nms L B) i = bAt B i
  | [], _, _, _ => rfl
  | q :: L, B, i, h => by
    show bAt (sets nms L (B.set (pl nms q.1) q.2)) i = _
    rw [sets_out nms L _ i fun r hr => h r (List.mem_cons_of_mem _ hr), bAt_set, if_neg fun z => h q List.mem_cons_self z.1]
theorem sets_in (nms : List Str) : ∀ (L : List (Str × Bool)) (B : List Bool), nms.length < B.length → (L.map Prod.fst).Nodup → (∀ q ∈ L, q.1 ∈ nms) → ∀ q ∈ L, bAt (sets nms L B) (pl nms q.1) = q.2
  | [], _, _, _, _, q, hq => by cases hq
  | r :: L, B, hB, hn, hm, q, hq => by
    show bAt (sets nms L (B.set (pl nms r.1) r.2)) (pl nms q.1) = _
    rw [List.map_cons, List.nodup_cons] at hn
    have hr := hm r List.mem_cons_self
    rcases List.mem_cons.mp hq with e | e
    · subst e
      rw [sets_out nms L _ _ fun x hx z => ?_, bAt_set, if_pos ⟨rfl, Nat.lt_trans (pl_lt hr) hB⟩]
      exact hn.1 (pl_inj (hm x (List.mem_cons_of_mem _ hx)) hr z ▸ List.mem_map.mpr ⟨x, hx, rfl⟩)
    · exact sets_in nms L _ (by rw [List.length_set]; exact hB) hn.2 (fun x hx => hm x (List.mem_cons_of_mem _ hx)) q e
/-! ### gates by tables -/
def tabK (k : Str) : List Bool :=
  if k = kZero then [false] else if k = kOne then [true] else if k = kNot then [true, false] else if k = kBuf then [false, true]
  else if k = kAnd then [false, false, false, true] else if k = kOr then [false, true, true, true] else if k = kXor then [false, true, true, false]
  else if k = kNand then [true, true, true, false] else if k = kNor then [true, false, false, false] else if k = kXnor then [true, false, false, true]
  else if k = kMaj then [false, false, false, true, false, true, true, true] else if k = kMux then [false, true, false, true, false, false, true, true] else []
def sidx (nms : List Str) (g : PG) : List Nat := List.replicate (3 - g.src.length) nms.length ++ g.src.map (pl nms)
def gix (nms : List Str) (g : PG) (B : List Bool) : Nat := 4 * b2n (bAt B ((sidx nms g).getD 0 0)) + 2 * b2n (bAt B ((sidx nms g).getD 1 0)) + b2n (bAt B ((sidx nms g).getD 2 0))
def gval (nms : List Str) (g : PG) (B : List Bool) : Bool := (tabK g.kind).getD (gix nms g B) false
def gset (nms : List Str) (B : List Bool) (g : PG) : List Bool := B.set (pl nms g.name) (gval nms g B)
theorem sidx_len {nms : List Str} {g : PG} (h : g.src.length ≤ 3) : (sidx nms g).length = 3 := by
  unfold sidx
  rw [List.length_append, List.length_replicate, List.length_map]
  omega
theorem sidx_mem {nms : List Str} {g : PG} (h : g.src.length ≤ 3) {j : Nat} (hj : j < 3) : (sidx nms g).getD j 0 = nms.length ∨ ∃ s ∈ g.src, (sidx nms g).getD j 0 = pl nms s := by
  have hl := sidx_len (nms := nms) h
  have hj' : j < (sidx nms g).length := by omega
  have e : (sidx nms g).getD j 0 = (sidx nms g)[j] := by rw [List.getD_eq_getElem?_getD, List.getElem?_eq_getElem hj']; rfl
  rw [e]
  have hm : (sidx nms g)[j] ∈ sidx nms g := List.getElem_mem hj'
  generalize (sidx nms g)[j] = x at hm
  unfold sidx at hm
  rcases List.mem_append.mp hm with h1 | h1
  · exact .inl (List.mem_replicate.mp h1).2
  · obtain ⟨s, hs, e⟩ := List.mem_map.mp h1
    exact .inr ⟨s, hs, e.symm⟩
theorem gval_congr {nms : List Str} {g : PG} {B B' : List Bool} (h : g.src.length ≤ 3) (h0 : bAt B nms.length = bAt B' nms.length) (hs : ∀ s ∈ g.src, bAt B (pl nms s) = bAt B' (pl nms s)) : gval nms g B = gval nms g B' := by
  have key : ∀ j, j < 3 → bAt B ((sidx nms g).getD j 0) = bAt B' ((sidx nms g).getD j 0) := by
    intro j hj
    rcases sidx_mem (nms := nms) h hj with e | ⟨s, hm, e⟩
    · rw [e]; exact h0
    · rw [e]; exact hs s hm
  unfold gval gix
  rw [key 0 (by decide), key 1 (by decide), key 2 (by decide)]
def gates (nms : List Str) (L : List PG) (B : List Bool) : List Bool := L.foldl (gset nms) B
theorem gates_snoc (nms : List Str) (L : List PG) (g : PG) (B : List Bool) : gates nms (L ++ [g]) B = gset nms (gates nms L B) g := by
  unfold gates
  rw [List.foldl_append]
  rfl
theorem gates_len (nms : List Str) : ∀ (L : List PG) (B : List Bool), (gates nms L B).length = B.length
  | [], _ => rfl
  | g :: L, B => by
    show (gates nms L (gset nms B g)).length = _
    rw [gates_len nms L]
    exact List.length_set
theorem gates_out (nms : List Str) : ∀ (L : List PG) (B : List Bool) (i : Nat), (∀ g ∈ L, pl nms g.name ≠ i) → bAt (gates nms L B) i = bAt B i
  | [], _, _, _ => rfl
  | g :: L, B, i, h => by
    show bAt (gates nms L (gset nms B g)) i = _
    rw [gates_out nms L _ i fun r hr => h r (List.mem_cons_of_mem _ hr)]
    unfold gset
    rw [bAt_set, if_neg fun z => h g List.mem_cons_self z.1]
/-- gates of which each comes behind those it takes -/
structure Row (nms : List Str) (L : List PG) : Prop where
  few : ∀ g ∈ L, g.src.length ≤ 3
  nm : ∀ g ∈ L, g.name ∈ nms
  src : ∀ g ∈ L, ∀ s ∈ g.src, s ∈ nms
  own : ∀ g ∈ L, g.name ∉ g.src
  pw : L.Pairwise fun g k => k.name ∉ g.src ∧ g.name ≠ k.name
theorem Row.tail {nms : List Str} {g : PG} {L : List PG} (r : Row nms (g :: L)) : Row nms L :=
  ⟨fun x h => r.few x (List.mem_cons_of_mem _ h), fun x h => r.nm x (List.mem_cons_of_mem _ h), fun x h => r.src x (List.mem_cons_of_mem _ h), fun x h => r.own x (List.mem_cons_of_mem _ h), (List.pairwise_cons.mp r.pw).2⟩
theorem gates_fix (nms : List Str) : ∀ (L : List PG) (B : List Bool), nms.length < B.length → Row nms L → ∀ g ∈ L, bAt (gates nms L B) (pl nms g.name) = gval nms g (gates nms L B)
  | [], _, _, _, g, hg => by cases hg
  | k :: L, B, hB, r, g, hg => by
    show bAt (gates nms L (gset nms B k)) (pl nms g.name) = gval nms g (gates nms L (gset nms B k))
    rcases List.mem_cons.mp hg with e | e
    · subst e
      have hp := (List.pairwise_cons.mp r.pw).1
      have hk := r.nm g List.mem_cons_self
      have out : ∀ s, s ∈ nms → (∀ x ∈ L, x.name ≠ s) → bAt (gates nms L (gset nms B g)) (pl nms s) = bAt (gset nms B g) (pl nms s) := fun s hs h =>
        gates_out nms L _ _ fun x hx z => h x hx (pl_inj (r.nm x (List.mem_cons_of_mem _ hx)) hs z)
      rw [out g.name hk fun x hx z => (hp x hx).2 z.symm]
      have e1 : bAt (gset nms B g) (pl nms g.name) = gval nms g B := by
        unfold gset
        rw [bAt_set, if_pos ⟨rfl, Nat.lt_trans (pl_lt hk) hB⟩]
      rw [e1]
      refine gval_congr (r.few g List.mem_cons_self) ?_ fun s hs => ?_
      · have h1 : ∀ x ∈ g :: L, pl nms x.name ≠ nms.length := fun x hx => Nat.ne_of_lt (pl_lt (r.nm x hx))
        exact (gates_out nms (g :: L) B nms.length h1).symm
      · have hsn := r.src g List.mem_cons_self s hs
        have hne : g.name ≠ s := fun z => r.own g List.mem_cons_self (z ▸ hs)
        rw [out s hsn fun x hx z => (hp x hx).1 (z ▸ hs)]
        unfold gset
        rw [bAt_set, if_neg fun z => hne (pl_inj hk hsn z.1)]
    · exact gates_fix nms L _ (by unfold gset; rw [List.length_set]; exact hB) r.tail g e
/-! ### the tables are the kinds -/
def ar : Kind → Nat
  | .zero => 0 | .one => 0 | .not => 1 | .buf => 1 | .reg _ => 1
  | .and => 2 | .or => 2 | .xor => 2 | .nand => 2 | .nor => 2 | .xnor => 2 | .maj => 3 | .mux => 3
def pad3 (l : List Bool) : List Bool := List.replicate (3 - l.length) false ++ l
def ix3 (m : List Bool) : Nat := 4 * b2n (m.getD 0 false) + 2 * b2n (m.getD 1 false) + b2n (m.getD 2 false)
theorem tab_run (k : Kind) (hk : k.isReg = false) (l : List Bool) (hl : l.length = ar k) : ix3 (pad3 l) < (tabK (kw k)).length ∧ (tabK (kw k)).getD (ix3 (pad3 l)) false = k.run l := by
  cases k with
  | reg b => cases hk
  | zero | one =>
    match l, hl with
    | [], _ => decide +kernel
  | not | buf =>
    match l, hl with
    | [a], _ => cases a <;> decide +kernel
  | and | or | xor | nand | nor | xnor =>
    match l, hl with
    | [a, b], _ => cases a <;> cases b <;> decide +kernel
  | maj | mux =>
    match l, hl with
    | [a, b, c], _ => cases a <;> cases b <;> cases c <;> decide +kernel
theorem sidx_bits {nms : List Str} {g : PG} {B : List Bool} (h0 : bAt B nms.length = false) : (sidx nms g).map (bAt B) = pad3 (g.src.map fun s => bAt B (pl nms s)) := by
  unfold sidx pad3
  rw [List.map_append, List.map_replicate, h0, List.map_map, List.length_map]
  rfl
theorem getD_map_b (l : List Nat) (B : List Bool) (j : Nat) (hj : j < l.length) : bAt B (l.getD j 0) = (l.map (bAt B)).getD j false := by
  rw [List.getD_eq_getElem?_getD, List.getD_eq_getElem?_getD, List.getElem?_map, List.getElem?_eq_getElem hj]
  rfl
theorem gix_eq {nms : List Str} {g : PG} {B : List Bool} (h : g.src.length ≤ 3) (h0 : bAt B nms.length = false) : gix nms g B = ix3 (pad3 (g.src.map fun s => bAt B (pl nms s))) := by
  have hl := sidx_len (nms := nms) h
  unfold gix ix3
  rw [← sidx_bits h0, getD_map_b _ _ 0 (by omega), getD_map_b _ _ 1 (by omega), getD_map_b _ _ 2 (by omega)]
theorem ar_le (k : Kind) : ar k ≤ 3 := by cases k <;> exact Nat.le_of_ble_eq_true rfl
/-- each gate has as many names as its kind takes -/
def Ary (n : Net) : Prop := ∀ g ∈ n.gates, g.from_.length = ar g.kind
theorem kindOf_ar {w : Bytes} {x : Kind × Nat} (h : kindOf w = some x) : x.2 = ar x.1 := by
  unfold kindOf at h
  rcases ite_some h with ⟨_, rfl⟩ | h
  · rfl
  rcases ite_some h with ⟨_, rfl⟩ | h
  · rfl
  rcases ite_some h with ⟨_, rfl⟩ | h
  · rfl
  rcases ite_some h with ⟨_, rfl⟩ | h
  · rfl
  rcases ite_some h with ⟨_, rfl⟩ | h
  · rfl
  rcases ite_some h with ⟨_, rfl⟩ | h
  · rfl
  rcases ite_some h with ⟨_, rfl⟩ | h
  · rfl
  rcases ite_some h with ⟨_, rfl⟩ | h
  · rfl
  rcases ite_some h with ⟨_, rfl⟩ | h
  · rfl
  rcases ite_some h with ⟨_, rfl⟩ | h
  · rfl
  rcases ite_some h with ⟨_, rfl⟩ | h
  · rfl
  rcases ite_some h with ⟨_, rfl⟩ | h
  · rfl
  rcases ite_some h with ⟨_, rfl⟩ | h
  · rfl
  rcases ite_some h with ⟨_, rfl⟩ | h
  · rfl
  cases h
theorem line_ar {n m : Net} {l : List Bytes} (h : Ary n) (e : line n l = some m) : Ary m := by
  unfold line at e
  split at e
  · cases e; exact h
  · split at e
    · split at e
      · cases e; exact h
      · cases e
    · split at e
      · split at e
        · cases e; exact h
        · cases e
      · split at e
        · obtain ⟨x, hx, e⟩ := Option.bind_eq_some_iff.mp e
          split at e
          · rename_i hc
            cases e
            intro g hg
            rcases List.mem_append.mp hg with z | z
            · exact h g z
            · rw [List.mem_singleton.mp z]
              show List.length _ = ar x.1
              rw [hc.2.2, kindOf_ar hx]
          · cases e
        · cases e
theorem lines_ar : ∀ {L : List (List Bytes)} {n m : Net}, Ary n → L.foldlM line n = some m → Ary m
  | [], n, m, h, e => by cases e; exact h
  | l :: L, n, m, h, e => by
    rw [List.foldlM_cons] at e
    cases z : line n l with
    | none => rw [z] at e; cases e
    | some k => rw [z] at e; exact lines_ar (line_ar h z) e
/-- all that is known of a network -/
structure Good (n : Net) : Prop where
  right : Right n
  fine : Fine n
  small : Small n
  known : Known n
  rank : Rank n
  ary : Ary n
theorem good_of {b : Bytes} {n : Net} (hb : b.length ≤ 65536) (h : network (b.length : Int) b = some n) : Good n := by
  obtain ⟨h1, h2, h3, h4⟩ := (network_some hb n).mp h
  refine ⟨right_of (network_right h), raw_fine fine0 h1, h2, h3, h4, ?_⟩
  unfold network at h
  split at h
  · obtain ⟨m, hm, e⟩ := Option.bind_eq_some_iff.mp h
    split at e
    · cases e
      exact lines_ar (fun g hg => by cases hg) hm
    · cases e
  · cases h
/-! ### the names of a network, as texts -/
def nmsP (p : PN) : List Str := p.ins ++ p.gn
theorem nms_enc (n : Net) : nmsP (encN n) = n.names.map en := by
  unfold nmsP Net.names
  rw [gn_enc, List.map_append]
  rfl
theorem en_nodup : ∀ (l : List Bytes), (∀ v ∈ l, isName v = true) → l.Nodup → (l.map en).Nodup
  | [], _, _ => List.nodup_nil
  | a :: l, ho, hn => by
    rw [List.map_cons, List.nodup_cons]
    have hn' := List.nodup_cons.mp hn
    have ho' := fun v hv => ho v (List.mem_cons_of_mem _ hv)
    exact ⟨fun hm => hn'.1 ((mem_en ho' a).mp hm), en_nodup l ho' hn'.2⟩
theorem Good.nd {n : Net} (G : Good n) : (nmsP (encN n)).Nodup := by
  rw [nms_enc]
  exact en_nodup _ G.fine.ok G.fine.nd
theorem Good.len {n : Net} (G : Good n) : (nmsP (encN n)).length ≤ 1024 := by
  rw [nms_enc, List.length_map]
  exact G.small.names
theorem Good.mem {n : Net} {w : Bytes} (h : w ∈ n.names) : en w ∈ nmsP (encN n) := by
  rw [nms_enc]
  exact List.mem_map.mpr ⟨w, h, rfl⟩
theorem gates_enc (n : Net) : (encN n).gates = n.gates.map encG := rfl
theorem gate_mem {n : Net} {g : Gate} (h : g ∈ n.gates) : g.name ∈ n.names := List.mem_append_right _ (List.mem_map.mpr ⟨g, h, rfl⟩)
theorem Good.few {n : Net} (G : Good n) : ∀ g ∈ (encN n).gates, g.src.length ≤ 3 := by
  intro g hg
  obtain ⟨k, hk, rfl⟩ := List.mem_map.mp hg
  show (k.from_.map en).length ≤ 3
  rw [List.length_map, G.ary k hk]
  exact ar_le _
theorem Good.srcs {n : Net} (G : Good n) : ∀ g ∈ (encN n).gates, ∀ s ∈ g.src, s ∈ nmsP (encN n) := by
  intro g hg s hs
  obtain ⟨k, hk, rfl⟩ := List.mem_map.mp hg
  obtain ⟨w, hw, rfl⟩ := List.mem_map.mp hs
  exact Good.mem (G.known.from_ k hk w hw)
theorem Good.outs {n : Net} (G : Good n) : ∀ z ∈ (encN n).outs, z ∈ nmsP (encN n) := by
  intro z hz
  obtain ⟨w, hw, rfl⟩ := List.mem_map.mp hz
  exact Good.mem (G.known.outs w hw)
/-- what the program's gates are in their order -/
def rowOf (p : PN) (order : List Str) : List PG := order.filterMap fun z => (p.gates.find? fun g => decide (g.name = z)).filter fun g => !isRegS g.kind
theorem rowOf_mem {p : PN} {order : List Str} {g : PG} (h : g ∈ rowOf p order) : g ∈ p.gates ∧ isRegS g.kind = false ∧ g.name ∈ order := by
  obtain ⟨z, hz, e⟩ := List.mem_filterMap.mp h
  obtain ⟨e1, e2⟩ := Option.filter_eq_some_iff.mp e
  have h1 := List.mem_of_find?_eq_some e1
  have h2 : g.name = z := of_decide_eq_true (List.find?_some (p := fun g : PG => decide (g.name = z)) e1)
  refine ⟨h1, by simpa using e2, h2 ▸ hz⟩
end GN
namespace GN
open Sf33
open PySem (Str)
/-! ### the program's order is a row -/
theorem order_pw {gs : List Str} {aw : Str → List Str} {order : List Str} {wf : Str → Nat} (k : KInv gs aw order [] wf []) : order.Pairwise fun a b => b ∉ aw a ∧ a ≠ b := by
  have nd := k.nd
  rw [List.append_nil] at nd
  rw [List.pairwise_iff_getElem]
  intro i j hi hj hij
  refine ⟨fun hm => ?_, fun e => ?_⟩
  · have h1 := k.top i order[i] (List.getElem?_eq_getElem hi) _ hm
    obtain ⟨q, hq, e⟩ := List.mem_take_iff_getElem.mp h1
    have := (List.getElem_inj nd).mp e
    omega
  · have := (List.getElem_inj nd).mp e
    omega
theorem order_own {gs : List Str} {aw : Str → List Str} {order : List Str} {wf : Str → Nat} (k : KInv gs aw order [] wf []) : ∀ a ∈ order, a ∉ aw a := by
  have nd := k.nd
  rw [List.append_nil] at nd
  intro a ha hm
  obtain ⟨i, hi, rfl⟩ := List.getElem_of_mem ha
  have h1 := k.top i order[i] (List.getElem?_eq_getElem hi) _ hm
  obtain ⟨q, hq, e⟩ := List.mem_take_iff_getElem.mp h1
  have := (List.getElem_inj nd).mp e
  omega
theorem find_pg' {l : List PG} (hn : (l.map PG.name).Nodup) {g : PG} (hg : g ∈ l) : l.find? (fun x => decide (x.name = g.name)) = some g := by
  induction l with
  | nil => cases hg
  | cons a l ih =>
    rw [List.map_cons, List.nodup_cons] at hn
    rw [List.find?_cons]
    by_cases e : a.name = g.name
    · rcases List.mem_cons.mp hg with z | z
      · subst z
        simp
      · exact absurd (by rw [e]; exact List.mem_map.mpr ⟨g, z, rfl⟩) hn.1
    · rcases List.mem_cons.mp hg with z | z
      · subst z
        exact absurd rfl e
      · simp only [e, decide_false]
        exact ih hn.2 z
theorem aw_gate {p : PN} (hn : p.gn.Nodup) {g : PG} (hg : g ∈ p.gates) (hr : isRegS g.kind = false) {s : Str} (hs : s ∈ g.src) (hm : s ∈ p.gn) : s ∈ p.aw g.name := by
  unfold PN.aw
  rw [find_pg' hn hg]
  refine List.mem_filter.mpr ⟨?_, decide_eq_true hm⟩
  unfold PG.now
  rw [hr]
  exact hs
theorem row_ok {n : Net} (G : Good n) {order : List Str} {wf : Str → Nat} (k : KInv (encN n).gn (encN n).aw order [] wf []) :
    Row (nmsP (encN n)) (rowOf (encN n) order) ∧ ∀ g ∈ (encN n).gates, isRegS g.kind = false → g ∈ rowOf (encN n) order := by
  have hn := gn_nodup G.fine
  have full : ∀ z ∈ (encN n).gn, z ∈ order := by
    have h := (order_iff G.fine k).mpr G.rank
    have nd := k.nd
    have sub := k.sub
    rw [List.append_nil] at nd sub
    exact nodup_full nd sub (by omega)
  have gm : ∀ g ∈ (encN n).gates, g.name ∈ (encN n).gn := fun g hg => List.mem_map.mpr ⟨g, hg, rfl⟩
  refine ⟨⟨fun g hg => G.few g (rowOf_mem hg).1, fun g hg => List.mem_append_right _ (gm g (rowOf_mem hg).1), fun g hg => G.srcs g (rowOf_mem hg).1, fun g hg hs => ?_, ?_⟩, fun g hg hr => ?_⟩
  · obtain ⟨h1, h2, h3⟩ := rowOf_mem hg
    exact order_own k g.name h3 (aw_gate hn h1 h2 hs (gm g h1))
  · unfold rowOf
    rw [List.pairwise_filterMap]
    refine (order_pw k).imp fun {a b} h g e g' e' => ?_
    obtain ⟨e1, e2⟩ := Option.filter_eq_some_iff.mp e
    obtain ⟨e3, e4⟩ := Option.filter_eq_some_iff.mp e'
    have h1 := List.mem_of_find?_eq_some e1
    have h2 : g.name = a := of_decide_eq_true (List.find?_some (p := fun g : PG => decide (g.name = a)) e1)
    have h3 := List.mem_of_find?_eq_some e3
    have h4 : g'.name = b := of_decide_eq_true (List.find?_some (p := fun g : PG => decide (g.name = b)) e3)
    subst h2 h4
    exact ⟨fun hs => h.1 (aw_gate hn h1 (by simpa using e2) hs (gm g' h3)), h.2⟩
  · refine List.mem_filterMap.mpr ⟨g.name, full _ (gm g hg), ?_⟩
    rw [find_pg' hn hg]
    simp [hr]
/-! ### a beat -/
def regsP (p : PN) : List PG := p.gates.filter fun g => isRegS g.kind
def inL (p : PN) (x : Nat) : List (Str × Bool) := p.ins.zipIdx.map fun q => (q.1, x.testBit q.2)
def src0 (g : PG) : Str := g.src.headD ""
def regL (p : PN) (B : List Bool) : List (Str × Bool) := (regsP p).map fun g => (g.name, bAt B (pl (nmsP p) (src0 g)))
def firstL (p : PN) : List (Str × Bool) := (regsP p).map fun g => (g.name, decide (g.kind = kReg1))
def B1 (p : PN) (B : List Bool) (x : Nat) : List Bool := sets (nmsP p) (inL p x) B
def B2 (p : PN) (row : List PG) (B : List Bool) (x : Nat) : List Bool := gates (nmsP p) row (B1 p B x)
def B3 (p : PN) (row : List PG) (B : List Bool) (x : Nat) : List Bool := sets (nmsP p) (regL p (B2 p row B x)) (B2 p row B x)
def outB (p : PN) (B : List Bool) : Nat := bits (p.outs.map fun z => bAt B (pl (nmsP p) z))
def runB (p : PN) (row : List PG) : List Bool → List Nat → List Nat
  | _, [] => []
  | B, x :: xs => outB p (B2 p row B x) :: runB p row (B3 p row B x) xs
def endB (p : PN) (row : List PG) : List Bool → List Nat → List Bool
  | B, [] => B
  | B, x :: xs => endB p row (B3 p row B x) xs
theorem runB_snoc (p : PN) (row : List PG) : ∀ (xs : List Nat) (B : List Bool) (x : Nat), runB p row B (xs ++ [x]) = runB p row B xs ++ [outB p (B2 p row (endB p row B xs) x)]
  | [], _, _ => rfl
  | y :: xs, B, x => by
    show _ :: runB p row (B3 p row B y) (xs ++ [x]) = _
    rw [runB_snoc p row xs]
    rfl
theorem endB_snoc (p : PN) (row : List PG) : ∀ (xs : List Nat) (B : List Bool) (x : Nat), endB p row B (xs ++ [x]) = B3 p row (endB p row B xs) x
  | [], _, _ => rfl
  | y :: xs, B, x => by
    show endB p row (B3 p row B y) (xs ++ [x]) = _
    rw [endB_snoc p row xs]
    rfl
theorem B1_len (p : PN) (B : List Bool) (x : Nat) : (B1 p B x).length = B.length := sets_len _ _ _
theorem B2_len (p : PN) (row : List PG) (B : List Bool) (x : Nat) : (B2 p row B x).length = B.length := (gates_len _ _ _).trans (B1_len p B x)
theorem B3_len (p : PN) (row : List PG) (B : List Bool) (x : Nat) : (B3 p row B x).length = B.length := (sets_len _ _ _).trans (B2_len p row B x)
theorem endB_len (p : PN) (row : List PG) : ∀ (xs : List Nat) (B : List Bool), (endB p row B xs).length = B.length
  | [], _ => rfl
  | x :: xs, B => (endB_len p row xs _).trans (B3_len p row B x)
structure Fits (n : Net) (s : State) (B : List Bool) : Prop where
  len : B.length = (nmsP (encN n)).length + 1
  pad : bAt B (nmsP (encN n)).length = false
  reg : ∀ (i : Nat) (g : Gate), n.regs[i]? = some g → bAt B (pl (nmsP (encN n)) (en g.name)) = s.getD i false
theorem regs_enc (n : Net) : regsP (encN n) = n.regs.map encG := by
  unfold regsP Net.regs
  show (n.gates.map encG).filter _ = _
  rw [List.filter_map]
  congr 1
  congr 1
  funext g
  exact isReg_kw g.kind
theorem inL_names (p : PN) (x : Nat) : (inL p x).map Prod.fst = p.ins := by
  unfold inL
  rw [List.map_map]
  exact List.zipIdx_map_fst 0 p.ins
theorem inL_mem (p : PN) (x : Nat) {q : Str × Bool} (h : q ∈ inL p x) : q.1 ∈ p.ins := by
  rw [← inL_names p x]
  exact List.mem_map.mpr ⟨q, h, rfl⟩
theorem inL_nm {p : PN} {x : Nat} {q : Str × Bool} (h : q ∈ inL p x) : q.1 ∈ nmsP p := List.mem_append_left _ (inL_mem p x h)
theorem regL_names (p : PN) (B : List Bool) : (regL p B).map Prod.fst = (regsP p).map PG.name := by
  unfold regL
  rw [List.map_map]
  rfl
theorem firstL_names (p : PN) : (firstL p).map Prod.fst = (regsP p).map PG.name := by
  unfold firstL
  rw [List.map_map]
  rfl
theorem regsP_nd {p : PN} (h : p.gn.Nodup) : ((regsP p).map PG.name).Nodup := List.Nodup.sublist (List.Sublist.map _ List.filter_sublist) h
theorem regsP_mem {p : PN} {g : PG} (h : g ∈ regsP p) : g ∈ p.gates ∧ isRegS g.kind = true := List.mem_filter.mp h
theorem regsP_nm {p : PN} {g : PG} (h : g ∈ regsP p) : g.name ∈ nmsP p := List.mem_append_right _ (List.mem_map.mpr ⟨g, (regsP_mem h).1, rfl⟩)
theorem regL_nm {p : PN} {B : List Bool} {q : Str × Bool} (h : q ∈ regL p B) : q.1 ∈ nmsP p := by
  obtain ⟨g, hg, rfl⟩ := List.mem_map.mp h
  exact regsP_nm hg
theorem firstL_nm {p : PN} {q : Str × Bool} (h : q ∈ firstL p) : q.1 ∈ nmsP p := by
  obtain ⟨g, hg, rfl⟩ := List.mem_map.mp h
  exact regsP_nm hg
theorem src0_enc (g : Gate) : src0 (encG g) = en (g.from_.headD []) := by
  unfold src0
  show (g.from_.map en).headD "" = _
  cases g.from_ with
  | nil => decide +kernel
  | cons a l => rfl
section
variable {n : Net} {s : State} {B : List Bool} {order : List Str} {wf : Str → Nat} {x : Nat}
theorem fits_pad1 (f : Fits n s B) : bAt (B1 (encN n) B x) (nmsP (encN n)).length = false := by
  unfold B1
  rw [sets_out _ _ _ _ fun q hq => Nat.ne_of_lt (pl_lt (inL_nm hq))]
  exact f.pad
theorem fits_pad2 (G : Good n) (k : KInv (encN n).gn (encN n).aw order [] wf []) (f : Fits n s B) : bAt (B2 (encN n) (rowOf (encN n) order) B x) (nmsP (encN n)).length = false := by
  unfold B2
  rw [gates_out _ _ _ _ fun g hg => Nat.ne_of_lt (pl_lt ((row_ok G k).1.nm g hg))]
  exact fits_pad1 f
theorem gate_run (G : Good n) {g : Gate} (hg : g ∈ n.gates) (hr : g.kind.isReg = false) {C : List Bool} (h0 : bAt C (nmsP (encN n)).length = false) :
    gix (nmsP (encN n)) (encG g) C < (tabK (kw g.kind)).length ∧ gval (nmsP (encN n)) (encG g) C = g.kind.run (g.from_.map fun w => bAt C (pl (nmsP (encN n)) (en w))) := by
  have hs : (encG g).src.length ≤ 3 := G.few (encG g) (List.mem_map.mpr ⟨g, hg, rfl⟩)
  have e : ((encG g).src.map fun s => bAt C (pl (nmsP (encN n)) s)) = g.from_.map fun w => bAt C (pl (nmsP (encN n)) (en w)) := by
    show (g.from_.map en).map _ = _
    rw [List.map_map]
    rfl
  have h := tab_run g.kind hr (g.from_.map fun w => bAt C (pl (nmsP (encN n)) (en w))) (by rw [List.length_map]; exact G.ary g hg)
  have hi := gix_eq hs h0
  rw [e] at hi
  unfold gval
  rw [hi]
  exact h
theorem beat_at (G : Good n) (k : KInv (encN n).gn (encN n).aw order [] wf []) (f : Fits n s B) : ∀ w ∈ n.names, bAt (B2 (encN n) (rowOf (encN n) order) B x) (pl (nmsP (encN n)) (en w)) = n.at_ s x w := by
  obtain ⟨R, full⟩ := row_ok G k
  have hB : (nmsP (encN n)).length < B.length := by rw [f.len]; exact Nat.lt_succ_self _
  have hB1 : (nmsP (encN n)).length < (B1 (encN n) B x).length := by rw [B1_len]; exact hB
  have gnm : ∀ g ∈ n.gates, en g.name ∈ nmsP (encN n) := fun g hg => Good.mem (gate_mem hg)
  have apart : ∀ g ∈ n.gates, en g.name ∉ (encN n).ins := fun g hg h => G.right.apart hg ((mem_en G.fine.ins g.name).mp h)
  refine at_unique G.right s x (fun w => bAt (B2 (encN n) (rowOf (encN n) order) B x) (pl (nmsP (encN n)) (en w))) (fun j w hj => ?_) (fun i g hi => ?_) fun g hg hr => ?_
  · have hw : w ∈ n.ins := List.mem_of_getElem? hj
    have hm : en w ∈ (encN n).ins := List.mem_map.mpr ⟨w, hw, rfl⟩
    show bAt (gates _ _ _) _ = _
    rw [gates_out _ _ _ _ fun g hg e => ?_]
    · have hq : ((en w, x.testBit j) : Str × Bool) ∈ inL (encN n) x := by
        unfold inL
        refine List.mem_map.mpr ⟨(en w, j), ?_, rfl⟩
        rw [List.mem_zipIdx_iff_getElem?]
        show (n.ins.map en)[j]? = some (en w)
        rw [List.getElem?_map, hj]
        rfl
      exact sets_in _ _ _ hB (by rw [inL_names]; exact (List.nodup_append.mp G.nd).1) (fun q hq => List.mem_append_left _ (inL_mem _ _ hq)) _ hq
    · obtain ⟨h1, h2, h3⟩ := rowOf_mem hg
      obtain ⟨k', hk', rfl⟩ := List.mem_map.mp h1
      exact apart k' hk' (pl_inj (gnm k' hk') (Good.mem (List.mem_append_left _ hw)) e ▸ hm)
  · have hm := regs_sub (List.mem_of_getElem? hi)
    show bAt (gates _ _ _) _ = _
    rw [gates_out _ _ _ _ fun k' hk' e => ?_]
    · show bAt (sets _ _ _) _ = _
      rw [sets_out _ _ _ _ fun q hq e => ?_]
      · exact f.reg i g hi
      · exact apart g hm.1 (pl_inj (List.mem_append_left _ (inL_mem _ _ hq)) (gnm g hm.1) e ▸ inL_mem _ _ hq)
    · obtain ⟨h1, h2, h3⟩ := rowOf_mem hk'
      obtain ⟨g', hg', rfl⟩ := List.mem_map.mp h1
      have e1 : en g'.name = en g.name := pl_inj (gnm g' hg') (gnm g hm.1) e
      have e2 : g'.name = g.name := (en_inj' (G.fine.ok g.name (gate_mem hm.1))).mp e1
      have e3 := gate_eq_of G.right.gts_nd hg' hm.1 e2
      subst e3
      have h2' : isRegS (kw g'.kind) = false := h2
      rw [isReg_kw, hm.2] at h2'
      cases h2'
  · have hr' : isRegS (encG g).kind = false := by
      show isRegS (kw g.kind) = false
      rw [isReg_kw]
      exact hr
    have hmem := full (encG g) (List.mem_map.mpr ⟨g, hg, rfl⟩) hr'
    have h1 := gates_fix (nmsP (encN n)) (rowOf (encN n) order) (B1 (encN n) B x) hB1 R (encG g) hmem
    exact h1.trans (gate_run G hg hr (fits_pad2 G k f)).2
theorem beat_out (G : Good n) (k : KInv (encN n).gn (encN n).aw order [] wf []) (f : Fits n s B) : outB (encN n) (B2 (encN n) (rowOf (encN n) order) B x) = bits (n.outs.map (n.at_ s x)) := by
  unfold outB
  show bits ((n.outs.map en).map _) = _
  rw [List.map_map]
  congr 1
  refine List.map_congr_left fun w hw => ?_
  exact beat_at G k f w (G.known.outs w hw)
theorem beat_fits (G : Good n) (k : KInv (encN n).gn (encN n).aw order [] wf []) (f : Fits n s B) : Fits n (n.regs.map fun g => n.at_ s x (g.from_.headD [])) (B3 (encN n) (rowOf (encN n) order) B x) := by
  have hB : (nmsP (encN n)).length < (B2 (encN n) (rowOf (encN n) order) B x).length := by rw [B2_len, f.len]; exact Nat.lt_succ_self _
  refine ⟨by rw [B3_len]; exact f.len, ?_, fun i g hi => ?_⟩
  · unfold B3
    rw [sets_out _ _ _ _ fun q hq => Nat.ne_of_lt (pl_lt (regL_nm hq))]
    exact fits_pad2 G k f
  · have hm := regs_sub (List.mem_of_getElem? hi)
    have hq : ((en g.name, bAt (B2 (encN n) (rowOf (encN n) order) B x) (pl (nmsP (encN n)) (src0 (encG g)))) : Str × Bool) ∈ regL (encN n) (B2 (encN n) (rowOf (encN n) order) B x) := by
      refine List.mem_map.mpr ⟨encG g, ?_, rfl⟩
      rw [regs_enc]
      exact List.mem_map.mpr ⟨g, List.mem_of_getElem? hi, rfl⟩
    have h1 := sets_in (nmsP (encN n)) (regL (encN n) (B2 (encN n) (rowOf (encN n) order) B x)) (B2 (encN n) (rowOf (encN n) order) B x) hB (by rw [regL_names]; exact regsP_nd (gn_nodup G.fine)) (fun q hq => regL_nm hq) _ hq
    refine Eq.trans h1 ?_
    show bAt _ (pl _ (src0 (encG g))) = _
    rw [src0_enc]
    have hl : g.from_.length = 1 := by
      have := G.ary g hm.1
      have hk := hm.2
      cases hk' : g.kind with
      | reg b => rw [hk'] at this; exact this
      | _ => rw [hk'] at hk; cases hk
    have hmem : g.from_.headD [] ∈ n.names := by
      match hf : g.from_, hl with
      | [a], _ => exact G.known.from_ g hm.1 a (by rw [hf]; exact List.mem_cons_self)
    rw [beat_at G k f _ hmem, List.getD_eq_getElem?_getD, List.getElem?_map, hi]
    rfl
theorem fits_end (G : Good n) (k : KInv (encN n).gn (encN n).aw order [] wf []) : ∀ (xs : List Nat) (s : State) (B : List Bool), Fits n s B → ∃ s', Fits n s' (endB (encN n) (rowOf (encN n) order) B xs)
  | [], s, _, f => ⟨s, f⟩
  | _ :: xs, _, _, f => fits_end G k xs _ _ (beat_fits G k f)
theorem run_eq (G : Good n) (k : KInv (encN n).gn (encN n).aw order [] wf []) : ∀ (xs : List Nat) (s : State) (B : List Bool), Fits n s B → runB (encN n) (rowOf (encN n) order) B xs = n.run s xs
  | [], _, _, _ => rfl
  | x :: xs, s, B, f => by
    rw [run_cons]
    show _ :: runB _ _ (B3 _ _ B x) xs = _
    rw [run_eq G k xs _ _ (beat_fits G k f), beat_out G k f]
theorem fits_first (G : Good n) : Fits n n.first (sets (nmsP (encN n)) (firstL (encN n)) (List.replicate ((nmsP (encN n)).length + 1) false)) := by
  refine ⟨by rw [sets_len, List.length_replicate], ?_, fun i g hi => ?_⟩
  · rw [sets_out _ _ _ _ fun q hq => Nat.ne_of_lt (pl_lt (firstL_nm hq))]
    unfold bAt
    simp [List.getD_eq_getElem?_getD]
  · have hm := regs_sub (List.mem_of_getElem? hi)
    have hq : ((en g.name, decide (kw g.kind = kReg1)) : Str × Bool) ∈ firstL (encN n) := by
      refine List.mem_map.mpr ⟨encG g, ?_, rfl⟩
      rw [regs_enc]
      exact List.mem_map.mpr ⟨g, List.mem_of_getElem? hi, rfl⟩
    refine Eq.trans (sets_in (nmsP (encN n)) (firstL (encN n)) (List.replicate ((nmsP (encN n)).length + 1) false) (by rw [List.length_replicate]; exact Nat.lt_succ_self _) (by rw [firstL_names]; exact regsP_nd (gn_nodup G.fine)) (fun q hq => firstL_nm hq) _ hq) ?_
    rw [first_at n i g hi]
    show decide (kw g.kind = kReg1) = _
    have hk := hm.2
    cases hk' : g.kind with
    | reg b => cases b <;> decide +kernel
    | _ => rw [hk'] at hk; cases hk
end
end GN
namespace GN
open Sf33
open PySem (Str)
/-! ### the greatest of some numbers -/
theorem fmax_le {α : Type} (f : α → Nat) (m : Nat) : ∀ (l : List α) (a : Nat), l.foldl (fun d w => max d (f w)) a ≤ m ↔ a ≤ m ∧ ∀ w ∈ l, f w ≤ m
  | [], a => by simp
  | w :: l, a => by
    rw [List.foldl_cons, fmax_le f m l]
    simp only [List.mem_cons, forall_eq_or_imp]
    rw [Nat.max_le, and_assoc]
theorem fmax_eq {α : Type} (f : α → Nat) {l : List α} {m : Nat} (h1 : m ∈ l.map f) (h2 : ∀ x ∈ l.map f, x ≤ m) : l.foldl (fun d w => max d (f w)) 0 = m := by
  refine Nat.le_antisymm ((fmax_le f m l 0).mpr ⟨Nat.zero_le _, fun w hw => h2 _ (List.mem_map.mpr ⟨w, hw, rfl⟩)⟩) ?_
  obtain ⟨w, hw, rfl⟩ := List.mem_map.mp h1
  exact ((fmax_le f _ l 0).mp (Nat.le_refl _)).2 w hw
theorem fmax_snoc {α : Type} (f : α → Nat) (l : List α) (a : α) : (l ++ [a]).foldl (fun d w => max d (f w)) 0 = max (l.foldl (fun d w => max d (f w)) 0) (f a) := by
  rw [List.foldl_append]
  rfl
/-! ### what a gate takes at once, and how deep it lies -/
def nowG (g : Gate) : List Bytes := if g.kind.isReg = true then [] else g.from_
theorem now_enc (g : Gate) : (encG g).now = (nowG g).map en := by
  unfold PG.now nowG
  rw [show (encG g).kind = kw g.kind from rfl, isReg_kw]
  split
  · rfl
  · rfl
theorem deep_now {n : Net} (r : Right n) {g : Gate} (hg : g ∈ n.gates) : Net.deep n g.name = if nowG g = [] then 0 else ((nowG g).foldl (fun d w => max d (Net.deep n w)) 0) + 1 := by
  unfold nowG
  cases hr : g.kind.isReg with
  | true =>
    obtain ⟨i, hi⟩ := List.getElem?_of_mem (List.mem_filter.mpr ⟨hg, hr⟩ : g ∈ n.regs)
    rw [deep_reg r hi]
    rfl
  | false => exact deep_gate r hg hr
/-! ### the program's order as gates -/
theorem order_row {n : Net} : ∀ (order : List Str), (∀ z ∈ order, z ∈ (encN n).gn) → ∃ gs : List Gate, order = gs.map (fun g => en g.name) ∧ ∀ g ∈ gs, g ∈ n.gates
  | [], _ => ⟨[], rfl, fun g h => by cases h⟩
  | z :: order, h => by
    obtain ⟨gs, e, hm⟩ := order_row order fun y hy => h y (List.mem_cons_of_mem _ hy)
    have hz := h z List.mem_cons_self
    rw [gn_enc] at hz
    obtain ⟨v, hv, ev⟩ := List.mem_map.mp hz
    obtain ⟨g, hg, eg⟩ := List.mem_map.mp hv
    refine ⟨g :: gs, ?_, fun k hk => ?_⟩
    · rw [List.map_cons, ← e, ← ev, ← eg]
    · rcases List.mem_cons.mp hk with q | q
      · rw [q]; exact hg
      · exact hm k q
/-- gates, each behind those it takes -/
structure Ord (n : Net) (gs : List Gate) : Prop where
  mem : ∀ g ∈ gs, g ∈ n.gates
  all : ∀ g ∈ n.gates, g ∈ gs
  nd : (gs.map fun g => g.name).Nodup
  len : gs.length ≤ 1024
  top : ∀ (i : Nat) (g : Gate), gs[i]? = some g → ∀ s ∈ nowG g, s ∈ n.ins ∨ s ∈ (gs.take i).map fun g => g.name
theorem ord_of {n : Net} (G : Good n) {order : List Str} {wf : Str → Nat} (k : KInv (encN n).gn (encN n).aw order [] wf []) : ∃ gs : List Gate, order = gs.map (fun g => en g.name) ∧ Ord n gs := by
  have nd := k.nd
  have sub := k.sub
  rw [List.append_nil] at nd sub
  obtain ⟨gs, e, hm⟩ := order_row order sub
  have full : ∀ z ∈ (encN n).gn, z ∈ order := by
    have h := (order_iff G.fine k).mpr G.rank
    exact nodup_full nd sub (by omega)
  have gok : ∀ g ∈ n.gates, isName g.name = true := fun g hg => G.fine.gts g.name (List.mem_map.mpr ⟨g, hg, rfl⟩)
  have e2 : order = (gs.map fun g => g.name).map en := by rw [e, List.map_map]; rfl
  have gsok : ∀ v ∈ gs.map (fun g => g.name), isName v = true := by
    intro v hv
    obtain ⟨g, hg, rfl⟩ := List.mem_map.mp hv
    exact gok g (hm g hg)
  have nd2 : (gs.map fun g => g.name).Nodup := by
    rw [e2] at nd
    exact (List.pairwise_map.mp nd).imp fun h e => h (congrArg en e)
  refine ⟨gs, e, hm, fun g hg => ?_, nd2, ?_, fun i g hi s hs => ?_⟩
  · have h1 : en g.name ∈ order := full _ (by rw [gn_enc]; exact List.mem_map.mpr ⟨g.name, List.mem_map.mpr ⟨g, hg, rfl⟩, rfl⟩)
    rw [e2] at h1
    have h2 := (mem_en gsok g.name).mp h1
    obtain ⟨g', hg', e'⟩ := List.mem_map.mp h2
    rw [← gate_eq_of G.right.gts_nd (hm g' hg') hg e']
    exact hg'
  · have h1 : order.length ≤ (encN n).gn.length := nodup_le nd sub
    have h2 : order.length = gs.length := by rw [e, List.length_map]
    have h3 : (encN n).gn.length = n.gates.length := by rw [gn_enc]; simp
    have h4 : n.names.length = n.ins.length + n.gates.length := by simp [Net.names]
    have h5 := G.small.names
    omega
  · have hgm : g ∈ n.gates := hm g (List.mem_of_getElem? hi)
    unfold nowG at hs
    split at hs
    · cases hs
    · rename_i hr
      have hr' : g.kind.isReg = false := by simpa using hr
      have hsn : s ∈ n.names := G.known.from_ g hgm s hs
      rcases List.mem_append.mp hsn with h | h
      · exact .inl h
      · refine .inr ?_
        have hz : order[i]? = some (en g.name) := by rw [e, List.getElem?_map, hi]; rfl
        have ha : en s ∈ (encN n).aw (en g.name) := by
          rw [aw_enc G.fine]
          refine List.mem_map.mpr ⟨s, List.mem_filter.mpr ⟨?_, decide_eq_true h⟩, rfl⟩
          rw [takes_gate G.right hgm hr']
          exact hs
        have h1 := k.top i (en g.name) hz _ ha
        rw [e2, ← List.map_take] at h1
        have h2 := (mem_en (fun v hv => gsok v (List.mem_of_mem_take hv)) s).mp h1
        rw [List.map_take]
        exact h2
theorem ord_depth {n : Net} (r : Right n) {gs : List Gate} (o : Ord n gs) : gs.foldl (fun d g => max d (Net.deep n g.name)) 0 = n.depth := by
  rw [depth_names r]
  refine Nat.le_antisymm ((fmax_le (fun g : Gate => Net.deep n g.name) _ gs 0).mpr ⟨Nat.zero_le _, fun g hg => ?_⟩) ((fmax_le (Net.deep n) _ n.names 0).mpr ⟨Nat.zero_le _, fun w hw => ?_⟩)
  · exact ((fmax_le (Net.deep n) _ n.names 0).mp (Nat.le_refl _)).2 g.name (List.mem_append_right _ (List.mem_map.mpr ⟨g, o.mem g hg, rfl⟩))
  · rcases names_split hw with ⟨j, hj⟩ | ⟨g, hg, rfl⟩
    · rw [deep_in r hj]
      exact Nat.zero_le _
    · exact ((fmax_le (fun g : Gate => Net.deep n g.name) _ gs 0).mp (Nat.le_refl _)).2 g (o.all g hg)
end GN
namespace GN
open Sf33
open PySem (Str)
/-! ### a number's bits -/
theorem getD_snoc_lt (l : List Bool) (b : Bool) {r : Nat} (h : r < l.length) : (l ++ [b]).getD r false = l.getD r false := by
  rw [List.getD_eq_getElem?_getD, List.getD_eq_getElem?_getD, List.getElem?_append_left h]
theorem getD_snoc_eq (l : List Bool) (b : Bool) : (l ++ [b]).getD l.length false = b := by
  rw [List.getD_eq_getElem?_getD, List.getElem?_append_right (Nat.le_refl _), Nat.sub_self]
  rfl
theorem getD_out (l : List Bool) {r : Nat} (h : l.length ≤ r) : l.getD r false = false := by
  rw [List.getD_eq_getElem?_getD, List.getElem?_eq_none h]
  rfl
theorem bits_test : ∀ (k : Nat) (l : List Bool) (r : Nat), l.length = k → (bits l).testBit r = l.getD r false
  | 0, l, r, h => by
    rw [List.length_eq_zero_iff.mp h, bits_nil, Nat.zero_testBit, getD_out _ (Nat.zero_le _)]
  | k + 1, l, r, h => by
    rcases snoc_cases l with e | ⟨q, b, rfl⟩
    · subst e
      simp at h
    · have hq : q.length = k := by
        rw [List.length_append, List.length_singleton] at h
        omega
      have ih := bits_test k q r hq
      by_cases h1 : k + 1 ≤ r
      · rw [getD_out _ (by rw [h]; exact h1)]
        exact Nat.testBit_lt_two_pow (Nat.lt_of_lt_of_le (bits_lt (k + 1) _ h) (Nat.pow_le_pow_right (by decide) h1))
      · rw [bits_snoc, hq]
        by_cases h2 : r = k
        · subst h2
          rw [← hq, getD_snoc_eq, hq]
          cases b with
          | false =>
            rw [if_neg Bool.false_ne_true, Nat.add_zero, ih, getD_out _ (by omega)]
          | true =>
            rw [if_pos rfl, Nat.add_comm, Nat.testBit_two_pow_add_eq, ih, getD_out _ (by omega)]
            rfl
        · rw [getD_snoc_lt q b (by omega)]
          cases b with
          | false =>
            rw [if_neg Bool.false_ne_true, Nat.add_zero, ih]
          | true =>
            rw [if_pos rfl, Nat.add_comm, Nat.testBit_two_pow_add_gt (by omega), ih]
/-- the lowest bit -/
theorem low_bit : ∀ (n : Nat), n ≠ 0 → ∃ k a, n = 2 ^ k * (2 * a + 1) := by
  intro n
  induction n using Nat.strongRecOn with
  | ind n ih =>
    intro h
    by_cases he : n % 2 = 1
    · exact ⟨0, n / 2, by rw [Nat.pow_zero, Nat.one_mul]; omega⟩
    · obtain ⟨k, a, e⟩ := ih (n / 2) (by omega) (by omega)
      refine ⟨k + 1, a, ?_⟩
      rw [Nat.pow_succ, Nat.mul_assoc, Nat.mul_left_comm, ← e]
      omega
theorem low_test (k a : Nat) : (2 ^ k * (2 * a + 1)).testBit k = true ∧ ∀ j, j < k → (2 ^ k * (2 * a + 1)).testBit j = false := by
  constructor
  · rw [Nat.testBit_two_pow_mul, Nat.sub_self, Nat.testBit_zero]
    simp
  · intro j hj
    rw [Nat.testBit_two_pow_mul]
    simp
    omega
/-! ### columns -/
def slice (r : Nat) (C : List Nat) : List Bool := C.map fun c => c.testBit r
def Low (rows : Nat) (C : List Nat) : Prop := ∀ c ∈ C, c < 2 ^ rows
theorem Low.at {rows : Nat} {C : List Nat} (h : Low rows C) (i : Nat) : C.getD i 0 < 2 ^ rows := by
  rw [List.getD_eq_getElem?_getD]
  cases e : C[i]? with
  | none => exact Nat.two_pow_pos rows
  | some c => exact h c (List.mem_of_getElem? e)
theorem Low.set {rows : Nat} {C : List Nat} (h : Low rows C) (i : Nat) {c : Nat} (hc : c < 2 ^ rows) : Low rows (C.set i c) := by
  intro x hx
  rcases List.mem_or_eq_of_mem_set hx with q | q
  · exact h x q
  · rw [q]; exact hc
theorem slice_at (r : Nat) (C : List Nat) (i : Nat) : bAt (slice r C) i = (C.getD i 0).testBit r := by
  unfold bAt slice
  rw [List.getD_eq_getElem?_getD, List.getD_eq_getElem?_getD, List.getElem?_map]
  cases C[i]? with
  | none => exact (Nat.zero_testBit r).symm
  | some c => rfl
theorem slice_set (r : Nat) (C : List Nat) (i c : Nat) : slice r (C.set i c) = (slice r C).set i (c.testBit r) := by
  unfold slice
  rw [List.map_set]
def setsN (nms : List Str) (L : List (Str × Nat)) (C : List Nat) : List Nat := L.foldl (fun C q => C.set (pl nms q.1) q.2) C
theorem setsN_snoc (nms : List Str) (L : List (Str × Nat)) (q : Str × Nat) (C : List Nat) : setsN nms (L ++ [q]) C = (setsN nms L C).set (pl nms q.1) q.2 := by
  unfold setsN
  rw [List.foldl_append]
  rfl
theorem setsN_len (nms : List Str) : ∀ (L : List (Str × Nat)) (C : List Nat), (setsN nms L C).length = C.length
  | [], _ => rfl
  | q :: L, C => by
    show (setsN nms L (C.set (pl nms q.1) q.2)).length = _
    rw [setsN_len nms L, List.length_set]
theorem slice_sets (nms : List Str) (r : Nat) : ∀ (L : List (Str × Nat)) (C : List Nat), slice r (setsN nms L C) = sets nms (L.map fun q => (q.1, q.2.testBit r)) (slice r C)
  | [], _ => rfl
  | q :: L, C => by
    show slice r (setsN nms L (C.set (pl nms q.1) q.2)) = sets nms (L.map fun q => (q.1, q.2.testBit r)) ((slice r C).set (pl nms q.1) (q.2.testBit r))
    rw [slice_sets nms r L, slice_set]
theorem setsN_low {rows : Nat} (nms : List Str) : ∀ (L : List (Str × Nat)) (C : List Nat), (∀ q ∈ L, q.2 < 2 ^ rows) → Low rows C → Low rows (setsN nms L C)
  | [], _, _, h => h
  | q :: L, C, hL, h => setsN_low nms L _ (fun x hx => hL x (List.mem_cons_of_mem _ hx)) (h.set _ (hL q List.mem_cons_self))
/-! ### a gate's column -/
def pick (k full a : Nat) : Nat := if k = 0 then full ^^^ a else a
def term (full a b c i : Nat) : Nat := pick (i / 4) full a &&& pick (i / 2 % 2) full b &&& pick (i % 2) full c
def gcol (tab : List Bool) (full a b c : Nat) : Nat → Nat
  | 0 => 0
  | i + 1 => if tab.getD i false = true then gcol tab full a b c i ||| term full a b c i else gcol tab full a b c i
theorem full_test {rows r : Nat} (h : r < rows) : (2 ^ rows - 1).testBit r = true := by
  rw [Nat.testBit_two_pow_sub_one]
  exact decide_eq_true h
theorem full_lt (rows : Nat) : 2 ^ rows - 1 < 2 ^ rows := Nat.sub_lt (Nat.two_pow_pos rows) (by decide)
theorem pick_test {rows r : Nat} (h : r < rows) (k a : Nat) (hk : k < 2) : (pick k (2 ^ rows - 1) a).testBit r = decide (b2n (a.testBit r) = k) := by
  unfold pick
  by_cases h0 : k = 0
  · rw [if_pos h0, Nat.testBit_xor, full_test h, h0]
    cases a.testBit r <;> decide
  · have h1 : k = 1 := by omega
    rw [if_neg h0, h1]
    cases a.testBit r <;> decide
theorem pick_low {rows : Nat} (k : Nat) {a : Nat} (h : a < 2 ^ rows) : pick k (2 ^ rows - 1) a < 2 ^ rows := by
  unfold pick
  split
  · exact Nat.xor_lt_two_pow (full_lt rows) h
  · exact h
theorem term_test {rows r : Nat} (h : r < rows) (a b c i : Nat) (hi : i < 8) : (term (2 ^ rows - 1) a b c i).testBit r = decide (4 * b2n (a.testBit r) + 2 * b2n (b.testBit r) + b2n (c.testBit r) = i) := by
  unfold term
  rw [Nat.testBit_and, Nat.testBit_and, pick_test h _ _ (by omega), pick_test h _ _ (by omega), pick_test h _ _ (by omega)]
  have ha : b2n (a.testBit r) ≤ 1 := by unfold b2n; split <;> decide
  have hb : b2n (b.testBit r) ≤ 1 := by unfold b2n; split <;> decide
  have hc : b2n (c.testBit r) ≤ 1 := by unfold b2n; split <;> decide
  generalize b2n (a.testBit r) = x at *
  generalize b2n (b.testBit r) = y at *
  generalize b2n (c.testBit r) = z at *
  rw [Bool.eq_iff_iff]
  simp only [Bool.and_eq_true, decide_eq_true_eq]
  omega
theorem gcol_test {rows r : Nat} (h : r < rows) (tab : List Bool) (a b c : Nat) : ∀ i, i ≤ 8 → (gcol tab (2 ^ rows - 1) a b c i).testBit r = (decide (4 * b2n (a.testBit r) + 2 * b2n (b.testBit r) + b2n (c.testBit r) < i) && tab.getD (4 * b2n (a.testBit r) + 2 * b2n (b.testBit r) + b2n (c.testBit r)) false)
  | 0, _ => by
    show Nat.testBit 0 r = _
    rw [Nat.zero_testBit, decide_eq_false (Nat.not_lt_zero _), Bool.false_and]
  | i + 1, hi => by
    have ih := gcol_test h tab a b c i (by omega)
    have ht := term_test h a b c i (by omega)
    show (if tab.getD i false = true then gcol tab (2 ^ rows - 1) a b c i ||| term (2 ^ rows - 1) a b c i else gcol tab (2 ^ rows - 1) a b c i).testBit r = _
    generalize 4 * b2n (a.testBit r) + 2 * b2n (b.testBit r) + b2n (c.testBit r) = x at *
    by_cases ex : x = i
    · subst ex
      rw [decide_eq_false (Nat.lt_irrefl x), Bool.false_and] at ih
      rw [decide_eq_true (Nat.lt_succ_self x), Bool.true_and]
      by_cases hb : tab.getD x false = true
      · rw [if_pos hb, Nat.testBit_or, ih, ht, hb, decide_eq_true rfl]
        rfl
      · rw [if_neg hb, ih]
        simpa using hb
    · rw [decide_eq_false ex] at ht
      have e : decide (x < i + 1) = decide (x < i) := by
        rw [Bool.eq_iff_iff]
        simp only [decide_eq_true_eq]
        omega
      rw [e, ← ih]
      split
      · rw [Nat.testBit_or, ht, Bool.or_false]
      · rfl
theorem gcol_low {rows : Nat} (tab : List Bool) {a b c : Nat} (ha : a < 2 ^ rows) : ∀ i, gcol tab (2 ^ rows - 1) a b c i < 2 ^ rows
  | 0 => Nat.two_pow_pos rows
  | i + 1 => by
    have ih := gcol_low tab (b := b) (c := c) ha i
    have ht : term (2 ^ rows - 1) a b c i < 2 ^ rows := Nat.lt_of_le_of_lt (Nat.le_trans Nat.and_le_left Nat.and_le_left) (pick_low _ ha)
    show (if tab.getD i false = true then gcol tab (2 ^ rows - 1) a b c i ||| term (2 ^ rows - 1) a b c i else gcol tab (2 ^ rows - 1) a b c i) < 2 ^ rows
    split
    · exact Nat.or_lt_two_pow ih ht
    · exact ih
/-! ### the gates' columns -/
def gvalN (nms : List Str) (full : Nat) (g : PG) (C : List Nat) : Nat := gcol (tabK g.kind) full (C.getD ((sidx nms g).getD 0 0) 0) (C.getD ((sidx nms g).getD 1 0) 0) (C.getD ((sidx nms g).getD 2 0) 0) (tabK g.kind).length
def gsetN (nms : List Str) (full : Nat) (C : List Nat) (g : PG) : List Nat := C.set (pl nms g.name) (gvalN nms full g C)
def gatesN (nms : List Str) (full : Nat) (L : List PG) (C : List Nat) : List Nat := L.foldl (gsetN nms full) C
theorem gatesN_snoc (nms : List Str) (full : Nat) (L : List PG) (g : PG) (C : List Nat) : gatesN nms full (L ++ [g]) C = gsetN nms full (gatesN nms full L C) g := by
  unfold gatesN
  rw [List.foldl_append]
  rfl
theorem gatesN_len (nms : List Str) (full : Nat) : ∀ (L : List PG) (C : List Nat), (gatesN nms full L C).length = C.length
  | [], _ => rfl
  | g :: L, C => by
    show (gatesN nms full L (gsetN nms full C g)).length = _
    rw [gatesN_len nms full L]
    exact List.length_set
theorem ite_len {c : Prop} [Decidable c] {x y : List Bool} {n : Nat} (hx : x.length ≤ n) (hy : y.length ≤ n) : (if c then x else y).length ≤ n := by
  by_cases h : c
  · rw [if_pos h]; exact hx
  · rw [if_neg h]; exact hy
theorem tabK_len (k : Str) : (tabK k).length ≤ 8 := by
  unfold tabK
  exact ite_len (by decide) (ite_len (by decide) (ite_len (by decide) (ite_len (by decide) (ite_len (by decide) (ite_len (by decide) (ite_len (by decide) (ite_len (by decide) (ite_len (by decide) (ite_len (by decide) (ite_len (by decide) (ite_len (by decide) (by decide))))))))))))
theorem gval_test {rows r : Nat} (h : r < rows) (nms : List Str) (g : PG) (C : List Nat) : (gvalN nms (2 ^ rows - 1) g C).testBit r = gval nms g (slice r C) := by
  unfold gvalN gval gix
  rw [gcol_test h _ _ _ _ _ (tabK_len g.kind), slice_at, slice_at, slice_at]
  generalize 4 * b2n _ + 2 * b2n _ + b2n _ = x
  by_cases hx : x < (tabK g.kind).length
  · rw [decide_eq_true hx, Bool.true_and]
  · rw [decide_eq_false hx, Bool.false_and, getD_out _ (by omega)]
theorem slice_gates {rows r : Nat} (h : r < rows) (nms : List Str) : ∀ (L : List PG) (C : List Nat), slice r (gatesN nms (2 ^ rows - 1) L C) = gates nms L (slice r C)
  | [], _ => rfl
  | g :: L, C => by
    show slice r (gatesN nms (2 ^ rows - 1) L (gsetN nms (2 ^ rows - 1) C g)) = gates nms L (gset nms (slice r C) g)
    rw [slice_gates h nms L]
    unfold gsetN gset
    rw [slice_set, gval_test h]
theorem gatesN_low {rows : Nat} (nms : List Str) : ∀ (L : List PG) (C : List Nat), Low rows C → Low rows (gatesN nms (2 ^ rows - 1) L C)
  | [], _, h => h
  | g :: L, C, h => gatesN_low nms L _ (h.set _ (gcol_low _ (h.at _) _))
/-! ### the outputs' columns -/
def colsN (p : PN) (row : List PG) (full : Nat) (ic : List Nat) : List Nat := gatesN (nmsP p) full row (setsN (nmsP p) (p.ins.zip ic) (List.replicate ((nmsP p).length + 1) 0))
def outN (p : PN) (row : List PG) (full : Nat) (ic : List Nat) : List Nat := p.outs.map fun z => (colsN p row full ic).getD (pl (nmsP p) z) 0
theorem low_zero (rows k : Nat) : Low rows (List.replicate k 0) := by
  intro c hc
  rw [(List.mem_replicate.mp hc).2]
  exact Nat.two_pow_pos rows
theorem colsN_low {rows : Nat} (p : PN) (row : List PG) {ic : List Nat} (h : Low rows ic) : Low rows (colsN p row (2 ^ rows - 1) ic) :=
  gatesN_low _ _ _ (setsN_low _ _ _ (fun q hq => h _ (List.of_mem_zip hq).2) (low_zero rows _))
theorem outN_low {rows : Nat} (p : PN) (row : List PG) {ic : List Nat} (h : Low rows ic) : Low rows (outN p row (2 ^ rows - 1) ic) := by
  intro c hc
  obtain ⟨z, hz, rfl⟩ := List.mem_map.mp hc
  exact (colsN_low p row h).at _
theorem slice_zero (r k : Nat) : slice r (List.replicate k 0) = List.replicate k false := by
  unfold slice
  rw [List.map_replicate, Nat.zero_testBit]
theorem out_slice {n : Net} (G : Good n) (hregs : n.regs = []) {order : List Str} {wf : Str → Nat} (k : KInv (encN n).gn (encN n).aw order [] wf []) {rows r x : Nat} (hr : r < rows) {ic : List Nat}
    (hl : ic.length = n.ins.length) (hc : ∀ j, j < n.ins.length → (ic.getD j 0).testBit r = x.testBit j) : slice r (outN (encN n) (rowOf (encN n) order) (2 ^ rows - 1) ic) = n.outs.map (n.at_ [] x) := by
  have hfit : Fits n [] (List.replicate ((nmsP (encN n)).length + 1) false) := by
    refine ⟨List.length_replicate, ?_, fun i g hi => ?_⟩
    · unfold bAt
      simp [List.getD_eq_getElem?_getD]
    · rw [hregs] at hi
      cases hi
  have hins : ((encN n).ins.zip ic).map (fun q => (q.1, q.2.testBit r)) = inL (encN n) x := by
    unfold inL
    refine List.ext_getElem? fun j => ?_
    rw [List.getElem?_map, List.getElem?_map, List.getElem?_zipIdx]
    have e1 : (encN n).ins.length = n.ins.length := List.length_map ..
    by_cases hj : j < n.ins.length
    · have h1 : j < (encN n).ins.length := by rw [e1]; exact hj
      have h2 : j < ic.length := by rw [hl]; exact hj
      have h3 := hc j hj
      rw [List.getD_eq_getElem?_getD, List.getElem?_eq_getElem h2] at h3
      rw [List.getElem?_eq_getElem (show j < ((encN n).ins.zip ic).length by rw [List.length_zip]; omega), List.getElem_zip, List.getElem?_eq_getElem h1]
      show some (_, ic[j].testBit r) = some (_, x.testBit (0 + j))
      rw [Nat.zero_add, ← h3]
      rfl
    · rw [List.getElem?_eq_none (show ((encN n).ins.zip ic).length ≤ j by rw [List.length_zip]; omega), List.getElem?_eq_none (show (encN n).ins.length ≤ j by omega)]
      rfl
  have hcols : slice r (colsN (encN n) (rowOf (encN n) order) (2 ^ rows - 1) ic) = B2 (encN n) (rowOf (encN n) order) (List.replicate ((nmsP (encN n)).length + 1) false) x := by
    unfold colsN B2 B1
    rw [slice_gates hr, slice_sets, slice_zero, hins]
  unfold outN
  show slice r ((n.outs.map en).map _) = _
  unfold slice
  rw [List.map_map, List.map_map]
  refine List.map_congr_left fun w hw => ?_
  show ((colsN (encN n) (rowOf (encN n) order) (2 ^ rows - 1) ic).getD (pl (nmsP (encN n)) (en w)) 0).testBit r = _
  rw [← slice_at, hcols]
  exact beat_at G k hfit w (G.known.outs w hw)
/-! ### the inputs' columns -/
def within (m : Nat) : Nat := min m 11
def countC (rows j : Nat) : Nat := bits ((List.range rows).map fun r => r.testBit j)
def inC (m blk : Nat) : List Nat := (List.range (within m)).map (countC (2 ^ within m)) ++ (List.range (m - within m)).map fun j => (2 ^ 2 ^ within m - 1) * b2n (blk.testBit j)
theorem within_le (m : Nat) : within m ≤ m := Nat.min_le_left _ _
theorem within_11 (m : Nat) : within m ≤ 11 := Nat.min_le_right _ _
theorem inC_len (m blk : Nat) : (inC m blk).length = m := by
  unfold inC
  rw [List.length_append, List.length_map, List.length_map, List.length_range, List.length_range]
  have := within_le m
  omega
theorem count_test {rows j r : Nat} (h : r < rows) : (countC rows j).testBit r = r.testBit j := by
  unfold countC
  rw [bits_test _ _ _ rfl, List.getD_eq_getElem?_getD, List.getElem?_map, List.getElem?_range h]
  rfl
theorem count_low (rows j : Nat) : countC rows j < 2 ^ rows := by
  have := bits_lt _ ((List.range rows).map fun r => r.testBit j) rfl
  rw [List.length_map, List.length_range] at this
  exact this
theorem inC_low (m blk : Nat) : Low (2 ^ within m) (inC m blk) := by
  intro c hc
  rcases List.mem_append.mp hc with h | h
  · obtain ⟨j, _, rfl⟩ := List.mem_map.mp h
    exact count_low _ _
  · obtain ⟨j, _, rfl⟩ := List.mem_map.mp h
    show (2 ^ 2 ^ within m - 1) * b2n (blk.testBit j) < _
    have h1 := full_lt (2 ^ within m)
    unfold b2n
    split
    · rw [Nat.mul_one]; exact h1
    · rw [Nat.mul_zero]; exact Nat.two_pow_pos _
theorem inC_test {m blk r j : Nat} (hr : r < 2 ^ within m) (hj : j < m) : ((inC m blk).getD j 0).testBit r = (blk * 2 ^ within m + r).testBit j := by
  rw [Nat.mul_comm, Nat.testBit_two_pow_mul_add _ hr]
  unfold inC
  rw [List.getD_eq_getElem?_getD]
  by_cases h : j < within m
  · rw [if_pos h, List.getElem?_append_left (by rw [List.length_map, List.length_range]; exact h), List.getElem?_map, List.getElem?_range h]
    exact count_test hr
  · have h2 : j - within m < m - within m := by omega
    rw [if_neg h, List.getElem?_append_right (by rw [List.length_map, List.length_range]; omega), List.length_map, List.length_range, List.getElem?_map, List.getElem?_range h2]
    show ((2 ^ 2 ^ within m - 1) * b2n (blk.testBit (j - within m))).testBit r = _
    cases blk.testBit (j - within m) with
    | false => exact Nat.zero_testBit r
    | true =>
      show ((2 ^ 2 ^ within m - 1) * 1).testBit r = true
      rw [Nat.mul_one]
      exact full_test hr
/-! ### rows in which two lists of columns are apart -/
def apart (xs ys : List Nat) : Nat → Nat
  | 0 => 0
  | i + 1 => apart xs ys i ||| (xs.getD i 0 ^^^ ys.getD i 0)
theorem apart_test (xs ys : List Nat) (r : Nat) : ∀ i, (apart xs ys i).testBit r = true ↔ ∃ k, k < i ∧ (xs.getD k 0).testBit r ≠ (ys.getD k 0).testBit r
  | 0 => by
    show Nat.testBit 0 r = true ↔ _
    rw [Nat.zero_testBit]
    constructor
    · intro h; cases h
    · rintro ⟨k, hk, _⟩; omega
  | i + 1 => by
    show (apart xs ys i ||| (xs.getD i 0 ^^^ ys.getD i 0)).testBit r = true ↔ _
    rw [Nat.testBit_or, Nat.testBit_xor, Bool.or_eq_true, apart_test xs ys r i]
    constructor
    · rintro (⟨k, hk, h⟩ | h)
      · exact ⟨k, by omega, h⟩
      · exact ⟨i, by omega, by simpa using h⟩
    · rintro ⟨k, hk, h⟩
      by_cases e : k = i
      · subst e
        exact .inr (by simpa using h)
      · exact .inl ⟨k, by omega, h⟩
theorem apart_low {rows : Nat} {xs ys : List Nat} (hx : Low rows xs) (hy : Low rows ys) : ∀ i, apart xs ys i < 2 ^ rows
  | 0 => Nat.two_pow_pos rows
  | i + 1 => Nat.or_lt_two_pow (apart_low hx hy i) (Nat.xor_lt_two_pow (hx.at i) (hy.at i))
theorem slice_ne {xs ys : List Nat} {L r : Nat} (hx : xs.length = L) (hy : ys.length = L) : (apart xs ys L).testBit r = true ↔ bits (slice r xs) ≠ bits (slice r ys) := by
  have lx : (slice r xs).length = L := by unfold slice; rw [List.length_map]; exact hx
  have ly : (slice r ys).length = L := by unfold slice; rw [List.length_map]; exact hy
  rw [apart_test]
  constructor
  · rintro ⟨k, hk, h⟩ e
    have e2 := bits_inj L _ _ lx ly e
    rw [← slice_at, ← slice_at, e2] at h
    exact h rfl
  · intro h
    apply Classical.byContradiction
    intro hn
    refine h (congrArg bits (List.ext_getElem (by rw [lx, ly]) fun i h1 h2 => ?_))
    have hi : i < L := by rw [← lx]; exact h1
    have e : (xs.getD i 0).testBit r = (ys.getD i 0).testBit r := by
      apply Classical.byContradiction
      intro hne
      exact hn ⟨i, hi, hne⟩
    rw [← slice_at, ← slice_at] at e
    unfold bAt at e
    rw [List.getD_eq_getElem?_getD, List.getD_eq_getElem?_getD, List.getElem?_eq_getElem h1, List.getElem?_eq_getElem h2] at e
    exact e
/-! ### the least number that tells two networks apart -/
def Tells (a b : Net) (x : Nat) : Prop := bits (a.outs.map (a.at_ [] x)) ≠ bits (b.outs.map (b.at_ [] x))
theorem differ_some {a b : Net} {m x : Nat} (hx : x < 2 ^ m) (h : Tells a b x) (h0 : ∀ y, y < x → ¬ Tells a b y) : differ a.ready b.ready m = some x := by
  rw [differ_eq, List.find?_range_eq_some]
  refine ⟨by unfold Tells at h; simpa using h, List.mem_range.mpr hx, fun y hy => ?_⟩
  have := h0 y hy
  unfold Tells at this
  simpa using this
theorem differ_none {a b : Net} {m : Nat} (h0 : ∀ y, y < 2 ^ m → ¬ Tells a b y) : differ a.ready b.ready m = none := by
  rw [differ_eq, List.find?_range_eq_none]
  intro y hy
  have := h0 y hy
  unfold Tells at this
  simpa using this
/-- what is known of a machine whose network has no registers -/
structure Plain (n : Net) (m : Nat) (order : List Str) : Prop where
  good : Good n
  regs : n.regs = []
  ins : n.ins.length = m
  kinv : ∃ wf : Str → Nat, KInv (encN n).gn (encN n).aw order [] wf []
def outC (n : Net) (order : List Str) (m blk : Nat) : List Nat := outN (encN n) (rowOf (encN n) order) (2 ^ 2 ^ within m - 1) (inC m blk)
theorem outC_len (n : Net) (order : List Str) (m blk : Nat) : (outC n order m blk).length = n.outs.length := by
  unfold outC outN
  show ((n.outs.map en).map _).length = _
  rw [List.length_map, List.length_map]
theorem block_test {a b : Net} {oa ob : List Str} {m blk r L : Nat} (pa : Plain a m oa) (pb : Plain b m ob) (la : a.outs.length = L) (lb : b.outs.length = L) (hr : r < 2 ^ within m) :
    (apart (outC a oa m blk) (outC b ob m blk) L).testBit r = true ↔ Tells a b (blk * 2 ^ within m + r) := by
  obtain ⟨wa, ka⟩ := pa.kinv
  obtain ⟨wb, kb⟩ := pb.kinv
  rw [slice_ne (by rw [outC_len, la]) (by rw [outC_len, lb])]
  have ea : slice r (outC a oa m blk) = a.outs.map (a.at_ [] (blk * 2 ^ within m + r)) := out_slice pa.good pa.regs ka hr (by rw [inC_len, pa.ins]) fun j hj => inC_test hr (by rw [← pa.ins]; exact hj)
  have eb : slice r (outC b ob m blk) = b.outs.map (b.at_ [] (blk * 2 ^ within m + r)) := out_slice pb.good pb.regs kb hr (by rw [inC_len, pb.ins]) fun j hj => inC_test hr (by rw [← pb.ins]; exact hj)
  rw [ea, eb]
  exact Iff.rfl
theorem block_zero {a b : Net} {oa ob : List Str} {m blk L : Nat} (pa : Plain a m oa) (pb : Plain b m ob) (la : a.outs.length = L) (lb : b.outs.length = L) (h : apart (outC a oa m blk) (outC b ob m blk) L = 0)
    (h0 : ∀ y, y < blk * 2 ^ within m → ¬ Tells a b y) : ∀ y, y < (blk + 1) * 2 ^ within m → ¬ Tells a b y := by
  intro y hy ht
  by_cases hl : y < blk * 2 ^ within m
  · exact h0 y hl ht
  · rw [Nat.add_mul, Nat.one_mul] at hy
    have e : y = blk * 2 ^ within m + (y - blk * 2 ^ within m) := by omega
    rw [e] at ht
    have := (block_test pa pb la lb (blk := blk) (r := y - blk * 2 ^ within m) (by omega)).mpr ht
    rw [h, Nat.zero_testBit] at this
    cases this
theorem block_some {a b : Net} {oa ob : List Str} {m blk L k v : Nat} (pa : Plain a m oa) (pb : Plain b m ob) (la : a.outs.length = L) (lb : b.outs.length = L) (h : apart (outC a oa m blk) (outC b ob m blk) L = 2 ^ k * (2 * v + 1))
    (h0 : ∀ y, y < blk * 2 ^ within m → ¬ Tells a b y) (hb : blk < 2 ^ (m - within m)) : differ a.ready b.ready m = some (blk * 2 ^ within m + k) := by
  have hlow := apart_low (outN_low (encN a) (rowOf (encN a) oa) (inC_low m blk)) (outN_low (encN b) (rowOf (encN b) ob) (inC_low m blk)) L
  have hlow' : apart (outC a oa m blk) (outC b ob m blk) L < 2 ^ 2 ^ within m := hlow
  obtain ⟨t1, t2⟩ := low_test k v
  rw [← h] at t1 t2
  have hk : k < 2 ^ within m := by
    apply Classical.byContradiction
    intro hn
    rw [Nat.testBit_lt_two_pow (Nat.lt_of_lt_of_le hlow' (Nat.pow_le_pow_right (by decide) (by omega)))] at t1
    cases t1
  have em : 2 ^ m = 2 ^ (m - within m) * 2 ^ within m := by
    rw [← Nat.pow_add]
    congr 1
    have := within_le m
    omega
  refine differ_some ?_ ((block_test pa pb la lb hk).mp t1) fun y hy ht => ?_
  · rw [em]
    have h1 : (blk + 1) * 2 ^ within m ≤ 2 ^ (m - within m) * 2 ^ within m := Nat.mul_le_mul_right _ hb
    rw [Nat.add_mul, Nat.one_mul] at h1
    omega
  · by_cases hl : y < blk * 2 ^ within m
    · exact h0 y hl ht
    · have e : y = blk * 2 ^ within m + (y - blk * 2 ^ within m) := by omega
      rw [e] at ht
      have := (block_test pa pb la lb (blk := blk) (r := y - blk * 2 ^ within m) (by omega)).mpr ht
      rw [t2 _ (by omega)] at this
      cases this
theorem block_none {a b : Net} {m : Nat} (h0 : ∀ y, y < 2 ^ (m - within m) * 2 ^ within m → ¬ Tells a b y) : differ a.ready b.ready m = none := by
  refine differ_none fun y hy => h0 y ?_
  rw [← Nat.pow_add]
  have := within_le m
  rw [show m - within m + within m = m by omega]
  exact hy
end GN
namespace GN
open PySem PySem.Spec PyProof.Rows L2
/-! ### the text by places -/
def top (i : Nat) : Stmt := PySem.Challenge.pw_gatenets_s03_same.main.body.getD i (.Pass ⟨0, 0, 0, 0⟩)
abbrev sGateInit : Stmt := inClass (top 17) 0
abbrev sNetInit : Stmt := inClass (top 18) 0
abbrev sMachInit : Stmt := inClass (top 19) 0
abbrev sSame : Stmt := top 20
abbrev sRead : Stmt := top 21
abbrev sSpell : Stmt := top 22
abbrev sLine : Stmt := top 23
abbrev sAddIn : Stmt := top 24
abbrev sAddOut : Stmt := top 25
abbrev sAddGate : Stmt := top 26
abbrev sIsName : Stmt := top 27
abbrev sIsGiven : Stmt := top 28
abbrev sNew : Stmt := top 29
abbrev sMany : Stmt := top 30
abbrev sUnknown : Stmt := top 31
abbrev sLoops : Stmt := top 32
abbrev sAtOnce : Stmt := top 33
abbrev sOrder : Stmt := top 34
abbrev sPlace : Stmt := top 35
abbrev sFirst : Stmt := top 36
abbrev sSteps : Stmt := top 37
abbrev sMoves : Stmt := top 38
abbrev sComp : Stmt := top 39
abbrev sHasR : Stmt := top 40
abbrev sLeast : Stmt := top 41
abbrev sCount : Stmt := top 42
abbrev sOutC : Stmt := top 43
abbrev sGateC : Stmt := top 44
abbrev sApart : Stmt := top 45
abbrev sLow : Stmt := top 46
end GN
namespace GN
open PySem PySem.Spec PyProof.Rows L2
/-! ### rules that the layer lacks -/
/-- X(), X an own exception class without own __init__ -/
theorem pmk_own0 {X : Cx} {C : Addr} {bmB : List Value} {B newId initId : String} {x : Str} {p pos : Pos} (F : ExcBaseFacts B newId initId bmB) (q : PySem.W.excIn X.K C bmB newId = true) (gC : X.mg x = some (.ref C))
    (kC : PySem.W.keepIn X.K (.ref C) = true) (r : Raises X (.ref C)) (hg : Gl X x) (hdb : (x == ("__debug__" : Str)) = false := by decide) :
    PMk X (.Call (.Name x p) [] [] pos) (fun _ H Q => Q (.ref C) none H) := by
  intro pins s σ H Q I h
  refine wpAny_Call_Name_kw (ld_glob I hg gC ?_ hdb)
  refine PySem.W.callWith_K0 I.kIn kC ?_
  show wpAny _ _ (call (.ref C) []) _ _ _
  obtain ⟨bm, N, nm, qn, bs, hdct, sn, sub, ab, col, dd, k0, k1, k2, k3, k5, mN, hC, hN, hni, T⟩ := exc_obj I.kIn q
  refine wpAny_call_exc_subT F T hC hN hni (fun h' e hm => ?_) (Nat.zero_le _)
  exact mk_of I hm r h (I.hok.gone hm.new)
theorem if_t {c : Bool} {A B : Prop} (hc : c = true) (h : A) : if c = true then A else B := by
  rw [if_pos hc]
  exact h
theorem if_f {c : Bool} {A B : Prop} (hc : c = false) (h : B) : if c = true then A else B := by
  rw [hc, if_neg Bool.false_ne_true]
  exact h
/-- a field that is there, another that is skipped -/
theorem fld_hit (k : Str) (v : V) (r : List (Str × V)) : List.lookup k ((k, v) :: r) = some v := by
  unfold List.lookup
  rw [show (k == k) = true from BEq.rfl]
theorem fld_skip {k g : Str} (v : V) (r : List (Str × V)) (h : (k == g) = false) : List.lookup k ((g, v) :: r) = List.lookup k r := by
  conv => lhs; unfold List.lookup
  rw [h]
theorem put_skip {f g : Str} (v x : V) (r : List (Str × V)) (h : ¬ g = f) : putF f v ((g, x) :: r) = (g, x) :: putF f v r := by
  unfold putF
  rw [if_neg h]
  cases r <;> rfl
/-! ### the heap -/
/-- a gate of the table: what it is, and where it lies -/
structure GR where
  pg : PG
  ga : Addr
  dx : Addr
  sa : Addr
/-- where a network lies: its object, its own dict, its inputs, outputs, gates -/
structure NAd where
  a : Addr
  dx : Addr
  di : Addr
  dl : Addr
  dg : Addr
def gF (k : Str) (sa : Addr) : List (Str × V) := [("kind", .str k), ("sources", .ref sa)]
def nF (A : NAd) : List (Str × V) := [("inputs", .ref A.di), ("outputs", .ref A.dl), ("gates", .ref A.dg)]
def insK (ins : List Str) : List (Key × V) := ins.zipIdx.map fun q => (Sum.inr q.1, .int (q.2 : Nat))
def gatesK (tb : List GR) : List (Key × V) := tb.map fun r => (Sum.inr r.pg.name, .ref r.ga)
structure GAt (CG : Addr) (H : Hp) (r : GR) : Prop where
  ob : H r.ga = some (.ins CG r.dx (gF r.pg.kind r.sa))
  src : H r.sa = some (.lst (r.pg.src.map V.str))
structure NOk (CN CG : Addr) (H : Hp) (A : NAd) (p : PN) (tb : List GR) : Prop where
  ob : H A.a = some (.ins CN A.dx (nF A))
  ins : H A.di = some (.dK (insK p.ins))
  outs : H A.dl = some (.lst (p.outs.map V.str))
  gates : H A.dg = some (.dK (gatesK tb))
  apart : A.di ≠ A.dg
  row : p.gates = tb.map GR.pg
  each : ∀ r ∈ tb, GAt CG H r
  free : ∀ r ∈ tb, r.sa ≠ A.dl
/-- all but a network's three parts stays -/
def Keep (A : NAd) (H H' : Hp) : Prop := ∀ b o, H b = some o → b ≠ A.di → b ≠ A.dl → b ≠ A.dg → H' b = some o
theorem Keep.of_same {A : NAd} {H H' : Hp} (s : Same H H') : Keep A H H' := fun b o e _ _ _ => s b o e
theorem Keep.trans {A : NAd} {H H1 H2 : Hp} (a : Keep A H H1) (b : Keep A H1 H2) : Keep A H H2 := fun c o e h1 h2 h3 => b c o (a c o e h1 h2 h3) h1 h2 h3
theorem GAt.keep {CG : Addr} {H H' : Hp} {r : GR} {S : Addr → Prop} (g : GAt CG H r) (k : ∀ b o, H b = some o → ¬ S b → H' b = some o) (h1 : ¬ S r.ga) (h2 : ¬ S r.sa) : GAt CG H' r := ⟨k _ _ g.ob h1, k _ _ g.src h2⟩
theorem NOk.same {CN CG : Addr} {H H' : Hp} {A : NAd} {p : PN} {tb : List GR} (n : NOk CN CG H A p tb) (s : Same H H') : NOk CN CG H' A p tb :=
  ⟨s _ _ n.ob, s _ _ n.ins, s _ _ n.outs, s _ _ n.gates, n.apart, n.row, fun r hr => ⟨s _ _ (n.each r hr).ob, s _ _ (n.each r hr).src⟩, n.free⟩
theorem nF_in (A : NAd) : (nF A).lookup ("inputs" : Str) = some (.ref A.di) := fld_hit _ _ _
theorem nF_out (A : NAd) : (nF A).lookup ("outputs" : Str) = some (.ref A.dl) := (fld_skip _ _ (by decide +kernel)).trans (fld_hit _ _ _)
theorem nF_gates (A : NAd) : (nF A).lookup ("gates" : Str) = some (.ref A.dg) := (fld_skip _ _ (by decide +kernel)).trans ((fld_skip _ _ (by decide +kernel)).trans (fld_hit _ _ _))
theorem gF_kind (k : Str) (sa : Addr) : (gF k sa).lookup ("kind" : Str) = some (.str k) := fld_hit _ _ _
theorem gF_src (k : Str) (sa : Addr) : (gF k sa).lookup ("sources" : Str) = some (.ref sa) := (fld_skip _ _ (by decide +kernel)).trans (fld_hit _ _ _)
theorem insK_len (l : List Str) : (insK l).length = l.length := by simp [insK]
theorem gatesK_len (l : List GR) : (gatesK l).length = l.length := by simp [gatesK]
theorem val_in (l : List Str) (w : Str) (k : Nat) : (valV ((l.zipIdx k).map fun q => ((Sum.inr q.1 : Key), V.int (q.2 : Nat))) (Sum.inr w)).isSome = decide (w ∈ l) := by
  induction l generalizing k with
  | nil => simp [valV_nil]
  | cons a l ih =>
    rw [List.zipIdx_cons, List.map_cons]
    by_cases e : a = w
    · subst e
      rw [valV_pos rfl]
      simp
    · rw [valV_neg (by simpa using e), ih]
      have : w ≠ a := fun z => e z.symm
      simp [this]
theorem valV_in (l : List Str) (w : Str) : (valV (insK l) (Sum.inr w)).isSome = decide (w ∈ l) := val_in l w 0
theorem valV_gates (tb : List GR) (w : Str) : (valV (gatesK tb) (Sum.inr w)).isSome = decide (w ∈ tb.map fun r => r.pg.name) := by
  induction tb with
  | nil => simp [gatesK, valV_nil]
  | cons a l ih =>
    unfold gatesK at ih ⊢
    rw [List.map_cons, List.map_cons]
    by_cases e : a.pg.name = w
    · subst e
      rw [valV_pos rfl]
      simp
    · rw [valV_neg (by simpa using e), ih]
      have : w ≠ a.pg.name := fun z => e z.symm
      simp [this]
theorem NOk.gn {CN CG : Addr} {H : Hp} {A : NAd} {p : PN} {tb : List GR} (n : NOk CN CG H A p tb) : p.gn = tb.map fun r => r.pg.name := by
  unfold PN.gn
  rw [n.row, List.map_map]
  rfl
/-! ### walks with a turn a gate -/
abbrev Locked (d : Addr) (o : Obj) (tb : List GR) : Hp → Prop := fun H => H d = some (.frz o (.dK (gatesK tb)))
theorem w_keys {d : Addr} {o : Obj} {tb : List GR} : Walk (Itk d o (gatesK tb)) tb.length (Locked d o tb) (Itk d o (gatesK tb)).yld where
  goes := fun i H hi q => ⟨q, by rw [gatesK_len]; exact hi⟩
  stops := fun H q => ⟨q, Nat.le_of_eq (gatesK_len tb)⟩
  yields := fun _ _ _ _ _ _ y => y
theorem w_vals {d : Addr} {o : Obj} {tb : List GR} : Walk (Itd d o (gatesK tb)) tb.length (Locked d o tb) (Itd d o (gatesK tb)).yld where
  goes := fun i H hi q => ⟨q, by rw [gatesK_len]; exact hi⟩
  stops := fun H q => ⟨q, Nat.le_of_eq (gatesK_len tb)⟩
  yields := fun _ _ _ _ _ _ y => y
theorem w_items {d : Addr} {o : Obj} {tb : List GR} : Walk (Iti d o (gatesK tb)) tb.length (Locked d o tb) (Iti d o (gatesK tb)).yld where
  goes := fun i H hi q => ⟨q, by rw [gatesK_len]; exact hi⟩
  stops := fun H q => ⟨q, Nat.le_of_eq (gatesK_len tb)⟩
  yields := fun _ _ _ _ _ _ y => y
/-! ### what the top has written -/
structure Txt (K : PySem.W.Frag) (mg : Str → Option Value) (CF CG CN : Addr) : Prop where
  cG : Cls K CG
  cN : Cls K CN
  nK : NoAttr K CG "kind"
  nS : NoAttr K CG "sources"
  nI : NoAttr K CN "inputs"
  nO : NoAttr K CN "outputs"
  nG : NoAttr K CN "gates"
  gF : mg "NoNetwork" = some (.ref CF)
  gG : mg "Gate" = some (.ref CG)
  gN : mg "Network" = some (.ref CN)
  xF : PySem.W.excIn K CF [.type "ValueError", .type "Exception", .type "BaseException", .type "object"] "ValueError.__new__" = true
  kF : PySem.W.keepIn K (.ref CF) = true
  bF : PySem.W.subIn K (.ref CF) (.type "BaseException") = some true
  tF : PySem.W.typeIn K (.ref CF) = some (.type "type")
  eF : PySem.W.exmOne K (.ref CF) (.ref CF) = some true
  len : mg "len" = none
  ord : mg "ord" = none
  all : mg "all" = none
  mBytes : ∃ t, mg "MOST_BYTES" = some (.int 65536 t)
  mNames : ∃ t, mg "MOST_NAMES" = some (.int 1024 t)
  mIns : ∃ t, mg "MOST_INPUTS" = some (.int 64 t)
  mOuts : ∃ t, mg "MOST_OUTPUTS" = some (.int 64 t)
  mLong : ∃ t, mg "LONGEST_NAME" = some (.int 15 t)
  sLet : ∃ t, mg "LETTERS" = some (.str "abcdefghijklmnopqrstuvwxyz" t)
  sSig : ∃ t, mg "NAME_SIGNS" = some (.str "abcdefghijklmnopqrstuvwxyz0123456789_" t)
  sKno : ∃ t, mg "KNOWN_SIGNS" = some (.str "\n\t #=abcdefghijklmnopqrstuvwxyz0123456789_" t)
  sStr : ∃ t, mg "STRANGE_SIGN" = some (.str "?" t)
/-- a network is refused: nothing is asked of the heap then -/
abbrev Raised (CF : Addr) (E : XK) : Prop := ∀ H' : Hp, E (.ref CF) none H'
section
variable {P : Program} {w : World} {K : PySem.W.Frag} {mg : Str → Option Value} {base : Heap} {CF CG CN : Addr}
/-! ### Gate.__init__, Network.__init__ -/
def spGateInit (CG : Addr) : Sp := fun vs H Q _ => ∃ (x dx sa : Addr) (k : Str), vs = [.ref x, .str k, .ref sa] ∧ H x = some (.ins CG dx []) ∧
  ∀ H' : Hp, H' x = some (.ins CG dx (gF k sa)) → (∀ b o, H b = some o → b ≠ x → H' b = some o) → (∀ b, b ≠ x → H' b = H b) → Q .non H'
theorem scGI : FnScope ["self", "kind", "sources"] ["self", "kind", "sources"] (defScope sGateInit) := ⟨rfl, rfl, rfl, by decide +kernel, rfl, by decide +kernel, by decide +kernel⟩
theorem gF_new (k : Str) (sa : Addr) : putF "sources" (.ref sa) (putF "kind" (.str k) []) = gF k sa := (put_skip _ _ _ (by decide +kernel)).trans rfl
theorem ok_gateInit {f : Addr} {fd : FuncData} (F : Fun K "__init__" "Gate.__init__" sGateInit f fd) (T : Txt K mg CF CG CN) : FnOk P w K mg base CX0 1 f fd ["self", "kind", "sources"] (spGateInit CG) := by
  refine F.ok scGI (fun vs H Q E h => ?_) (fun cdv A outer s H vs Q E hr h => ?_)
  · obtain ⟨x, dx, sa, k, rfl, _⟩ := h
    rfl
  · obtain ⟨x, dx, sa, k, rfl, hx, q⟩ := h
    refine ⟨_, pss_cons (ps_fld (pv 0) (pv 1) rfl) (pss_one (ps_fld (pv 0) (pv 2) rfl)), ?_⟩
    refine ⟨_, rfl, _, rfl, x, CG, dx, [], rfl, hx, T.cG, T.nK, (by show 0 < 1000; decide), ?_⟩
    refine ⟨_, rfl, _, rfl, x, CG, dx, _, rfl, upd_same, T.cG, T.nS, (by show 1 < 1000; decide), ?_⟩
    refine q _ (Eq.trans upd_same (congrArg (fun q => some (HO.ins CG dx q)) (gF_new k sa))) (fun b o e hb => ?_) (fun b hb => ?_)
    · rw [upd_ne hb, upd_ne hb]
      exact e
    · rw [upd_ne hb, upd_ne hb]
def spNetInit (CN : Addr) : Sp := fun vs H Q _ => ∃ (x dx : Addr), vs = [.ref x] ∧ H x = some (.ins CN dx []) ∧
  ∀ (H' : Hp) (A : NAd), A.a = x → A.dx = dx → H A.di = none → H A.dl = none → H A.dg = none → A.di ≠ A.dg → H' x = some (.ins CN dx (nF A)) → H' A.di = some (.dK []) → H' A.dl = some (.lst []) → H' A.dg = some (.dK []) →
    (∀ b o, H b = some o → b ≠ x → H' b = some o) → Q .non H'
theorem scNI : FnScope ["self"] ["self"] (defScope sNetInit) := ⟨rfl, rfl, rfl, by decide +kernel, rfl, by decide +kernel, by decide +kernel⟩
theorem nF_new (A : NAd) : putF "gates" (.ref A.dg) (putF "outputs" (.ref A.dl) (putF "inputs" (.ref A.di) [])) = nF A := by
  have e1 : putF "outputs" (.ref A.dl) (putF "inputs" (.ref A.di) []) = [(("inputs" : Str), V.ref A.di), ("outputs", .ref A.dl)] := (put_skip _ _ _ (by decide +kernel)).trans rfl
  rw [e1]
  exact (put_skip _ _ _ (by decide +kernel)).trans (congrArg _ ((put_skip _ _ _ (by decide +kernel)).trans rfl))
theorem ok_netInit {f : Addr} {fd : FuncData} (F : Fun K "__init__" "Network.__init__" sNetInit f fd) (T : Txt K mg CF CG CN) : FnOk P w K mg base CX0 1 f fd ["self"] (spNetInit CN) := by
  refine F.ok scNI (fun vs H Q E h => ?_) (fun cdv A outer s H vs Q E hr h => ?_)
  · obtain ⟨x, dx, rfl, _⟩ := h
    rfl
  · obtain ⟨x, dx, rfl, hx, q⟩ := h
    refine ⟨_, pss_cons (ps_fld (pv 0) pe_dnewK rfl) (pss_cons (ps_fld (pv 0) (pe_lst pa_nil) rfl) (pss_one (ps_fld (pv 0) pe_dnewK rfl))), ?_⟩
    intro di hdi
    have n1 : x ≠ di := ne_of_none hx hdi
    refine ⟨_, rfl, x, CN, dx, [], rfl, (by rw [upd_ne n1]; exact hx), T.cN, T.nI, (by show 0 < 1000; decide), ?_⟩
    refine ⟨(by show 0 ≤ sizeLine; decide), fun dl hdl => ?_⟩
    have n2 : x ≠ dl := ne_of_none upd_same hdl
    have n3 : di ≠ dl := ne_of_none (by rw [upd_ne (Ne.symm n1)]; exact upd_same) hdl
    rw [upd_ne (Ne.symm n2), upd_ne (Ne.symm n3)] at hdl
    refine ⟨_, rfl, x, CN, dx, _, rfl, (by rw [upd_ne n2]; exact upd_same), T.cN, T.nO, (by show 1 < 1000; decide), ?_⟩
    intro dg hdg
    have n4 : x ≠ dg := ne_of_none upd_same hdg
    have n5 : dl ≠ dg := ne_of_none (by rw [upd_ne (Ne.symm n2)]; exact upd_same) hdg
    have n6 : di ≠ dg := ne_of_none (by rw [upd_ne (Ne.symm n1), upd_ne n3, upd_ne (Ne.symm n1)]; exact upd_same) hdg
    rw [upd_ne (Ne.symm n4), upd_ne (Ne.symm n5), upd_ne (Ne.symm n4), upd_ne (Ne.symm n6)] at hdg
    refine ⟨_, rfl, x, CN, dx, _, rfl, (by rw [upd_ne n4]; exact upd_same), T.cN, T.nG, ?_, ?_⟩
    · refine Nat.lt_of_le_of_lt (m := 2) ?_ (by decide)
      have e1 : putF "outputs" (.ref dl) (putF "inputs" (.ref di) []) = [(("inputs" : Str), V.ref di), ("outputs", .ref dl)] := (put_skip _ _ _ (by decide +kernel)).trans rfl
      rw [e1]
      exact Nat.le_refl _
    refine q _ ⟨x, dx, di, dl, dg⟩ rfl rfl hdi hdl hdg n6 (Eq.trans upd_same (congrArg (fun q => some (HO.ins CN dx q)) (nF_new ⟨x, dx, di, dl, dg⟩))) ?_ ?_ ?_ ?_
    · rw [upd_ne (Ne.symm n1), upd_ne n6, upd_ne (Ne.symm n1), upd_ne n3, upd_ne (Ne.symm n1)]
      exact upd_same
    · rw [upd_ne (Ne.symm n2), upd_ne n5, upd_ne (Ne.symm n2)]
      exact upd_same
    · rw [upd_ne (Ne.symm n4)]
      exact upd_same
    · intro b o e hb
      rw [upd_ne hb, upd_ne (ne_of_none e hdg), upd_ne hb, upd_ne (ne_of_none e hdl), upd_ne hb, upd_ne (ne_of_none e hdi)]
      exact e
end
end GN
namespace GN
open PySem PySem.Spec PyProof.Rows L2
section
variable {P : Program} {w : World} {K : PySem.W.Frag} {mg : Str → Option Value} {base : Heap} {CF CG CN : Addr}
theorem Same.upd_new {H H' : Hp} {p : Addr} {o : HO} (s : Same H H') (h : H p = none) : Same H (upd H' p o) := fun b u e => by
  rw [upd_ne (ne_of_none e h)]
  exact s b u e
theorem Same.upd_own {H : Hp} {p : Addr} {o : HO} (h : H p = none) : Same H (upd H p o) := fun b u e => by
  rw [upd_ne (ne_of_none e h)]
  exact e
/-! ### is_given -/
def spIsGiven (CN : Addr) : Sp := fun vs H Q _ => ∃ (A : NAd) (p : PN) (tb : List GR) (z : Str), vs = [.ref A.a, .str z] ∧ H A.a = some (.ins CN A.dx (nF A)) ∧ Rd H A.di (.dK (insK p.ins)) ∧ Rd H A.dg (.dK (gatesK tb)) ∧
  p.gn = (tb.map fun r => r.pg.name) ∧ Q (.bl (p.given z)) H
theorem scIG : FnScope ["network", "name"] ["network", "name"] (defScope sIsGiven) := ⟨rfl, rfl, rfl, by decide +kernel, rfl, by decide +kernel, by decide +kernel⟩
theorem ok_isGiven {f : Addr} {fd : FuncData} (F : Fun K "is_given" "is_given" sIsGiven f fd) (T : Txt K mg CF CG CN) : FnOk P w K mg base CX0 1 f fd ["network", "name"] (spIsGiven CN) := by
  refine F.ok scIG (fun vs H Q E h => ?_) (fun cdv A outer s H vs Q E hr h => ?_)
  · obtain ⟨A, p, tb, z, rfl, _⟩ := h
    rfl
  · obtain ⟨A, p, tb, z, rfl, ho, hi, hg, hn, q⟩ := h
    refine ⟨_, pss_one (ps_ret (pe_or (pe_cmp (pc_din (hu_of hr) (pv 1) (pe_fld (pv 0) rfl))) (pe_one (pe_cmp (pc_din (hu_of hr) (pv 1) (pe_fld (pv 0) rfl)))))), ?_⟩
    refine ⟨_, rfl, _, rfl, A.a, CN, A.dx, _, _, rfl, ho, T.cN, T.nI, nF_in A, A.di, _, rfl, .inl ⟨_, Sum.inr z, hi, rfl, rfl⟩, _, rfl, ?_⟩
    rw [valV_in]
    unfold PN.given at q
    by_cases h1 : z ∈ p.ins
    · rw [decide_eq_true h1] at q ⊢
      exact if_t rfl q
    · rw [decide_eq_false h1] at q ⊢
      refine if_f rfl ?_
      refine ⟨_, rfl, _, rfl, A.a, CN, A.dx, _, _, rfl, ho, T.cN, T.nG, nF_gates A, A.dg, _, rfl, .inl ⟨_, Sum.inr z, hg, rfl, rfl⟩, ?_⟩
      rw [valV_gates, ← hn]
      rw [Bool.false_or] at q
      exact q
/-! ### is_name -/
def spIsName : Sp := fun vs H Q _ => ∃ (z : Str), vs = [.str z] ∧ 1 ≤ z.length ∧ z.length ≤ 65536 ∧ ∀ H', Same H H' → Q (.bl (pname z)) H'
theorem scNm : FnScope ["word", "sign"] ["word"] (defScope sIsName) := ⟨rfl, rfl, rfl, by decide +kernel, rfl, by decide +kernel, by decide +kernel⟩
theorem ok_isName {f : Addr} {fd : FuncData} (F : Fun K "is_name" "is_name" sIsName f fd) (T : Txt K mg CF CG CN) : FnOk P w K mg base CX0 1 f fd ["word"] spIsName := by
  obtain ⟨t1, m1⟩ := T.mLong
  obtain ⟨t2, m2⟩ := T.sLet
  obtain ⟨t3, m3⟩ := T.sSig
  refine F.ok scNm (fun vs H Q E h => ?_) (fun cdv A outer s H vs Q E hr h => ?_)
  · obtain ⟨z, rfl, _⟩ := h
    rfl
  · obtain ⟨z, rfl, hz1, hz2, q⟩ := h
    have hz : z.length ≤ sizeLine := Nat.le_trans hz2 (by decide)
    have hsz : z.cps.toList.length = z.length := by simp [Str.length]
    obtain ⟨c, r, hc⟩ : ∃ c r, z.cps.toList = c :: r := by
      cases e : z.cps.toList with
      | nil => rw [e] at hsz; simp at hsz; omega
      | cons c r => exact ⟨c, r, rfl⟩
    refine ⟨_, pss_cons (ps_if (PW.pt (pw_or (pt_cmpR op_eq (pv 0) pe_str (nomark _)) (pw_or1 (pt_cmpR op_eq (pv 0) pe_str (nomark _))))) (pss_one (ps_ret pe_bl)) pss_nil)
      (pss_cons (ps_if (PW.pt (pw_or (pt_cmpR op_gt (pe_callB call_len_str (by rfl) T.len PySem.boot_len (pa_cons (pv 0) pa_nil)) (pe_glob rfl m1 (v := .int 15) ⟨_, rfl⟩) (nomark _))
          (pw_or1 (pt_cmpR op_notIn_sign (pe_ix ix_str (pv 0) pe_int (fun _ _ => rfl)) (pe_glob rfl m2 (v := .str "abcdefghijklmnopqrstuvwxyz") ⟨_, rfl⟩) rfl)))) (pss_one (ps_ret pe_bl)) pss_nil)
      (pss_one (ps_ret (pe_callB (cr_all rfl) (by rfl) T.all (by decide +kernel) (pa_cons (pe_lc (own := [("sign", 1)]) (g := gName 1) (tt := tYes) (by rfl) scNm.nd (pi_str (pv 0))
        (blkOk_by (own := [("sign", 1)]) (N := ["word", "sign"]) (sc := defScope sIsName) (by decide +kernel)) (fun _ _ _ _ _ => pg_name (i := 1) scNm.nd rfl (Or.inl rfl)) (fun _ _ _ _ _ => pts_nil)
        (fun _ _ _ _ _ => pe_cmpR op_in_sign (pv 1) (pe_glob rfl m3 (v := .str "abcdefghijklmnopqrstuvwxyz0123456789_") ⟨_, rfl⟩) rfl)) pa_nil))))), ?_⟩
    have q0 := q H (Same.refl H)
    refine ⟨_, rfl, rfl, _, rfl, ?_⟩
    by_cases h1 : z = sIn
    · refine if_t (decide_eq_true (congrArg V.str h1)) (if_t rfl ?_)
      unfold pname at q0
      rw [if_pos (.inl h1)] at q0
      exact q0
    refine if_f (decide_eq_false fun e => h1 (V.str.inj e)) ?_
    refine ⟨_, rfl, rfl, _, rfl, ?_⟩
    by_cases h2 : z = sOut
    · refine if_t (decide_eq_true (congrArg V.str h2)) ?_
      unfold pname at q0
      rw [if_pos (.inr h2)] at q0
      exact q0
    refine if_f (decide_eq_false fun e => h2 (V.str.inj e)) ?_
    have n12 : ¬ (z = sIn ∨ z = sOut) := by
      rintro (e | e)
      · exact h1 e
      · exact h2 e
    unfold pname at q0
    rw [if_neg n12] at q0
    refine ⟨_, rfl, z, rfl, hz, _, _, rfl, rfl, _, rfl, ?_⟩
    by_cases h3 : z.length > 15
    · refine if_t (decide_eq_true (by omega)) (if_t rfl ?_)
      rw [if_pos (.inl h3)] at q0
      exact q0
    refine if_f (decide_eq_false (by omega)) ?_
    refine ⟨_, rfl, z, _, c, rfl, rfl, hz, atI_nat (j := 0) (by rw [hc]; rfl), c, _, rfl, rfl, _, rfl, ?_⟩
    by_cases h4 : c ∈ letters
    · refine if_f (by show (!decide (c ∈ letters)) = false; rw [decide_eq_true h4]; rfl) ?_
      have n34 : ¬ (z.length > 15 ∨ ¬ z.cps.toList.headD 0 ∈ letters) := by
        rintro (e | e)
        · exact h3 e
        · rw [hc] at e
          exact e h4
      refine ⟨_, rfl, _, rfl, fun D hD => lc_it (walk_str (z := z)) (fun i H' => Same H H' ∧ H' D = some (.lst ((z.cps.toList.take i).map fun c => V.bl (decide (c ∈ signs))))) ?_ (fun _ _ _ _ => trivial) ?_ ?_⟩
      · exact ⟨Same.upd_own hD, upd_same⟩
      · rintro i x H' H2 hi ⟨s1, h5⟩ ⟨rfl, c', hc', rfl⟩
        refine ⟨rfl, _, rfl, c', _, rfl, rfl, _, h5, ?_, ?_⟩
        · rw [List.length_map, List.length_take]
          refine Nat.lt_of_le_of_lt (Nat.min_le_left _ _) (Nat.lt_of_lt_of_le hi ?_)
          exact hz
        · refine ⟨Same.upd_new s1 hD, ?_⟩
          have e : z.cps.toList[i]? = some c' := by
            rw [Array.getElem?_toList]
            exact hc'
          rw [upd_same, List.take_add_one, e, List.map_append]
          rfl
      · rintro H' ⟨s1, h5⟩
        have hall : z.cps.toList.take z.cps.size = z.cps.toList := List.take_of_length_le (by simp)
        rw [hall] at h5
        refine ⟨D, z.cps.toList.map fun c => decide (c ∈ signs), rfl, SqL.of (by rw [h5, List.map_map]; rfl), ?_⟩
        have q1 := q H' s1
        unfold pname at q1
        rw [if_neg n12, if_neg n34] at q1
        rw [List.all_map]
        exact q1
    · refine if_t (by show (!decide (c ∈ letters)) = true; rw [decide_eq_false h4]; rfl) ?_
      rw [if_pos (.inr (by rw [hc]; exact h4))] at q0
      exact q0
end
end GN
namespace GN
open PySem PySem.Spec PyProof.Rows L2
theorem cut_from (xs : List V) (k : Nat) : cutV xs (some (k : Int)) none = xs.drop k := by
  unfold cutV
  rw [HT.sIx_nat, HT.sIx_none]
  by_cases h : k ≤ xs.length
  · rw [Nat.min_eq_left h]
    exact List.take_of_length_le (by rw [List.length_drop]; exact Nat.le_refl _)
  · rw [Nat.min_eq_right (by omega), List.drop_of_length_le (Nat.le_refl _), List.drop_of_length_le (by omega)]
    simp
theorem fold_step {σ α : Type} {f : σ → α → Option σ} : ∀ {l : List α} {i : Nat} {z : α} {s s' : σ}, l[i]? = some z → (l.take i).foldlM f s = some s' → (l.take (i + 1)).foldlM f s = f s' z ∧ (f s' z = none → l.foldlM f s = none)
  | [], i, z, s, s', h, _ => by simp at h
  | a :: l, 0, z, s, s', h, e => by
    have e1 : a = z := Option.some.inj h
    have e2 : s = s' := Option.some.inj e
    subst e1 e2
    refine ⟨?_, fun q => ?_⟩
    · show ([a] : List α).foldlM f s = _
      simp
    · rw [List.foldlM_cons, q]
      rfl
  | a :: l, i + 1, z, s, s', h, e => by
    rw [List.take_succ_cons, List.foldlM_cons] at e ⊢
    rw [List.foldlM_cons]
    cases q : f s a with
    | none => rw [q] at e; cases e
    | some m =>
      rw [q] at e
      exact fold_step (l := l) (i := i) (z := z) (s := m) (s' := s') (by simpa using h) e
theorem str_item {l : List Str} {i : Nat} {x : V} (h : (l.map V.str)[i]? = some x) : ∃ z, l[i]? = some z ∧ x = V.str z := by
  rw [List.getElem?_map] at h
  cases e : l[i]? with
  | none => rw [e] at h; cases h
  | some z => rw [e] at h; exact ⟨z, rfl, (Option.some.inj h).symm⟩
/-- words as the program has them -/
def Wds (ws : List Str) : Prop := ∀ z ∈ ws, 1 ≤ z.length ∧ z.length ≤ 65536
theorem insK_snoc (l : List Str) (z : Str) : insK (l ++ [z]) = insK l ++ [(Sum.inr z, V.int (l.length : Nat))] := by
  unfold insK
  rw [List.zipIdx_append, List.map_append]
  simp
theorem gatesK_snoc (l : List GR) (r : GR) : gatesK (l ++ [r]) = gatesK l ++ [(Sum.inr r.pg.name, V.ref r.ga)] := by
  unfold gatesK
  rw [List.map_append]
  rfl
theorem isNone_of {o : Option V} (h : o.isSome = false) : o = none := by
  cases o with
  | none => rfl
  | some _ => cases h
theorem fresh_not {p : PN} {z : Str} (h : p.fresh z = true) : z ∉ p.ins ∧ z ∉ p.gn := by
  unfold PN.fresh PN.given at h
  simp only [Bool.and_eq_true, Bool.not_eq_true', Bool.or_eq_false_iff, decide_eq_false_iff_not] at h
  exact h.2
/-- a register's first bit -/
def rc (z : Str) : Option Nat := if z = kReg then some 0 else if z = kReg1 then some 1 else none
theorem rc_reg (z : Str) : (rc z).isSome = isRegS z := by
  unfold rc isRegS
  by_cases h1 : z = kReg
  · rw [if_pos h1, decide_eq_true h1]
    rfl
  · rw [if_neg h1, decide_eq_false h1]
    by_cases h2 : z = kReg1
    · rw [if_pos h2, decide_eq_true h2]
      rfl
    · rw [if_neg h2, decide_eq_false h2]
      rfl
/-- what the top has written of its dicts -/
structure Txt2 (K : PySem.W.Frag) (mg : Str → Option Value) (w : World) (dk rg : Addr) : Prop where
  gK : mg "SOURCES_OF_KIND" = some (.ref dk)
  dK : ∃ es n, KDict K w dk es n
  at_ : ∀ z : Str, ∃ r, PySem.W.nsIn K dk z = some r ∧ (match kc z with | some c => ∃ t, r = some (.int (c : Nat) t) | none => r = none)
  gR : mg "FIRST_BIT_OF_REGISTER" = some (.ref rg)
  dR : ∃ es n, KDict K w rg es n
  atR : ∀ z : Str, ∃ r, PySem.W.nsIn K rg z = some r ∧ (match rc z with | some c => ∃ t, r = some (.int (c : Nat) t) | none => r = none)
section
variable {P : Program} {w : World} {K : PySem.W.Frag} {mg : Str → Option Value} {base : Heap} {CF CG CN dk rg : Addr}
/-! ### a network that has more -/
theorem NOk.putIn {H : Hp} {A : NAd} {p : PN} {tb : List GR} {z : Str} (n : NOk CN CG H A p tb) (hz : z ∉ p.ins) :
    NOk CN CG (upd H A.di (.dK (putK (insK p.ins) (Sum.inr z) (.int (p.ins.length : Nat))))) A { p with ins := p.ins ++ [z] } tb := by
  have e : putK (insK p.ins) (Sum.inr z) (.int (p.ins.length : Nat)) = insK (p.ins ++ [z]) := by
    rw [insK_snoc]
    exact putK_new _ (isNone_of (by rw [valV_in]; exact decide_eq_false hz))
  rw [e]
  have h1 : A.a ≠ A.di := ne_of n.ob n.ins (by intro z; cases z)
  have h2 : A.dl ≠ A.di := ne_of n.outs n.ins (by intro z; cases z)
  refine ⟨by rw [upd_ne h1]; exact n.ob, upd_same, by rw [upd_ne h2]; exact n.outs, by rw [upd_ne (Ne.symm n.apart)]; exact n.gates, n.apart, n.row, fun r hr => ?_, n.free⟩
  have g := n.each r hr
  exact ⟨by rw [upd_ne (ne_of g.ob n.ins (by intro z; cases z))]; exact g.ob, by rw [upd_ne (ne_of g.src n.ins (by intro z; cases z))]; exact g.src⟩
theorem NOk.putOut {H : Hp} {A : NAd} {p : PN} {tb : List GR} {l : List Str} (n : NOk CN CG H A p tb) :
    NOk CN CG (upd H A.dl (.lst (p.outs.map V.str ++ l.map V.str))) A { p with outs := p.outs ++ l } tb := by
  rw [← List.map_append]
  have h1 : A.a ≠ A.dl := ne_of n.ob n.outs (by intro z; cases z)
  have h2 : A.di ≠ A.dl := ne_of n.ins n.outs (by intro z; cases z)
  have h3 : A.dg ≠ A.dl := ne_of n.gates n.outs (by intro z; cases z)
  refine ⟨by rw [upd_ne h1]; exact n.ob, by rw [upd_ne h2]; exact n.ins, upd_same, by rw [upd_ne h3]; exact n.gates, n.apart, n.row, fun r hr => ?_, n.free⟩
  have g := n.each r hr
  exact ⟨by rw [upd_ne (ne_of g.ob n.outs (by intro z; cases z))]; exact g.ob, by rw [upd_ne (n.free r hr)]; exact g.src⟩
theorem NOk.putGate {H : Hp} {A : NAd} {p : PN} {tb : List GR} {r : GR} (n : NOk CN CG H A p tb) (g : GAt CG H r) (hf : r.sa ≠ A.dl) (hz : r.pg.name ∉ p.gn) :
    NOk CN CG (upd H A.dg (.dK (putK (gatesK tb) (Sum.inr r.pg.name) (.ref r.ga)))) A { p with gates := p.gates ++ [r.pg] } (tb ++ [r]) := by
  have e : putK (gatesK tb) (Sum.inr r.pg.name) (.ref r.ga) = gatesK (tb ++ [r]) := by
    rw [gatesK_snoc]
    exact putK_new _ (isNone_of (by rw [valV_gates, ← n.gn]; exact decide_eq_false hz))
  rw [e]
  have h1 : A.a ≠ A.dg := ne_of n.ob n.gates (by intro z; cases z)
  have h2 : A.dl ≠ A.dg := ne_of n.outs n.gates (by intro z; cases z)
  refine ⟨by rw [upd_ne h1]; exact n.ob, by rw [upd_ne n.apart]; exact n.ins, by rw [upd_ne h2]; exact n.outs, upd_same, n.apart, ?_, fun x hx => ?_, fun x hx => ?_⟩
  · show p.gates ++ [r.pg] = _
    rw [n.row, List.map_append]
    rfl
  · have gx : GAt CG H x := by
      rcases List.mem_append.mp hx with h | h
      · exact n.each x h
      · rw [List.mem_singleton.mp h]; exact g
    exact ⟨by rw [upd_ne (ne_of gx.ob n.gates (by intro z; cases z))]; exact gx.ob, by rw [upd_ne (ne_of gx.src n.gates (by intro z; cases z))]; exact gx.src⟩
  · rcases List.mem_append.mp hx with h | h
    · exact n.free x h
    · rw [List.mem_singleton.mp h]; exact hf
/-! ### refuse_as_new -/
def spNew (CF CN CG : Addr) : Sp := fun vs H Q E => ∃ (A : NAd) (p : PN) (tb : List GR) (z : Str), vs = [.ref A.a, .str z] ∧ NOk CN CG H A p tb ∧ 1 ≤ z.length ∧ z.length ≤ 65536 ∧
  (p.fresh z = false → Raised CF E) ∧ (p.fresh z = true → ∀ H', Same H H' → Q .non H')
theorem scNew : FnScope ["network", "word"] ["network", "word"] (defScope sNew) := ⟨rfl, rfl, rfl, by decide +kernel, rfl, by decide +kernel, by decide +kernel⟩
theorem ok_new {f fN fG : Addr} {fd fdN fdG : FuncData} (F : Fun K "refuse_as_new" "refuse_as_new" sNew f fd) (T : Txt K mg CF CG CN)
    (FN : Fun K "is_name" "is_name" sIsName fN fdN) (bN : Binds K fdN ["word"] []) (mN : mg "is_name" = some (.ref fN))
    (FG : Fun K "is_given" "is_given" sIsGiven fG fdG) (bG : Binds K fdG ["network", "name"] []) (mG : mg "is_given" = some (.ref fG)) : FnOk P w K mg base (L2.CX P w) 2 f fd ["network", "word"] (spNew CF CN CG) := by
  have GN : FnOk P w K mg base CX0 1 fN fdN ["word"] spIsName := ok_isName FN T
  have GG : FnOk P w K mg base CX0 1 fG fdG ["network", "name"] (spIsGiven CN) := ok_isGiven FG T
  refine F.okX scNew (fun vs H Q E h => ?_) (fun cdv A outer s H vs Q E hr h => ?_)
  · obtain ⟨A, p, tb, z, rfl, _⟩ := h
    rfl
  · obtain ⟨A, p, tb, z, rfl, n, h1, h2, kN, kS⟩ := h
    refine ⟨_, pss_one (ps_if (PW.pt (pw_or (pt_not (pt_val (pe_call GN hr rfl mN FN.kp bN .nil pass0 (pa_cons (pv 1) pa_nil))))
        (pw_or1 (pt_val (pe_call GG hr rfl mG FG.kp bG .nil pass0 (pa_cons (pv 0) (pa_cons (pv 1) pa_nil)))))))
      (pss_one (ps_raise rfl (takes_of rfl rfl rfl rfl) (pmk_own0 PySem.F.excBase_ValueError T.xF T.gF T.kF (raises_own T.bF T.tF) rfl))) pss_nil), ?_⟩
    unfold PN.fresh at kN kS
    refine ⟨_, rfl, z, rfl, h1, h2, fun H1 s1 => ⟨_, rfl, ?_⟩⟩
    cases e1 : pname z with
    | false =>
      rw [e1] at kN
      exact if_t rfl (if_t rfl (kN rfl H1))
    | true =>
      rw [e1] at kN kS
      refine if_f rfl ?_
      have n1 := n.same s1
      refine ⟨_, rfl, _, rfl, A, p, tb, z, rfl, n1.ob, .inl n1.ins, .inl n1.gates, n1.gn, _, rfl, ?_⟩
      cases e2 : p.given z with
      | true =>
        rw [e2] at kN
        exact if_t rfl (kN rfl H1)
      | false =>
        rw [e2] at kS
        exact if_f rfl (kS rfl H1 s1)
/-! ### add_inputs -/
def spAddIn (CF CN CG : Addr) : Sp := fun vs H Q E => ∃ (A : NAd) (p : PN) (tb : List GR) (la : Addr) (l : List Str), vs = [.ref A.a, .ref la] ∧ NOk CN CG H A p tb ∧ H la = some (.lst (l.map V.str)) ∧ Wds l ∧ p.sz + l.length ≤ 200000 ∧
  (l = [] ∨ l.foldlM pIn p = none → Raised CF E) ∧ (∀ p', l ≠ [] → l.foldlM pIn p = some p' → ∀ H', NOk CN CG H' A p' tb → Keep A H H' → Q .non H')
theorem scAI : FnScope ["network", "names", "name"] ["network", "names"] (defScope sAddIn) := ⟨rfl, rfl, rfl, by decide +kernel, rfl, by decide +kernel, by decide +kernel⟩
theorem take_sz {l : List Str} {i : Nat} {p q : PN} (e : (l.take i).foldlM pIn p = some q) : q.sz ≤ p.sz + l.length := by
  rw [pIns_sz e, List.length_take]
  omega
theorem ok_addIn {f fW : Addr} {fd fdW : FuncData} (F : Fun K "add_inputs" "add_inputs" sAddIn f fd) (T : Txt K mg CF CG CN)
    (GW : FnOk P w K mg base (L2.CX P w) 2 fW fdW ["network", "word"] (spNew CF CN CG)) (kW : PySem.W.keepIn K (.ref fW) = true) (bW : Binds K fdW ["network", "word"] []) (mW : mg "refuse_as_new" = some (.ref fW)) :
    FnOk P w K mg base (L2.CX P w) 3 f fd ["network", "names"] (spAddIn CF CN CG) := by
  refine F.okX scAI (fun vs H Q E h => ?_) (fun cdv A outer s H vs Q E hr h => ?_)
  · obtain ⟨A, p, tb, la, l, rfl, _⟩ := h
    rfl
  · obtain ⟨A, p, tb, la, l, rfl, n, hl, hw, hz, kN, kS⟩ := h
    refine ⟨_, pss_cons (ps_if (pt_cmpR op_eq (pe_callB call_len_seq (by rfl) T.len PySem.boot_len (pa_cons (pv 1) pa_nil)) pe_int (nomark _))
        (pss_one (ps_raise rfl (takes_of rfl rfl rfl rfl) (pmk_own0 PySem.F.excBase_ValueError T.xF T.gF T.kF (raises_own T.bF T.tF) rfl))) pss_nil)
      (pss_one (ps_for (passes_of rfl) rfl (pi_list (pv 1)) (pg_name (i := 2) scAI.nd rfl (.inl rfl))
        (pss_cons (ps_expr (pe_callS GW hr rfl mW kW bW (fun σ => passAt (takes_of rfl rfl rfl rfl) σ) (pa_cons (pv 0) (pa_cons (pv 2) pa_nil))))
          (pss_one (ps_dput (hu_of hr) (pe_fld (pv 0) rfl) (pv 2) (pe_callB call_lenD (by rfl) T.len PySem.boot_len (pa_cons (pe_fld (pv 0) rfl) pa_nil)) rfl))))), ?_⟩
    refine ⟨_, rfl, la, _, rfl, .inl (SqL.of hl), rfl, _, rfl, ?_⟩
    by_cases h0 : l = []
    · refine if_t (decide_eq_true (by rw [h0]; rfl)) (kN (.inl h0) H)
    refine if_f (decide_eq_false fun e => h0 ?_) ?_
    · have e' := V.int.inj e
      rw [List.length_map] at e'
      exact List.length_eq_zero_iff.mp (by omega)
    refine ⟨_, rfl, la, rfl, ⟨_, SqL.of hl⟩, for_list (K := K) (a := la) (xs := l.map V.str)
      (fun i σ H' => ∃ v p', σ = [some (.ref A.a), some (.ref la), v] ∧ (l.take i).foldlM pIn p = some p' ∧ NOk CN CG H' A p' tb ∧ (∀ b o, H b = some o → b ≠ A.di → H' b = some o)) ?_ ?_ ?_ ?_⟩
    · exact ⟨none, p, rfl, rfl, n, fun _ _ e _ => e⟩
    · rintro i σ H' _ ⟨v, p', rfl, _, _, k⟩
      exact SqL.of (k _ _ hl (ne_of hl n.ins (by intro z; cases z)))
    · rintro i x σ H' hi ⟨v, p', rfl, ef, n', k⟩
      obtain ⟨z, hzi, rfl⟩ := str_item hi
      have hzm : z ∈ l := List.mem_of_getElem? hzi
      obtain ⟨st1, st2⟩ := fold_step hzi ef
      have hsz := take_sz ef
      refine ⟨_, rfl, _, rfl, A, p', tb, z, rfl, n', (hw z hzm).1, (hw z hzm).2, fun e => ?_, fun e H2 s2 => ?_⟩
      · refine kN (.inr (st2 ?_))
        unfold pIn
        rw [e]
        rfl
      · have n2 := n'.same s2
        refine ⟨_, rfl, A.a, CN, A.dx, _, _, rfl, n2.ob, T.cN, T.nI, nF_in A, A.di, _, rfl, n2.ins, ?_⟩
        refine ⟨_, rfl, A.a, CN, A.dx, _, _, rfl, n2.ob, T.cN, T.nI, nF_in A, _, rfl, A.di, _, rfl, DPut.k (k := Sum.inr z) n2.ins ?_, ?_⟩
        · rw [insK_len]
          unfold PN.sz at hsz hz
          exact Nat.lt_of_le_of_lt (show p'.ins.length ≤ 200000 by omega) (by decide)
        refine ⟨_, _, rfl, ?_, (by rw [insK_len]; exact n2.putIn (fresh_not e).1), fun b o q hb => ?_⟩
        · rw [st1]
          exact if_pos e
        · rw [upd_ne hb]
          exact s2 _ _ (k b o q hb)
    · rintro σ H' ⟨v, p', rfl, ef, n', k⟩
      rw [List.length_map, List.take_length] at ef
      exact kS p' h0 ef H' n' fun b o e h1 _ _ => k b o e h1
/-! ### add_outputs -/
def spAddOut (CF CN CG : Addr) : Sp := fun vs H Q E => ∃ (A : NAd) (p : PN) (tb : List GR) (la : Addr) (l : List Str), vs = [.ref A.a, .ref la] ∧ NOk CN CG H A p tb ∧ H la = some (.lst (l.map V.str)) ∧ p.sz + l.length ≤ 200000 ∧
  (l = [] → Raised CF E) ∧ (l ≠ [] → ∀ H', NOk CN CG H' A { p with outs := p.outs ++ l } tb → Keep A H H' → Q .non H')
theorem scAO : FnScope ["network", "names"] ["network", "names"] (defScope sAddOut) := ⟨rfl, rfl, rfl, by decide +kernel, rfl, by decide +kernel, by decide +kernel⟩
theorem ok_addOut {f : Addr} {fd : FuncData} (F : Fun K "add_outputs" "add_outputs" sAddOut f fd) (T : Txt K mg CF CG CN) : FnOk P w K mg base (L2.CX P w) 1 f fd ["network", "names"] (spAddOut CF CN CG) := by
  refine F.okX scAO (fun vs H Q E h => ?_) (fun cdv A outer s H vs Q E hr h => ?_)
  · obtain ⟨A, p, tb, la, l, rfl, _⟩ := h
    rfl
  · obtain ⟨A, p, tb, la, l, rfl, n, hl, hz, kN, kS⟩ := h
    refine ⟨_, pss_cons (ps_if (pt_cmpR op_eq (pe_callB call_len_seq (by rfl) T.len PySem.boot_len (pa_cons (pv 1) pa_nil)) pe_int (nomark _))
        (pss_one (ps_raise rfl (takes_of rfl rfl rfl rfl) (pmk_own0 PySem.F.excBase_ValueError T.xF T.gF T.kF (raises_own T.bF T.tF) rfl))) pss_nil)
      (pss_one (ps_expr (pe_bm PySem.F.plainAttrs_list PySem.F.slot_list_extend PySem.F.type_list_extend mt_extend (pe_fld (pv 0) rfl) (pa_cons (pv 1) pa_nil)))), ?_⟩
    refine ⟨_, rfl, la, _, rfl, .inl (SqL.of hl), rfl, _, rfl, ?_⟩
    by_cases h0 : l = []
    · refine if_t (decide_eq_true (by rw [h0]; rfl)) (kN h0 H)
    refine if_f (decide_eq_false fun e => h0 ?_) ?_
    · have e' := V.int.inj e
      rw [List.length_map] at e'
      exact List.length_eq_zero_iff.mp (by omega)
    refine ⟨_, rfl, A.a, CN, A.dx, _, _, rfl, n.ob, T.cN, T.nO, nF_out A, .inl ⟨rfl, _, SqL.of n.outs⟩, _, rfl, A.dl, la, _, _, rfl, rfl, n.outs, hl, ?_, ?_⟩
    · rw [List.length_map, List.length_map]
      unfold PN.sz at hz
      exact Nat.le_trans (show p.outs.length + l.length ≤ 200000 by omega) (by decide)
    · refine kS h0 _ n.putOut fun b o e _ h2 _ => ?_
      rw [upd_ne h2]
      exact e
end
end GN
namespace GN
open PySem PySem.Spec PyProof.Rows L2
section
variable {P : Program} {w : World} {K : PySem.W.Frag} {mg : Str → Option Value} {base : Heap} {CF CG CN dk rg : Addr}
/-! ### add_gate -/
def pG (p : PN) (ws : List Str) : Option PN := match ws with
  | z :: e :: k :: a => pGate p z e k a
  | _ => none
def spAddGate (CF CN CG : Addr) : Sp := fun vs H Q E => ∃ (A : NAd) (p : PN) (tb : List GR) (la : Addr) (l : List Str), vs = [.ref A.a, .ref la] ∧ NOk CN CG H A p tb ∧ H la = some (.lst (l.map V.str)) ∧ Wds l ∧ p.sz + l.length ≤ 200000 ∧
  (pG p l = none → Raised CF E) ∧ (∀ p', pG p l = some p' → ∀ H' tb', NOk CN CG H' A p' tb' → Keep A H H' → Q .non H')
theorem scAG : FnScope ["network", "words", "name", "kind", "sources"] ["network", "words"] (defScope sAddGate) := ⟨rfl, rfl, rfl, by decide +kernel, rfl, by decide +kernel, by decide +kernel⟩
theorem ok_addGate {f fW fI : Addr} {fd fdW fdI : FuncData} (F : Fun K "add_gate" "add_gate" sAddGate f fd) (T : Txt K mg CF CG CN) (T2 : Txt2 K mg w dk rg)
    (GW : FnOk P w K mg base (L2.CX P w) 2 fW fdW ["network", "word"] (spNew CF CN CG)) (kW : PySem.W.keepIn K (.ref fW) = true) (bW : Binds K fdW ["network", "word"] []) (mW : mg "refuse_as_new" = some (.ref fW))
    (MG : Mk K CG fI) (FI : Fun K "__init__" "Gate.__init__" sGateInit fI fdI) (bI : Binds K fdI ["self", "kind", "sources"] []) :
    FnOk P w K mg base (L2.CX P w) 3 f fd ["network", "words"] (spAddGate CF CN CG) := by
  have GI : FnOk P w K mg base CX0 1 fI fdI ["self", "kind", "sources"] (spGateInit CG) := ok_gateInit FI T
  obtain ⟨es, en_, D⟩ := T2.dK
  refine F.okX scAG (fun vs H Q E h => ?_) (fun cdv A outer s H vs Q E hr h => ?_)
  · obtain ⟨A, p, tb, la, l, rfl, _⟩ := h
    rfl
  · obtain ⟨A, p, tb, la, l, rfl, n, hl, hw, hz, kN, kS⟩ := h
    refine ⟨_, pss_cons (ps_if (PW.pt (pw_or (pt_cmpR op_lt (pe_callB call_len_seq (by rfl) T.len PySem.boot_len (pa_cons (pv 1) pa_nil)) pe_int (nomark _))
          (pw_or (pt_cmpR op_ne (pe_ix ix_list (pv 1) pe_int (fun _ _ => rfl)) pe_str (nomark _))
            (pw_or1 (pt_cmpR (op_notIn_kd D) (pe_ix ix_list (pv 1) pe_int (fun _ _ => rfl)) (pe_glob rfl T2.gK (v := .ref dk) rfl) (by rfl))))))
        (pss_one (ps_raise rfl (takes_of rfl rfl rfl rfl) (pmk_own0 PySem.F.excBase_ValueError T.xF T.gF T.kF (raises_own T.bF T.tF) rfl))) pss_nil)
      (pss_cons (ps_set (i := 2) scAG.nd rfl (.inl rfl) (pe_ix ix_list (pv 1) pe_int (fun _ _ => rfl)))
      (pss_cons (ps_set (i := 3) scAG.nd rfl (.inl rfl) (pe_ix ix_list (pv 1) pe_int (fun _ _ => rfl)))
      (pss_cons (ps_set (i := 4) scAG.nd rfl (.inl rfl) (pe_slice sl_list (pv 1) (po_some pe_int) po_none))
      (pss_cons (ps_if (pt_cmpR op_ne (pe_callB call_len_seq (by rfl) T.len PySem.boot_len (pa_cons (pv 4) pa_nil)) (pe_ix ix_kdict (pe_glob rfl T2.gK (v := .ref dk) rfl) (pv 3) (fun _ _ => rfl)) (nomark _))
        (pss_one (ps_raise rfl (takes_of rfl rfl rfl rfl) (pmk_own0 PySem.F.excBase_ValueError T.xF T.gF T.kF (raises_own T.bF T.tF) rfl))) pss_nil)
      (pss_cons (ps_expr (pe_callS GW hr rfl mW kW bW (fun σ => passAt (takes_of rfl rfl rfl rfl) σ) (pa_cons (pv 0) (pa_cons (pv 2) pa_nil))))
      (pss_one (ps_dput (hu_of hr) (pe_fld (pv 0) rfl) (pv 2) (pe_make MG GI hr rfl T.gG bI .nil pass0 (pa_cons (pv 3) (pa_cons (pv 4) pa_nil))) rfl))))))), ?_⟩
    refine ⟨_, rfl, la, _, rfl, .inl (SqL.of hl), _, _, rfl, rfl, _, rfl, ?_⟩
    rw [List.length_map]
    match l, hl, hw, hz, kN, kS with
    | [], hl, hw, hz, kN, kS => exact if_t rfl (if_t rfl (kN rfl H))
    | [_], hl, hw, hz, kN, kS => exact if_t rfl (if_t rfl (kN rfl H))
    | [_, _], hl, hw, hz, kN, kS => exact if_t rfl (if_t rfl (kN rfl H))
    | z :: e :: k :: a, hl, hw, hz, kN, kS =>
      refine if_f (decide_eq_false (by simp only [List.length_cons]; omega)) ?_
      refine ⟨_, rfl, la, _, _, _, rfl, rfl, SqL.of hl, atI_nat (j := 1) rfl, rfl, _, rfl, ?_⟩
      have kN' : pGate p z e k a = none → Raised CF E := kN
      have kS' : ∀ p', pGate p z e k a = some p' → ∀ H' tb', NOk CN CG H' A p' tb' → Keep A H H' → Q .non H' := kS
      unfold pGate at kN' kS'
      by_cases he : e = sEq
      · rw [if_pos he] at kN' kS'
        refine if_f (by rw [decide_eq_true (congrArg V.str he)]; rfl) ?_
        obtain ⟨r, hr1, hr2⟩ := T2.at_ k
        refine ⟨_, rfl, la, _, _, _, rfl, rfl, SqL.of hl, atI_nat (j := 2) rfl, k, r, rfl, rfl, hr1, _, rfl, ?_⟩
        cases hk : kc k with
        | none =>
          rw [hk] at hr2 kN'
          subst hr2
          exact if_t rfl (kN' rfl H)
        | some c =>
          rw [hk] at hr2 kN' kS'
          obtain ⟨t, rfl⟩ := hr2
          refine if_f rfl ?_
          refine ⟨_, rfl, la, _, _, _, rfl, rfl, SqL.of hl, atI_nat (j := 0) rfl, ?_⟩
          refine ⟨_, rfl, la, _, _, _, rfl, rfl, SqL.of hl, atI_nat (j := 2) rfl, ?_⟩
          refine ⟨_, rfl, _, rfl, la, _, rfl, SqL.of hl, fun sa hsa => ?_⟩
          have ecut : cutV ((z :: e :: k :: a).map V.str) (some 3) none = a.map V.str := cut_from _ 3
          rw [ecut]
          have s1 : Same H (upd H sa (.lst (a.map V.str))) := Same.upd_own hsa
          refine ⟨_, rfl, sa, _, rfl, .inl (SqL.of upd_same), _, rfl, dk, k, .int (c : Nat), rfl, rfl, ⟨es, en_, _, D.at_, D.lit, hr1, ⟨t, rfl⟩⟩, rfl, _, rfl, ?_⟩
          rw [List.length_map]
          by_cases hc : a.length = c
          · refine if_f (by rw [decide_eq_true (by rw [hc])]; rfl) ?_
            have hw0 := hw z List.mem_cons_self
            refine ⟨_, rfl, _, rfl, A, p, tb, z, rfl, n.same s1, hw0.1, hw0.2, fun ef => ?_, fun ef H2 s2 => ?_⟩
            · refine kN' ?_
              show (if a.length = c ∧ p.fresh z = true then some ({ p with gates := p.gates ++ [PG.mk z k a] } : PN) else none) = none
              rw [if_neg (fun q => by rw [ef] at q; exact absurd q.2 Bool.false_ne_true)]
            · have s3 : Same H H2 := s1.trans s2
              refine ⟨_, rfl, _, rfl, fun x dx nx nd ne => ?_⟩
              refine ⟨x, dx, sa, k, rfl, upd_same, fun H3 hx hk3 hk4 => ⟨rfl, ?_⟩⟩
              have s4 : Same H2 H3 := Same.made nx nd hk3
              have n3 := n.same (s3.trans s4)
              refine ⟨_, rfl, A.a, CN, A.dx, _, _, rfl, n3.ob, T.cN, T.nG, nF_gates A, _, rfl, A.dg, _, rfl, DPut.k (k := Sum.inr z) n3.gates ?_, ?_⟩
              · rw [gatesK_len]
                have : tb.length = p.gates.length := by rw [n.row, List.length_map]
                unfold PN.sz at hz
                exact Nat.lt_of_le_of_lt (show tb.length ≤ 200000 by omega) (by decide)
              refine kS' _ (if_pos ⟨hc, ef⟩) _ _ (NOk.putGate (r := ⟨⟨z, k, a⟩, x, dx, sa⟩) n3 ⟨hx, s4 _ _ (s2 _ _ upd_same)⟩ (Ne.symm (ne_of_none n.outs hsa)) (fresh_not ef).2) fun b o q _ _ h3 => ?_
              rw [upd_ne h3]
              exact s4 _ _ (s3 b o q)
          · refine if_t (by rw [decide_eq_false (fun q => hc (by have := V.int.inj q; omega))]; rfl) (kN' ?_ _)
            show (if a.length = c ∧ p.fresh z = true then some ({ p with gates := p.gates ++ [PG.mk z k a] } : PN) else none) = none
            rw [if_neg fun q => hc q.1]
      · rw [if_neg he] at kN'
        exact if_t (by rw [decide_eq_false fun q => he (V.str.inj q)]; rfl) (if_t rfl (kN' rfl H))
/-! ### read_line -/
theorem pLine_gate {p : PN} {z : Str} {r : List Str} (h1 : ¬ z = sIn) (h2 : ¬ z = sOut) : pLine p (z :: r) = pG p (z :: r) := by
  unfold pLine
  dsimp only
  rw [if_neg h1, if_neg h2]
  match r with
  | [] => rfl
  | [_] => rfl
  | _ :: _ :: _ => rfl
def spLine (CF CN CG : Addr) : Sp := fun vs H Q E => ∃ (A : NAd) (p : PN) (tb : List GR) (la : Addr) (l : List Str), vs = [.ref A.a, .ref la] ∧ NOk CN CG H A p tb ∧ H la = some (.lst (l.map V.str)) ∧ l ≠ [] ∧ Wds l ∧ p.sz + l.length ≤ 200000 ∧
  (pLine p l = none → Raised CF E) ∧ (∀ p', pLine p l = some p' → ∀ H' tb', NOk CN CG H' A p' tb' → Keep A H H' → Q .non H')
theorem scLn : FnScope ["network", "words"] ["network", "words"] (defScope sLine) := ⟨rfl, rfl, rfl, by decide +kernel, rfl, by decide +kernel, by decide +kernel⟩
theorem ok_line {f fi fo fg : Addr} {fd fdi fdo fdg : FuncData} (F : Fun K "read_line" "read_line" sLine f fd)
    (Gi : FnOk P w K mg base (L2.CX P w) 3 fi fdi ["network", "names"] (spAddIn CF CN CG)) (ki : PySem.W.keepIn K (.ref fi) = true) (bi : Binds K fdi ["network", "names"] []) (mi : mg "add_inputs" = some (.ref fi))
    (Go : FnOk P w K mg base (L2.CX P w) 1 fo fdo ["network", "names"] (spAddOut CF CN CG)) (ko : PySem.W.keepIn K (.ref fo) = true) (bo : Binds K fdo ["network", "names"] []) (mo : mg "add_outputs" = some (.ref fo))
    (Gg : FnOk P w K mg base (L2.CX P w) 3 fg fdg ["network", "words"] (spAddGate CF CN CG)) (kg : PySem.W.keepIn K (.ref fg) = true) (bg : Binds K fdg ["network", "words"] []) (mg_ : mg "add_gate" = some (.ref fg)) :
    FnOk P w K mg base (L2.CX P w) 4 f fd ["network", "words"] (spLine CF CN CG) := by
  refine F.okX scLn (fun vs H Q E h => ?_) (fun cdv A outer s H vs Q E hr h => ?_)
  · obtain ⟨A, p, tb, la, l, rfl, _⟩ := h
    rfl
  · obtain ⟨A, p, tb, la, l, rfl, n, hl, h0, hw, hz, kN, kS⟩ := h
    refine ⟨_, pss_one (ps_if (pt_cmpR op_eq (pe_ix ix_list (pv 1) pe_int (fun _ _ => rfl)) pe_str (nomark _))
        (pss_one (ps_expr (pe_callS Gi hr rfl mi ki bi (fun σ => passAt (takes_of rfl rfl rfl rfl) σ) (pa_cons (pv 0) (pa_cons (pe_slice sl_list (pv 1) (po_some pe_int) po_none) pa_nil)))))
        (pss_one (ps_if (pt_cmpR op_eq (pe_ix ix_list (pv 1) pe_int (fun _ _ => rfl)) pe_str (nomark _))
          (pss_one (ps_expr (pe_callS Go (hr.mono (by decide)) rfl mo ko bo (fun σ => passAt (takes_of rfl rfl rfl rfl) σ) (pa_cons (pv 0) (pa_cons (pe_slice sl_list (pv 1) (po_some pe_int) po_none) pa_nil)))))
          (pss_one (ps_expr (pe_callS Gg hr rfl mg_ kg bg (fun σ => passAt (takes_of rfl rfl rfl rfl) σ) (pa_cons (pv 0) (pa_cons (pv 1) pa_nil)))))))), ?_⟩
    match l, hl, h0, hw, hz, kN, kS with
    | [], hl, h0, hw, hz, kN, kS => exact absurd rfl h0
    | z :: r, hl, h0, hw, hz, kN, kS =>
      have kN0 := kN
      have kS0 := kS
      unfold pLine at kN kS
      dsimp only at kN kS
      have ecut : cutV ((z :: r).map V.str) (some 1) none = r.map V.str := cut_from _ 1
      have hwr : Wds r := fun x hx => hw x (List.mem_cons_of_mem _ hx)
      have hzr : p.sz + r.length ≤ 200000 := by rw [List.length_cons] at hz; omega
      refine ⟨_, rfl, la, _, _, _, rfl, rfl, SqL.of hl, atI_nat (j := 0) rfl, rfl, _, rfl, ?_⟩
      by_cases h1 : z = sIn
      · rw [if_pos h1] at kN
        simp only [if_pos h1] at kS
        refine if_t (decide_eq_true (congrArg V.str h1)) ?_
        refine ⟨_, rfl, _, rfl, _, rfl, la, _, rfl, SqL.of hl, fun sa hsa => ?_⟩
        rw [ecut]
        have s1 : Same H (upd H sa (.lst (r.map V.str))) := Same.upd_own hsa
        refine ⟨A, p, tb, sa, r, rfl, n.same s1, upd_same, hwr, hzr, fun q => ?_, fun p' hr0 e H' n' k' => ?_⟩
        · refine kN ?_
          rcases q with q | q
          · rw [if_pos q]
          · by_cases hr0 : r = []
            · rw [if_pos hr0]
            · rw [if_neg hr0]; exact q
        · exact kS p' (by rw [if_neg hr0]; exact e) H' tb n' ((Keep.of_same s1).trans k')
      · rw [if_neg h1] at kN
        simp only [if_neg h1] at kS
        refine if_f (decide_eq_false fun q => h1 (V.str.inj q)) ?_
        refine ⟨_, rfl, la, _, _, _, rfl, rfl, SqL.of hl, atI_nat (j := 0) rfl, rfl, _, rfl, ?_⟩
        by_cases h2 : z = sOut
        · rw [if_pos h2] at kN
          simp only [if_pos h2] at kS
          refine if_t (decide_eq_true (congrArg V.str h2)) ?_
          refine ⟨_, rfl, _, rfl, _, rfl, la, _, rfl, SqL.of hl, fun sa hsa => ?_⟩
          rw [ecut]
          have s1 : Same H (upd H sa (.lst (r.map V.str))) := Same.upd_own hsa
          refine ⟨A, p, tb, sa, r, rfl, n.same s1, upd_same, hzr, fun q => kN (by rw [if_pos q]), fun hr0 H' n' k' => ?_⟩
          exact kS _ (by rw [if_neg hr0]) H' tb n' ((Keep.of_same s1).trans k')
        · rw [if_neg h2] at kN
          simp only [if_neg h2] at kS
          refine if_f (decide_eq_false fun q => h2 (V.str.inj q)) ?_
          refine ⟨_, rfl, _, rfl, A, p, tb, la, z :: r, rfl, n, hl, hw, hz, fun q => kN0 ((pLine_gate h1 h2).trans q), fun p' e H' tb' n' k' => kS0 p' ((pLine_gate h1 h2).trans e) H' tb' n' k'⟩
end
end GN
namespace GN
open PySem PySem.Spec PyProof.Rows L2
/-! ### the signs -/
def signPut (d : List (Key × V)) (c : Nat) : List (Key × V) := putK d (Sum.inl (c : Int)) (.str ⟨#[c]⟩)
def knownL : List Nat := (Str.ofString "\n\t #=abcdefghijklmnopqrstuvwxyz0123456789_").cps.toList
theorem val_signs (j : Nat) : ∀ (l : List Nat) (d : List (Key × V)), valV (l.foldl signPut d) (Sum.inl (j : Int)) = if j ∈ l then some (.str ⟨#[j]⟩) else valV d (Sum.inl (j : Int))
  | [], d => by simp
  | c :: l, d => by
    rw [List.foldl_cons, val_signs j l]
    unfold signPut
    rw [valV_put]
    by_cases h1 : j ∈ l
    · simp [h1]
    · by_cases h2 : j = c
      · subst h2
        simp
      · have h3 : ¬ ((Sum.inl (j : Int) : Key) = Sum.inl (c : Int)) := fun e => h2 (by have := Sum.inl.inj e; omega)
        simp [h1, h2, h3]
theorem known_iff (c : UInt8) : decide (c.toNat ∈ knownL) = known c := all256 (P := fun c => decide (c.toNat ∈ knownL) = known c) (by decide +kernel) c
theorem sign_of {n : Int} (h0 : 0 ≤ n) (h1 : n ≤ 255) : (valV (knownL.foldl signPut []) (Sum.inl n)).getD (.str "?") = .str ⟨#[sp1 (UInt8.ofNat n.toNat)]⟩ := by
  obtain ⟨j, rfl⟩ := Int.eq_ofNat_of_zero_le h0
  rw [val_signs, valV_nil]
  have e : (UInt8.ofNat j).toNat = j := by
    rw [UInt8.toNat_ofNat']
    omega
  have k := known_iff (UInt8.ofNat j)
  rw [e] at k
  unfold sp1
  show (if j ∈ knownL then some (V.str ⟨#[j]⟩) else none).getD (.str "?") = .str ⟨#[if known (UInt8.ofNat j) = true then (UInt8.ofNat j).toNat else 63]⟩
  by_cases h : j ∈ knownL
  · rw [if_pos h, if_pos (by rw [← k]; exact decide_eq_true h), e]
    rfl
  · rw [if_neg h, if_neg (by rw [← k, decide_eq_false h]; exact Bool.false_ne_true)]
    show V.str "?" = V.str ⟨#[63]⟩
    exact congrArg V.str (by decide +kernel)
theorem joinL_nil : ∀ l : List (List Nat), TL.joinL [] l = l.flatten
  | [] => rfl
  | [p] => by simp [TL.joinL]
  | p :: q :: r => by
    have ih := joinL_nil (q :: r)
    show p ++ ([] ++ TL.joinL [] (q :: r)) = _
    rw [ih]
    simp
def oneSign (n : Int) : Str := ⟨#[sp1 (UInt8.ofNat n.toNat)]⟩
theorem join_en (ns : List Int) : Txt.join "" (ns.map oneSign) = en (Sf33Neutral.bytesOf ns) := by
  refine TL.ext_tl ?_
  have e0 : TL.tl ("" : Str) = [] := by decide +kernel
  rw [TL.join_eq, TL.tl_join, e0, joinL_nil, en_tl]
  unfold Sf33Neutral.bytesOf
  induction ns with
  | nil => rfl
  | cons n ns ih =>
    simp only [List.map_cons, List.flatten_cons] at ih ⊢
    rw [ih]
    rfl
theorem sum_one : ∀ ns : List Int, ((ns.map oneSign).map (·.length)).sum = ns.length
  | [] => rfl
  | n :: ns => by
    have ih := sum_one ns
    simp only [List.map_cons, List.sum_cons, List.length_cons, ih]
    show 1 + ns.length = _
    omega
section
variable {P : Program} {w : World} {K : PySem.W.Frag} {mg : Str → Option Value} {base : Heap} {CF CG CN dk rg : Addr}
/-! ### spell -/
def spSpell (K : PySem.W.Frag) : Sp := fun vs H Q _ => ∃ (a : Addr) (ns : List Int), vs = [.ref a] ∧ SqL K H a (ns.map V.int) ∧ ns.length ≤ 65536 ∧ (∀ n ∈ ns, 0 ≤ n ∧ n ≤ 255) ∧
  ∀ H', Same H H' → Q (.str (en (Sf33Neutral.bytesOf ns))) H'
theorem scSp : FnScope ["text", "signs", "sign", "byte"] ["text"] (defScope sSpell) := ⟨rfl, rfl, rfl, by decide +kernel, rfl, by decide +kernel, by decide +kernel⟩
theorem ok_spell {f : Addr} {fd : FuncData} (F : Fun K "spell" "spell" sSpell f fd) (T : Txt K mg CF CG CN) : FnOk P w K mg base CX0 1 f fd ["text"] (spSpell K) := by
  obtain ⟨t1, m1⟩ := T.sKno
  obtain ⟨t2, m2⟩ := T.sStr
  refine F.ok scSp (fun vs H Q E h => ?_) (fun cdv A outer s H vs Q E hr h => ?_)
  · obtain ⟨a, ns, rfl, _⟩ := h
    rfl
  · obtain ⟨a, ns, rfl, ha, hn, hb, q⟩ := h
    refine ⟨_, pss_cons (ps_set (i := 1) scSp.nd rfl (.inr rfl) pe_dnewK)
      (pss_cons (ps_for PassesOwn.never rfl (pi_str (pe_glob rfl m1 (v := .str "\n\t #=abcdefghijklmnopqrstuvwxyz0123456789_") ⟨_, rfl⟩)) (pg_name (i := 2) scSp.nd rfl (.inl rfl))
        (pss_one (ps_dput (hu_of hr) (pv 1) (pe_callB call_ord (by rfl) T.ord (by decide +kernel) (pa_cons (pv 2) pa_nil)) (pv 2) rfl)))
      (pss_one (ps_ret (pe_join pe_str (pe_lc (own := [("byte", 3)]) (g := gName 3) (tt := tYes) (by rfl) scSp.nd (pi_list (pv 0))
        (blkOk_by (own := [("byte", 3)]) (N := ["text", "signs", "sign", "byte"]) (sc := defScope sSpell) (by decide +kernel)) (fun _ _ _ _ _ => pg_name (i := 3) scSp.nd rfl (Or.inl rfl)) (fun _ _ _ _ _ => pts_nil)
        (fun _ _ _ _ _ => pe_dget2 (hu_of hr) (pv 1) (pv 3) (pe_glob rfl m2 (v := .str "?") ⟨_, rfl⟩) ⟨rfl, rfl, rfl, rfl⟩)))))), ?_⟩
    intro ds hds
    refine ⟨_, rfl, for_it (walk_str (z := _)) (fun i σ H' => ∃ v kvs, σ = [some (.ref a), some (.ref ds), v, none] ∧ kvs = (knownL.take i).foldl signPut [] ∧ kvs.length ≤ i ∧ H' ds = some (.dK kvs) ∧ Same H H') ?_ (fun _ _ _ _ _ => trivial) ?_ ?_⟩
    · exact ⟨none, [], rfl, rfl, Nat.le_refl _, upd_same, Same.upd_own hds⟩
    · rintro i x σ H1 H2 hi ⟨v, kvs, rfl, ek, hl, hd, s1⟩ ⟨rfl, c, hc, rfl⟩
      refine ⟨_, rfl, _, rfl, _, rfl, _, rfl, rfl, ds, _, rfl, DPut.k (k := Sum.inl (c : Int)) hd ?_, ?_⟩
      · have h42 : (Str.ofString "\n\t #=abcdefghijklmnopqrstuvwxyz0123456789_").cps.size = 42 := by decide +kernel
        have hi' : i < 42 := Nat.lt_of_lt_of_eq hi h42
        exact Nat.lt_of_le_of_lt (show kvs.length ≤ 100 by omega) (by decide)
      have e : knownL[i]? = some c := by
        show (Str.ofString _).cps.toList[i]? = some c
        rw [Array.getElem?_toList]
        exact hc
      refine ⟨_, _, rfl, ?_, ?_, upd_same, Same.upd_new s1 hds⟩
      · rw [List.take_add_one, e, List.foldl_append, ← ek]
        rfl
      · have := length_putK kvs (Sum.inl (c : Int)) (.str ⟨#[c]⟩)
        exact Nat.le_trans this (by omega)
    · rintro σ H1 ⟨v, kvs, rfl, ek, hl, hd, s1⟩
      have ek : kvs = knownL.foldl signPut [] := by
        rw [ek]
        exact congrArg (List.foldl signPut []) (List.take_of_length_le (Nat.le_of_eq Array.length_toList))
      refine ⟨⟨_, rfl⟩, _, rfl, a, rfl, ⟨_, s1.seq ha⟩, fun D hD => lc_list (K := K) (a := a) (xs := ns.map V.int) (fun i H' => Same H1 H' ∧ H' D = some (.lst ((ns.take i).map fun n => V.str (oneSign n)))) ?_ ?_ ?_ ?_⟩
      · exact ⟨Same.upd_own hD, upd_same⟩
      · rintro i H' _ ⟨s2, _⟩
        exact (s1.trans s2).seq ha
      · rintro i x H' hi ⟨s2, h5⟩
        obtain ⟨n, hni, rfl⟩ : ∃ n, ns[i]? = some n ∧ x = V.int n := by
          rw [List.getElem?_map] at hi
          cases e : ns[i]? with
          | none => rw [e] at hi; cases hi
          | some z => rw [e] at hi; exact ⟨z, rfl, (Option.some.inj hi).symm⟩
        have hnm := hb n (List.mem_of_getElem? hni)
        have hil : i < ns.length := (List.getElem?_eq_some_iff.mp hni).1
        have hd2 := s2 _ _ hd
        refine ⟨rfl, _, rfl, ds, rfl, .inl ⟨_, .inl hd2⟩, _, rfl, _, DGet.k (k := Sum.inl n) hd2, _, h5, ?_, ?_⟩
        · rw [List.length_map, List.length_take]
          exact Nat.lt_of_le_of_lt (Nat.le_trans (Nat.min_le_right _ _) hn) (by decide)
        · refine ⟨Same.upd_new s2 hD, ?_⟩
          rw [ek, sign_of hnm.1 hnm.2, upd_same, List.take_add_one, hni, List.map_append]
          rfl
      · rintro H' ⟨s2, h5⟩
        rw [List.length_map, List.take_length] at h5
        refine ⟨_, D, ns.map oneSign, rfl, rfl, .inl (SqL.of (by rw [h5, List.map_map]; rfl)), ?_, ?_⟩
        · have e1 := sum_one ns
          have e2 : (("" : Str)).length = 0 := by decide +kernel
          rw [e1, e2, List.length_map]
          omega
        · rw [join_en]
          exact q H' (s1.trans s2)
/-! ### refuse_too_many -/
def spMany (CF CN CG : Addr) : Sp := fun vs H Q E => ∃ (A : NAd) (p : PN) (tb : List GR), vs = [.ref A.a] ∧ NOk CN CG H A p tb ∧ (¬ PSmall p → Raised CF E) ∧ (PSmall p → Q .non H)
theorem scMn : FnScope ["network"] ["network"] (defScope sMany) := ⟨rfl, rfl, rfl, by decide +kernel, rfl, by decide +kernel, by decide +kernel⟩
theorem ok_many {f : Addr} {fd : FuncData} (F : Fun K "refuse_too_many" "refuse_too_many" sMany f fd) (T : Txt K mg CF CG CN) : FnOk P w K mg base (L2.CX P w) 1 f fd ["network"] (spMany CF CN CG) := by
  obtain ⟨t1, m1⟩ := T.mIns
  obtain ⟨t2, m2⟩ := T.mOuts
  obtain ⟨t3, m3⟩ := T.mNames
  refine F.okX scMn (fun vs H Q E h => ?_) (fun cdv A outer s H vs Q E hr h => ?_)
  · obtain ⟨A, p, tb, rfl, _⟩ := h
    rfl
  · obtain ⟨A, p, tb, rfl, n, kN, kS⟩ := h
    refine ⟨_, pss_cons (ps_if (PW.pt (pw_or (pt_cmpR op_gt (pe_callB call_lenD (by rfl) T.len PySem.boot_len (pa_cons (pe_fld (pv 0) rfl) pa_nil)) (pe_glob rfl m1 (v := .int 64) ⟨_, rfl⟩) (nomark _))
          (pw_or1 (pt_cmpR op_gt (pe_callB call_len_seq (by rfl) T.len PySem.boot_len (pa_cons (pe_fld (pv 0) rfl) pa_nil)) (pe_glob rfl m2 (v := .int 64) ⟨_, rfl⟩) (nomark _)))))
        (pss_one (ps_raise rfl (takes_of rfl rfl rfl rfl) (pmk_own0 PySem.F.excBase_ValueError T.xF T.gF T.kF (raises_own T.bF T.tF) rfl))) pss_nil)
      (pss_one (ps_if (pt_cmpR op_gt (pe_op op_add (pe_callB call_lenD (by rfl) T.len PySem.boot_len (pa_cons (pe_fld (pv 0) rfl) pa_nil)) (pe_callB call_lenD (by rfl) T.len PySem.boot_len (pa_cons (pe_fld (pv 0) rfl) pa_nil))) (pe_glob rfl m3 (v := .int 1024) ⟨_, rfl⟩) (nomark _))
        (pss_one (ps_raise rfl (takes_of rfl rfl rfl rfl) (pmk_own0 PySem.F.excBase_ValueError T.xF T.gF T.kF (raises_own T.bF T.tF) rfl))) pss_nil)), ?_⟩
    have hg : tb.length = p.gates.length := by rw [n.row, List.length_map]
    refine ⟨_, rfl, A.a, CN, A.dx, _, _, rfl, n.ob, T.cN, T.nI, nF_in A, A.di, _, rfl, n.ins, _, _, rfl, rfl, _, rfl, ?_⟩
    rw [insK_len]
    by_cases h1 : p.ins.length ≤ 64
    · refine if_f (decide_eq_false (by omega)) ?_
      refine ⟨_, rfl, A.a, CN, A.dx, _, _, rfl, n.ob, T.cN, T.nO, nF_out A, A.dl, _, rfl, .inl (SqL.of n.outs), _, _, rfl, rfl, _, rfl, ?_⟩
      rw [List.length_map]
      by_cases h2 : p.outs.length ≤ 64
      · refine if_f (decide_eq_false (by omega)) ?_
        refine ⟨_, rfl, A.a, CN, A.dx, _, _, rfl, n.ob, T.cN, T.nI, nF_in A, A.di, _, rfl, n.ins, _, rfl, A.a, CN, A.dx, _, _, rfl, n.ob, T.cN, T.nG, nF_gates A, A.dg, _, rfl, n.gates, _, _, rfl, rfl, _, _, rfl, rfl, _, rfl, ?_⟩
        rw [insK_len, gatesK_len]
        by_cases h3 : p.ins.length + p.gates.length ≤ 1024
        · exact if_f (decide_eq_false (by omega)) (kS ⟨h1, h2, h3⟩)
        · exact if_t (decide_eq_true (by omega)) (kN (fun z => h3 z.2.2) H)
      · exact if_t (decide_eq_true (by omega)) (kN (fun z => h2 z.2.1) H)
    · exact if_t (decide_eq_true (by omega)) (if_t rfl (kN (fun z => h1 z.1) H))
/-! ### sources_at_once -/
def spOnce (CG : Addr) : Sp := fun vs H Q _ => ∃ (r : GR), vs = [.ref r.ga] ∧ GAt CG H r ∧ ∀ (ls : Addr) (H' : Hp), Same H H' → H' ls = some (.lst (r.pg.now.map V.str)) → Q (.ref ls) H'
theorem scOn : FnScope ["gate"] ["gate"] (defScope sAtOnce) := ⟨rfl, rfl, rfl, by decide +kernel, rfl, by decide +kernel, by decide +kernel⟩
theorem ok_once {f : Addr} {fd : FuncData} (F : Fun K "sources_at_once" "sources_at_once" sAtOnce f fd) (T : Txt K mg CF CG CN) (T2 : Txt2 K mg w dk rg) : FnOk P w K mg base CX0 1 f fd ["gate"] (spOnce CG) := by
  obtain ⟨es, en_, D⟩ := T2.dR
  refine F.ok scOn (fun vs H Q E h => ?_) (fun cdv A outer s H vs Q E hr h => ?_)
  · obtain ⟨r, rfl, _⟩ := h
    rfl
  · obtain ⟨r, rfl, g, k⟩ := h
    refine ⟨_, pss_cons (ps_if (pt_cmpR (op_in_kd D) (pe_fld (pv 0) rfl) (pe_glob rfl T2.gR (v := .ref rg) rfl) (by rfl)) (pss_one (ps_ret (pe_lst pa_nil))) pss_nil) (pss_one (ps_ret (pe_fld (pv 0) rfl))), ?_⟩
    obtain ⟨q, hq1, hq2⟩ := T2.atR r.pg.kind
    have hq : q.isSome = isRegS r.pg.kind := by
      rw [← rc_reg]
      cases e : rc r.pg.kind with
      | none => rw [e] at hq2; rw [hq2]; rfl
      | some c => rw [e] at hq2; obtain ⟨t, rfl⟩ := hq2; rfl
    refine ⟨_, rfl, r.ga, CG, r.dx, _, _, rfl, g.ob, T.cG, T.nK, gF_kind _ _, r.pg.kind, q, rfl, rfl, hq1, _, rfl, ?_⟩
    rw [hq]
    cases e : isRegS r.pg.kind with
    | true =>
      refine if_t rfl ⟨(by show 0 ≤ sizeLine; decide), fun l hl => k l _ (Same.upd_own hl) ?_⟩
      rw [upd_same]
      unfold PG.now
      rw [if_pos e]
      rfl
    | false =>
      refine if_f rfl ⟨_, rfl, r.ga, CG, r.dx, _, _, rfl, g.ob, T.cG, T.nS, gF_src _ _, k r.sa H (Same.refl H) ?_⟩
      rw [g.src]
      unfold PG.now
      rw [if_neg (by rw [e]; exact Bool.false_ne_true)]
/-! ### refuse_unknown_names -/
def spUnknown (CF CN CG : Addr) : Sp := fun vs H Q E => ∃ (A : NAd) (p : PN) (tb : List GR), vs = [.ref A.a] ∧ NOk CN CG H A p tb ∧ (¬ PKnown p → Raised CF E) ∧ (PKnown p → ∀ H', Same H H' → Q .non H')
theorem scUn : FnScope ["network", "name", "gate"] ["network"] (defScope sUnknown) := ⟨rfl, rfl, rfl, by decide +kernel, rfl, by decide +kernel, by decide +kernel⟩
theorem mem_take_of {α : Type} {l : List α} {i : Nat} {z : α} (h : l[i]? = some z) {x : α} (hx : x ∈ l.take (i + 1)) : x ∈ l.take i ∨ x = z := by
  rw [List.take_add_one, h] at hx
  rcases List.mem_append.mp hx with e | e
  · exact .inl e
  · exact .inr (List.mem_singleton.mp e)
theorem ok_unknown {f fG : Addr} {fd fdG : FuncData} (F : Fun K "refuse_unknown_names" "refuse_unknown_names" sUnknown f fd) (T : Txt K mg CF CG CN)
    (FG : Fun K "is_given" "is_given" sIsGiven fG fdG) (bG : Binds K fdG ["network", "name"] []) (mG : mg "is_given" = some (.ref fG)) : FnOk P w K mg base (L2.CX P w) 2 f fd ["network"] (spUnknown CF CN CG) := by
  have GG : FnOk P w K mg base CX0 1 fG fdG ["network", "name"] (spIsGiven CN) := ok_isGiven FG T
  refine F.okX scUn (fun vs H Q E h => ?_) (fun cdv A outer s H vs Q E hr h => ?_)
  · obtain ⟨A, p, tb, rfl, _⟩ := h
    rfl
  · obtain ⟨A, p, tb, rfl, n, kN, kS⟩ := h
    refine ⟨_, pss_cons (ps_for (passes_of rfl) rfl (pi_list (pe_fld (pv 0) rfl)) (pg_name (i := 1) scUn.nd rfl (.inl rfl))
        (pss_one (ps_if (pt_not (pt_val (pe_call GG hr rfl mG FG.kp bG .nil pass0 (pa_cons (pv 0) (pa_cons (pv 1) pa_nil)))))
          (pss_one (ps_raise rfl (takes_of rfl rfl rfl rfl) (pmk_own0 PySem.F.excBase_ValueError T.xF T.gF T.kF (raises_own T.bF T.tF) rfl))) pss_nil)))
      (pss_one (ps_lock (ps_for (passes_of rfl) rfl (pi_values (pe_fld (pv 0) rfl)) (pg_name (i := 2) scUn.nd rfl (.inl rfl))
        (pss_one (ps_for (passes_of rfl) rfl (pi_list (pe_fld (pv 2) rfl)) (pg_name (i := 1) scUn.nd rfl (.inl rfl))
          (pss_one (ps_if (pt_not (pt_val (pe_call GG hr rfl mG FG.kp bG .nil pass0 (pa_cons (pv 0) (pa_cons (pv 1) pa_nil)))))
            (pss_one (ps_raise rfl (takes_of rfl rfl rfl rfl) (pmk_own0 PySem.F.excBase_ValueError T.xF T.gF T.kF (raises_own T.bF T.tF) rfl))) pss_nil))))))), ?_⟩
    refine ⟨_, rfl, A.a, CN, A.dx, _, _, rfl, n.ob, T.cN, T.nO, nF_out A, A.dl, rfl, ⟨_, SqL.of n.outs⟩, for_list (K := K) (a := A.dl) (xs := p.outs.map V.str)
      (fun i σ H' => ∃ v, σ = [some (.ref A.a), v, none] ∧ H' = H ∧ ∀ x ∈ p.outs.take i, p.given x = true) ?_ ?_ ?_ ?_⟩
    · exact ⟨none, rfl, rfl, fun x hx => by simp at hx⟩
    · rintro i σ H' _ ⟨v, rfl, rfl, _⟩
      exact SqL.of n.outs
    · rintro i x σ H' hi ⟨v, rfl, rfl, ha⟩
      obtain ⟨z, hz, rfl⟩ := str_item hi
      refine ⟨_, rfl, _, rfl, A, p, tb, z, rfl, n.ob, .inl n.ins, .inl n.gates, n.gn, _, rfl, ?_⟩
      cases e : p.given z with
      | false => exact if_t rfl (kN (fun k => by have := k.1 z (List.mem_of_getElem? hz); rw [e] at this; cases this) _)
      | true =>
        refine if_f rfl ⟨_, rfl, rfl, fun x hx => ?_⟩
        rcases mem_take_of hz hx with h | h
        · exact ha x h
        · rw [h]; exact e
    · rintro σ H' ⟨v, rfl, rfl, ha⟩
      rw [List.length_map, List.take_length] at ha
      refine ⟨A.dg, _, n.gates, trivial, fun od => ?_⟩
      have f1 : A.a ≠ A.dg := ne_of n.ob n.gates (by intro z; cases z)
      have hob : (upd H' A.dg (.frz od (.dK (gatesK tb)))) A.a = some (.ins CN A.dx (nF A)) := by rw [upd_ne f1]; exact n.ob
      refine ⟨_, rfl, A.a, CN, A.dx, _, _, rfl, hob, T.cN, T.nG, nF_gates A, A.dg, od, gatesK tb, rfl, upd_same,
        for_it w_vals (fun i σ H2 => ∃ v v2, σ = [some (.ref A.a), v, v2] ∧ H2 = upd H' A.dg (.frz od (.dK (gatesK tb))) ∧ ∀ r ∈ tb.take i, ∀ x ∈ r.pg.src, p.given x = true) ?_ ?_ ?_ ?_⟩
      · exact ⟨_, _, rfl, rfl, fun r hr => by simp at hr⟩
      · rintro i σ H2 _ ⟨_, _, rfl, rfl, _⟩
        exact upd_same
      · rintro i x σ H2 H3 hi ⟨v, v2, rfl, rfl, hk⟩ ⟨rfl, kk, hkk⟩
        obtain ⟨r, hri, hx⟩ : ∃ r, tb[i]? = some r ∧ x = .ref r.ga := by
          unfold gatesK at hkk
          rw [List.getElem?_map] at hkk
          cases e : tb[i]? with
          | none => rw [e] at hkk; cases hkk
          | some r =>
            rw [e] at hkk
            exact ⟨r, rfl, (congrArg Prod.snd (Option.some.inj hkk)).symm⟩
        subst hx
        have hrm : r ∈ tb := List.mem_of_getElem? hri
        have g := n.each r hrm
        have g1 : r.ga ≠ A.dg := ne_of g.ob n.gates (by intro z; cases z)
        have g2 : r.sa ≠ A.dg := ne_of g.src n.gates (by intro z; cases z)
        refine ⟨_, rfl, r.ga, CG, r.dx, _, _, rfl, (by rw [upd_ne g1]; exact g.ob), T.cG, T.nS, gF_src _ _, r.sa, rfl, ⟨_, SqL.of (by rw [upd_ne g2]; exact g.src)⟩,
          for_list (K := K) (a := r.sa) (xs := r.pg.src.map V.str) (fun j σ H4 => ∃ v, σ = [some (.ref A.a), v, some (.ref r.ga)] ∧ H4 = upd H' A.dg (.frz od (.dK (gatesK tb))) ∧ ∀ x ∈ r.pg.src.take j, p.given x = true) ?_ ?_ ?_ ?_⟩
        · exact ⟨_, rfl, rfl, fun x hx => by simp at hx⟩
        · rintro j σ H4 _ ⟨_, rfl, rfl, _⟩
          exact SqL.of (by rw [upd_ne g2]; exact g.src)
        · rintro j x σ H4 hj ⟨_, rfl, rfl, hjk⟩
          obtain ⟨z, hz, rfl⟩ := str_item hj
          refine ⟨_, rfl, _, rfl, A, p, tb, z, rfl, hob, .inl ?_, .inr ⟨od, upd_same⟩, n.gn, _, rfl, ?_⟩
          · rw [upd_ne n.apart]; exact n.ins
          cases e : p.given z with
          | false =>
            refine if_t rfl (kN (fun k => ?_) _)
            have := k.2 r.pg (by rw [n.row]; exact List.mem_map.mpr ⟨r, hrm, rfl⟩) z (List.mem_of_getElem? hz)
            rw [e] at this
            cases this
          | true =>
            refine if_f rfl ⟨_, rfl, rfl, fun x hx => ?_⟩
            rcases mem_take_of hz hx with h | h
            · exact hjk x h
            · rw [h]; exact e
        · rintro σ H4 ⟨_, rfl, rfl, hjk⟩
          rw [List.length_map, List.take_length] at hjk
          refine ⟨_, _, rfl, rfl, fun r' hr' => ?_⟩
          rcases mem_take_of hri hr' with h | h
          · exact hk r' h
          · rw [h]; exact hjk
      · rintro σ H2 ⟨v, v2, rfl, rfl, hk⟩
        rw [List.take_length] at hk
        refine ⟨upd_same, kS ⟨ha, fun g hg x hx => ?_⟩ _ fun b o e => ?_⟩
        · rw [n.row] at hg
          obtain ⟨r, hr', rfl⟩ := List.mem_map.mp hg
          exact hk r hr' x hx
        · by_cases hb : b = A.dg
          · subst hb
            rw [n.gates] at e
            cases e
            exact upd_same
          · rw [upd_ne hb, upd_ne hb]
            exact e
end
end GN
namespace GN
open PySem PySem.Spec PyProof.Rows L2
/-! ### tables -/
def wK (l : List Str) (f : Str → Nat) : List (Key × V) := l.map fun g => (Sum.inr g, .int (f g : Nat))
def takK (tl : List (Str × Addr)) : List (Key × V) := tl.map fun q => (Sum.inr q.1, V.ref q.2)
theorem inr_ne {a b : Str} (h : ¬ a = b) : ¬ ((Sum.inr a : Key) = Sum.inr b) := fun e => h (Sum.inr.inj e)
theorem wK_val {f : Str → Nat} {t : Str} : ∀ {l : List Str}, t ∈ l → valV (wK l f) (Sum.inr t) = some (.int (f t : Nat))
  | a :: l, h => by
    unfold wK
    rw [List.map_cons]
    by_cases e : a = t
    · subst e
      exact valV_pos rfl
    · rw [valV_neg (inr_ne e)]
      rcases List.mem_cons.mp h with z | z
      · exact absurd z.symm e
      · exact wK_val z
theorem wK_none {f : Str → Nat} {t : Str} : ∀ {l : List Str}, t ∉ l → valV (wK l f) (Sum.inr t) = none
  | [], _ => rfl
  | a :: l, h => by
    unfold wK
    rw [List.map_cons, valV_neg (inr_ne fun (e : a = t) => h (by rw [e]; exact List.mem_cons_self))]
    exact wK_none fun z => h (List.mem_cons_of_mem _ z)
theorem wK_new {f : Str → Nat} {t : Str} {l : List Str} (h : t ∉ l) : putK (wK l f) (Sum.inr t) (.int (f t : Nat)) = wK (l ++ [t]) f := by
  rw [putK_new _ (wK_none h)]
  unfold wK
  rw [List.map_append]
  rfl
theorem wK_put {f : Str → Nat} {t : Str} {l : List Str} (v : Nat) (h : t ∈ l) : putK (wK l f) (Sum.inr t) (.int (v : Nat)) = wK l (fun x => if x = t then v else f x) := by
  unfold putK
  rw [if_pos (by rw [valV_any, wK_val h]; rfl)]
  unfold wK
  rw [List.map_map]
  refine List.map_congr_left fun x _ => ?_
  show (if (Sum.inr x : Key) = Sum.inr t then ((Sum.inr x : Key), V.int (v : Nat)) else (Sum.inr x, V.int (f x : Nat))) = (Sum.inr x, V.int ((if x = t then v else f x : Nat) : Nat))
  by_cases e : x = t
  · rw [if_pos (congrArg Sum.inr e), if_pos e]
  · rw [if_neg (inr_ne e), if_neg e]
theorem wK_len (l : List Str) (f : Str → Nat) : (wK l f).length = l.length := by simp [wK]
theorem takK_len (tl : List (Str × Addr)) : (takK tl).length = tl.length := by simp [takK]
theorem takK_val {s : Str} : ∀ {tl : List (Str × Addr)}, s ∈ tl.map Prod.fst → ∃ a, (s, a) ∈ tl ∧ valV (takK tl) (Sum.inr s) = some (.ref a)
  | q :: tl, h => by
    unfold takK
    rw [List.map_cons]
    by_cases e : q.1 = s
    · subst e
      exact ⟨q.2, List.mem_cons_self, valV_pos rfl⟩
    · rw [List.map_cons] at h
      rcases List.mem_cons.mp h with z | z
      · exact absurd z.symm e
      · obtain ⟨a, ha, hv⟩ := takK_val z
        exact ⟨a, List.mem_cons_of_mem _ ha, (valV_neg (inr_ne e)).trans hv⟩
theorem takK_none {s : Str} : ∀ {tl : List (Str × Addr)}, s ∉ tl.map Prod.fst → valV (takK tl) (Sum.inr s) = none
  | [], _ => rfl
  | q :: tl, h => by
    unfold takK
    rw [List.map_cons] at h ⊢
    rw [valV_neg (inr_ne fun (e : q.1 = s) => h (by rw [e]; exact List.mem_cons_self))]
    exact takK_none fun z => h (List.mem_cons_of_mem _ z)
theorem takK_new {s : Str} {a : Addr} {tl : List (Str × Addr)} (h : s ∉ tl.map Prod.fst) : putK (takK tl) (Sum.inr s) (.ref a) = takK (tl ++ [(s, a)]) := by
  rw [putK_new _ (takK_none h)]
  unfold takK
  rw [List.map_append]
  rfl
theorem not_in_take {α : Type} {l : List α} {i : Nat} {z : α} (hn : l.Nodup) (h : l[i]? = some z) : z ∉ l.take i := by
  intro hm
  obtain ⟨j, hj, e⟩ := List.mem_take_iff_getElem.mp hm
  obtain ⟨hi, ez⟩ := List.getElem?_eq_some_iff.mp h
  have hj' : j < i := by omega
  have : j = i := (List.getElem_inj hn).mp (e.trans ez.symm)
  omega
theorem take_more {α : Type} {l : List α} {i : Nat} {z : α} (h : l[i]? = some z) : l.take (i + 1) = l.take i ++ [z] := by
  rw [List.take_add_one, h]
  rfl
/-- the lists of takers, each at an address of its own -/
structure TK (H0 H : Hp) (dt : Addr) (tl : List (Str × Addr)) (tkf : Str → List Str) : Prop where
  dict : H dt = some (.dK (takK tl))
  nd : (tl.map Prod.snd).Nodup
  lst : ∀ q ∈ tl, H q.2 = some (.lst ((tkf q.1).map V.str))
  new : ∀ q ∈ tl, H0 q.2 = none
theorem TK.congr {H0 H : Hp} {dt : Addr} {tl : List (Str × Addr)} {f g : Str → List Str} (k : TK H0 H dt tl f) (h : ∀ s, f s = g s) : TK H0 H dt tl g := ⟨k.dict, k.nd, fun q hq => by rw [← h]; exact k.lst q hq, k.new⟩
theorem TK.keep {H0 H : Hp} {dt : Addr} {tl : List (Str × Addr)} {f : Str → List Str} {b : Addr} {o : HO} (k : TK H0 H dt tl f) (h1 : dt ≠ b) (h2 : ∀ q ∈ tl, q.2 ≠ b) : TK H0 (upd H b o) dt tl f :=
  ⟨by rw [upd_ne h1]; exact k.dict, k.nd, fun q hq => by rw [upd_ne (h2 q hq)]; exact k.lst q hq, k.new⟩
theorem TK.same {H0 H H' : Hp} {dt : Addr} {tl : List (Str × Addr)} {f : Str → List Str} (k : TK H0 H dt tl f) (s : Same H H') : TK H0 H' dt tl f := ⟨s _ _ k.dict, k.nd, fun q hq => s _ _ (k.lst q hq), k.new⟩
theorem pair_eq {tl : List (Str × Addr)} (hn : (tl.map Prod.fst).Nodup) {q r : Str × Addr} (hq : q ∈ tl) (hr : r ∈ tl) (e : q.1 = r.1) : q = r := by
  obtain ⟨i, hi, rfl⟩ := List.getElem_of_mem hq
  obtain ⟨j, hj, rfl⟩ := List.getElem_of_mem hr
  have h : i = j := (List.getElem_inj (xs := tl.map Prod.fst) (h₀ := by simpa using hi) (h₁ := by simpa using hj) hn).mp (by simpa using e)
  subst h
  rfl
theorem pair_eq2 {tl : List (Str × Addr)} (hn : (tl.map Prod.snd).Nodup) {q r : Str × Addr} (hq : q ∈ tl) (hr : r ∈ tl) (e : q.2 = r.2) : q = r := by
  obtain ⟨i, hi, rfl⟩ := List.getElem_of_mem hq
  obtain ⟨j, hj, rfl⟩ := List.getElem_of_mem hr
  have h : i = j := (List.getElem_inj (xs := tl.map Prod.snd) (h₀ := by simpa using hi) (h₁ := by simpa using hj) hn).mp (by simpa using e)
  subst h
  rfl
theorem TK.app {H0 H : Hp} {dt : Addr} {tl : List (Str × Addr)} {f : Str → List Str} {q : Str × Addr} {n : Str} (k : TK H0 H dt tl f) (hn : (tl.map Prod.fst).Nodup) (hq : q ∈ tl) :
    TK H0 (upd H q.2 (.lst ((f q.1).map V.str ++ [.str n]))) dt tl (fun x => if x = q.1 then f x ++ [n] else f x) := by
  have h1 : dt ≠ q.2 := ne_of k.dict (k.lst q hq) (by intro z; cases z)
  refine ⟨by rw [upd_ne h1]; exact k.dict, k.nd, fun r hr => ?_, k.new⟩
  by_cases e : r.1 = q.1
  · have := pair_eq hn hr hq e
    subst this
    rw [upd_same, if_pos rfl, List.map_append]
    rfl
  · have h2 : r.2 ≠ q.2 := fun z => e (congrArg Prod.fst (pair_eq2 k.nd hr hq z))
    rw [upd_ne h2, if_neg e]
    exact k.lst r hr
/-- all stays but what is at d -/
def SameX (d : Addr) (H H' : Hp) : Prop := ∀ b o, H b = some o → b ≠ d → H' b = some o
theorem SameX.upd_new {d p : Addr} {H H' : Hp} {o : HO} (s : SameX d H H') (h : H p = none) : SameX d H (upd H' p o) := fun b u e hb => by
  rw [upd_ne (ne_of_none e h)]
  exact s b u e hb
theorem SameX.free {d l : Addr} {H H' : Hp} {u : HO} (s : SameX d H H') (hd : H' d = some u) (h : H' l = none) : H l = none := by
  cases q : H l with
  | none => rfl
  | some o =>
    by_cases e : l = d
    · subst e
      rw [hd] at h
      cases h
    · rw [s l o q e] at h
      cases h
theorem SameX.trans {d : Addr} {H H1 H2 : Hp} (a : SameX d H H1) (b : Same H1 H2) : SameX d H H2 := fun c o e hc => b c o (a c o e hc)
theorem SameX.unlock {d : Addr} {H H' : Hp} {u : HO} (s : SameX d H H') (h : H d = some u) : Same H (upd H' d u) := fun b o e => by
  by_cases hb : b = d
  · subst hb
    rw [h] at e
    cases e
    exact upd_same
  · rw [upd_ne hb]
    exact s b o e hb
def awR (gs : List Str) (g : PG) : List Str := g.now.filter fun s => decide (s ∈ gs)
theorem tk_snoc (gs : List Str) (aw : Str → List Str) (g s : Str) : tk (gs ++ [g]) aw s = tk gs aw s ++ List.replicate ((aw g).count s) g := by
  unfold tk
  rw [List.flatMap_append]
  simp
theorem tk_len (aw : Str → List Str) (s : Str) : ∀ (gs : List Str), (∀ g ∈ gs, (aw g).length ≤ 3) → (tk gs aw s).length ≤ 3 * gs.length
  | [], _ => by simp [tk]
  | g :: gs, h => by
    have e : tk (g :: gs) aw s = List.replicate ((aw g).count s) g ++ tk gs aw s := rfl
    have h1 := tk_len aw s gs fun x hx => h x (List.mem_cons_of_mem _ hx)
    have h2 := h g List.mem_cons_self
    have h3 : (aw g).count s ≤ (aw g).length := List.count_le_length
    rw [e, List.length_append, List.length_replicate, List.length_cons]
    omega
theorem rep_step (l : List Str) (j : Nat) (x s g : Str) (h : l[j]? = some x) : List.replicate ((l.take (j + 1)).count s) g = if s = x then List.replicate ((l.take j).count s) g ++ [g] else List.replicate ((l.take j).count s) g := by
  rw [take_more h, List.count_append]
  by_cases e : s = x
  · subst e
    rw [if_pos rfl]
    simp [List.replicate_succ']
  · rw [if_neg e]
    have : ([x] : List Str).count s = 0 := List.count_eq_zero.mpr (by simp [e])
    rw [this, Nat.add_zero]
/-- how long a list is, as the heap has it -/
def lenAt (H : Hp) (a : Addr) : Nat := match H a with
  | some (.lst xs) => xs.length
  | _ => 0
theorem lenAt_of {H : Hp} {a : Addr} {xs : List V} (h : H a = some (.lst xs)) : lenAt H a = xs.length := by
  unfold lenAt
  rw [h]
theorem gates_item {tb : List GR} {i : Nat} {k : Key} {v : V} (h : (gatesK tb)[i]? = some (k, v)) : ∃ r, tb[i]? = some r ∧ k = Sum.inr r.pg.name ∧ v = .ref r.ga := by
  unfold gatesK at h
  rw [List.getElem?_map] at h
  cases e : tb[i]? with
  | none => rw [e] at h; cases h
  | some r =>
    rw [e] at h
    have e1 := Option.some.inj h
    exact ⟨r, rfl, (congrArg Prod.fst e1).symm, (congrArg Prod.snd e1).symm⟩
abbrev nmsOf (tb : List GR) : List Str := tb.map fun r => r.pg.name
theorem nms_item {tb : List GR} {i : Nat} {r : GR} (h : tb[i]? = some r) : (nmsOf tb)[i]? = some r.pg.name := by
  rw [List.getElem?_map, h]
  rfl
theorem gates_val {tb : List GR} (hn : (nmsOf tb).Nodup) {r : GR} (hr : r ∈ tb) : valV (gatesK tb) (Sum.inr r.pg.name) = some (.ref r.ga) := by
  induction tb with
  | nil => cases hr
  | cons a l ih =>
    unfold nmsOf at hn
    rw [List.map_cons, List.nodup_cons] at hn
    unfold gatesK at ih ⊢
    rw [List.map_cons]
    rcases List.mem_cons.mp hr with e | e
    · subst e
      exact valV_pos rfl
    · have hne : a.pg.name ≠ r.pg.name := fun z => hn.1 (by rw [z]; exact List.mem_map.mpr ⟨r, e, rfl⟩)
      rw [valV_neg (inr_ne hne)]
      exact ih hn.2 e
def spOrder (CG : Addr) : Sp := fun vs H Q _ => ∃ (dg : Addr) (tb : List GR) (aw : Str → List Str), vs = [.ref dg] ∧ H dg = some (.dK (gatesK tb)) ∧ (∀ r ∈ tb, GAt CG H r) ∧ (nmsOf tb).Nodup ∧ tb.length ≤ 1024 ∧
  (∀ r ∈ tb, r.pg.src.length ≤ 3) ∧ (∀ r ∈ tb, aw r.pg.name = awR (nmsOf tb) r.pg) ∧
  ∀ (H' : Hp) (l : Addr) (order : List Str) (wf : Str → Nat), Same H H' → H l = none → H' l = some (.lst (order.map V.str)) → KInv (nmsOf tb) aw order [] wf [] → Q (.ref l) H'
abbrev ordN : List Str := ["gates", "takers", "name", "waits", "gate", "source", "awaited", "order", "ready", "done", "taker"]
theorem scOr : FnScope ordN ["gates"] (defScope sOrder) := ⟨rfl, rfl, rfl, by decide +kernel, rfl, by decide +kernel, by decide +kernel⟩
end GN
namespace GN
open PySem PySem.Spec PyProof.Rows L2
theorem filt_pos {p : Str → Bool} {z : Str} (h : p z = true) : [z].filter p = [z] := by simp [h]
theorem filt_neg {p : Str → Bool} {z : Str} (h : p z = false) : [z].filter p = [] := by simp [h]
section
variable {P : Program} {w : World} {K : PySem.W.Frag} {mg : Str → Option Value} {base : Heap} {CF CG CN dk rg : Addr}
theorem ok_order {f fO : Addr} {fd fdO : FuncData} (F : Fun K "order_gates" "order_gates" sOrder f fd) (T : Txt K mg CF CG CN) (T2 : Txt2 K mg w dk rg)
    (FO : Fun K "sources_at_once" "sources_at_once" sAtOnce fO fdO) (bO : Binds K fdO ["gate"] []) (mO : mg "sources_at_once" = some (.ref fO)) : FnOk P w K mg base CX0 2 f fd ["gates"] (spOrder CG) := by
  have GO : FnOk P w K mg base CX0 1 fO fdO ["gate"] (spOnce CG) := ok_once FO T T2
  refine F.ok scOr (fun vs H Q E h => ?_) (fun cdv A outer s H vs Q E hr h => ?_)
  · obtain ⟨dg, tb, aw, rfl, _⟩ := h
    rfl
  · obtain ⟨dg, tb, aw, rfl, hg, hG, hnd, hlen, hsrc, haw, q⟩ := h
    refine ⟨_, pss_cons (ps_set (i := 1) scOr.nd rfl (.inl rfl) pe_dnewK)
      (pss_cons (ps_lock (ps_for PassesOwn.never rfl (pi_keys (pv 0)) (pg_name (i := 2) scOr.nd rfl (.inl rfl)) (pss_one (ps_dput (hu_of hr) (pv 1) (pv 2) (pe_lst pa_nil) rfl))))
      (pss_cons (ps_set (i := 3) scOr.nd rfl (.inr rfl) pe_dnewK)
      (pss_cons (ps_lock (ps_for PassesOwn.never rfl (pi_items (pv 0)) (pg_tup rfl (pgs_cons (pg_name (i := 2) scOr.nd rfl (.inl rfl)) (pgs_cons (pg_name (i := 4) scOr.nd rfl (.inl rfl)) pgs_nil)))
        (pss_cons (ps_setLc (i := 6) (own := [("source", 5)]) (g := gName 5) (by rfl) scOr.nd rfl rfl (sw_true rfl rfl rfl (by decide +kernel)) (pi_list (pe_call GO hr rfl mO FO.kp bO .nil pass0 (pa_cons (pv 4) pa_nil)))
          (blkOk_by (own := [("source", 5)]) (N := ordN) (sc := defScope sOrder) (by decide +kernel)) (fun _ _ _ _ _ => pg_name (i := 5) scOr.nd rfl (Or.inl rfl)) (fun _ _ _ _ _ => pts_one (pt_cmp (pc_din (hu_of hr) (pv 5) (pv 0)))) (fun _ _ _ _ _ => pv 5))
        (pss_cons (ps_dput (hu_of hr) (pv 3) (pv 2) (pe_callB call_len_seq (by rfl) T.len PySem.boot_len (pa_cons (pv 6) pa_nil)) rfl)
        (pss_one (ps_for PassesOwn.never rfl (pi_list (pv 6)) (pg_name (i := 5) scOr.nd rfl (.inl rfl))
          (pss_one (ps_expr (pe_bm PySem.F.plainAttrs_list PySem.F.slot_list_append PySem.F.type_list_append mt_append (pe_dget (hu_of hr) (pv 1) (pv 5) (fun _ _ => rfl)) (pa_cons (pv 2) pa_nil)))))))))) 
      (pss_cons (ps_set (i := 7) scOr.nd rfl (.inl rfl) (pe_lst pa_nil))
      (pss_cons (ps_lock (ps_setLc (i := 8) (own := [("name", 2)]) (g := gName 2) (by rfl) scOr.nd rfl rfl (sw_true rfl rfl rfl (by decide +kernel)) (pi_keys (pv 0))
          (blkOk_by (own := [("name", 2)]) (N := ordN) (sc := defScope sOrder) (by decide +kernel)) (fun _ _ _ _ _ => pg_name (i := 2) scOr.nd rfl (Or.inl rfl))
          (fun _ _ _ _ _ => pts_one (pt_cmpR op_eq (pe_dget (hu_of hr) (pv 3) (pv 2) (fun _ _ => rfl)) pe_int (nomark _))) (fun _ _ _ _ _ => pv 2)))
      (pss_cons (ps_while PassesOwn.never (pt_cmpR op_gt (pe_callB call_len_seq (by rfl) T.len PySem.boot_len (pa_cons (pv 8) pa_nil)) pe_int (nomark _))
        (pss_cons (ps_set (i := 9) scOr.nd rfl (.inl rfl) (pe_bm0 PySem.F.plainAttrs_list PySem.F.slot_list_pop PySem.F.type_list_pop mt_pop (pv 8)))
        (pss_cons (ps_expr (pe_bm PySem.F.plainAttrs_list PySem.F.slot_list_append PySem.F.type_list_append mt_append (pv 7) (pa_cons (pv 9) pa_nil)))
        (pss_one (ps_for PassesOwn.never rfl (pi_list (pe_dget (hu_of hr) (pv 1) (pv 9) (fun _ _ => rfl))) (pg_name (i := 10) scOr.nd rfl (.inl rfl))
          (pss_cons (ps_daug (hu_of hr) (pv 3) (pv 10) pe_int in_sub (fun _ _ _ => rfl))
          (pss_one (ps_if (pt_cmpR op_eq (pe_dget (hu_of hr) (pv 3) (pv 10) (fun _ _ => rfl)) pe_int (nomark _))
            (pss_one (ps_expr (pe_bm PySem.F.plainAttrs_list PySem.F.slot_list_append PySem.F.type_list_append mt_append (pv 8) (pa_cons (pv 10) pa_nil)))) pss_nil))))))))
      (pss_one (ps_ret (pv 7))))))))), ?_⟩
    -- takers = {}
    intro dt hdt
    have ndt : dg ≠ dt := ne_of_none hg hdt
    -- for name in gates: takers[name] = []
    refine ⟨dg, .dK (gatesK tb), (by rw [upd_ne ndt]; exact hg), trivial, fun od => ?_⟩
    refine ⟨_, rfl, dg, od, rfl, .inl ⟨gatesK tb, upd_same, for_it w_keys
      (fun i σ H' => ∃ v tl, σ = [some (.ref dg), some (.ref dt), v, none, none, none, none, none, none, none, none] ∧ tl.map Prod.fst = (nmsOf tb).take i ∧ H' dg = some (.frz od (.dK (gatesK tb))) ∧ TK H H' dt tl (fun _ => []) ∧ SameX dg H H') ?_ ?_ ?_ ?_⟩⟩
    · refine ⟨none, [], rfl, rfl, upd_same, ⟨by rw [upd_ne (Ne.symm ndt)]; exact upd_same, List.nodup_nil, (fun q h => by cases h), (fun q h => by cases h)⟩, fun b o e hb => ?_⟩
      rw [upd_ne hb, upd_ne (ne_of_none e hdt)]
      exact e
    · rintro i σ H1 _ ⟨v, tl, rfl, _, hd, _⟩
      exact hd
    · rintro i x σ H1 H2 hi ⟨v, tl, rfl, htl, hd, hT, hs⟩ ⟨rfl, k, v', hk, rfl⟩
      obtain ⟨r, hri, rfl, rfl⟩ := gates_item hk
      have hnm := nms_item hri
      refine ⟨(by show 0 ≤ sizeLine; decide), fun p hp => ?_⟩
      have hp0 := hs.free hd hp
      have n1 : dt ≠ p := ne_of_none hT.dict hp
      have n2 : dg ≠ p := ne_of_none hd hp
      have htlen : tl.length ≤ tb.length := by
        have := congrArg List.length htl
        rw [List.length_map, List.length_take] at this
        simp at this
        omega
      have hnew : r.pg.name ∉ tl.map Prod.fst := by
        rw [htl]
        exact not_in_take hnd hnm
      refine ⟨_, rfl, _, rfl, dt, _, rfl, DPut.k (k := Sum.inr r.pg.name) (by rw [upd_ne n1]; exact hT.dict) ?_, ?_⟩
      · rw [takK_len]
        exact Nat.lt_of_le_of_lt (show tl.length ≤ 1024 by omega) (by decide)
      rw [takK_new hnew]
      refine ⟨_, tl ++ [(r.pg.name, p)], rfl, ?_, ?_, ⟨upd_same, ?_, fun q hq => ?_, fun q hq => ?_⟩, fun b o e hb => ?_⟩
      · rw [List.map_append, htl, take_more hnm]
        rfl
      · rw [upd_ne ndt, upd_ne n2]
        exact hd
      · rw [List.map_append, List.nodup_append]
        refine ⟨hT.nd, by simp, fun a ha b hb e => ?_⟩
        obtain ⟨q, hq, rfl⟩ := List.mem_map.mp ha
        have hb' : b = p := by simpa using hb
        exact ne_of_none (hT.lst q hq) hp (e.trans hb')
      · rcases List.mem_append.mp hq with h | h
        · have h1 : q.2 ≠ dt := ne_of (hT.lst q h) hT.dict (by intro z; cases z)
          rw [upd_ne h1, upd_ne (ne_of_none (hT.lst q h) hp)]
          exact hT.lst q h
        · rw [List.mem_singleton.mp h]
          show (upd (upd H2 p (.lst [])) dt _) p = _
          rw [upd_ne (Ne.symm n1)]
          exact upd_same
      · rcases List.mem_append.mp hq with h | h
        · exact hT.new q h
        · rw [List.mem_singleton.mp h]
          exact hp0
      · rw [upd_ne (ne_of_none e hdt), upd_ne (ne_of_none e hp0)]
        exact hs b o e hb
    rintro σ H1 ⟨v1, tl, rfl, htl, hd1, hT1, hs1⟩
    have htl' : tl.map Prod.fst = nmsOf tb := by
      rw [htl]
      exact List.take_of_length_le (by simp)
    have hfn : (tl.map Prod.fst).Nodup := by rw [htl']; exact hnd
    have htl2 : tl.length = tb.length := by
      have := congrArg List.length htl'
      simpa using this
    refine ⟨hd1, ?_⟩
    have hS1 := hs1.unlock hg
    have hT2 : TK H (upd H1 dg (.dK (gatesK tb))) dt tl (fun _ => []) := hT1.keep (Ne.symm ndt) fun q h => by
      have := hT1.lst q h
      intro e
      rw [e, hd1] at this
      cases this
    have hd2 : (upd H1 dg (.dK (gatesK tb))) dg = some (.dK (gatesK tb)) := upd_same
    generalize upd H1 dg (.dK (gatesK tb)) = H2 at hS1 hT2 hd2 ⊢
    -- waits = {}
    intro dw hdw
    have hdw0 : H dw = none := hS1.free hdw
    have n3 : dt ≠ dw := ne_of_none hT2.dict hdw
    have n4 : dg ≠ dw := ne_of_none hd2 hdw
    have haw3 : ∀ g ∈ nmsOf tb, (aw g).length ≤ 3 := by
      intro g hgm
      obtain ⟨r, hr', rfl⟩ := List.mem_map.mp hgm
      rw [haw r hr']
      have h1 : (awR (nmsOf tb) r.pg).length ≤ r.pg.now.length := List.length_filter_le _ _
      have h2 : r.pg.now.length ≤ r.pg.src.length := by
        unfold PG.now
        split
        · exact Nat.zero_le _
        · exact Nat.le_refl _
      have h3 := hsrc r hr'
      omega
    have hawm : ∀ g ∈ nmsOf tb, ∀ x ∈ aw g, x ∈ nmsOf tb := by
      intro g hgm x hx
      obtain ⟨r, hr', rfl⟩ := List.mem_map.mp hgm
      rw [haw r hr'] at hx
      exact of_decide_eq_true (List.mem_filter.mp hx).2
    -- for name, gate in gates.items():
    refine ⟨dg, .dK (gatesK tb), (by rw [upd_ne n4]; exact hd2), trivial, fun od2 => ?_⟩
    refine ⟨_, rfl, dg, od2, gatesK tb, rfl, upd_same, for_it w_items
      (fun i σ H' => ∃ v2 v4 v5 v6, σ = [some (.ref dg), some (.ref dt), v2, some (.ref dw), v4, v5, v6, none, none, none, none] ∧ H' dg = some (.frz od2 (.dK (gatesK tb))) ∧ TK H H' dt tl (tk ((nmsOf tb).take i) aw) ∧
        H' dw = some (.dK (wK ((nmsOf tb).take i) fun g => (aw g).length)) ∧ SameX dg H H') ?_ ?_ ?_ ?_⟩
    · refine ⟨_, _, _, _, rfl, upd_same, ?_, ?_, fun b o e hb => ?_⟩
      · refine ((hT2.keep (o := .dK []) n3 fun q h => ne_of_none (hT2.lst q h) hdw).keep (o := .frz od2 (.dK (gatesK tb))) (Ne.symm ndt) fun q h => ?_).congr fun x => rfl
        intro e
        have h1 := hT2.lst q h
        rw [e, hd2] at h1
        cases h1
      · rw [upd_ne (Ne.symm n4)]
        exact upd_same
      · rw [upd_ne hb, upd_ne (ne_of_none e hdw0)]
        exact hS1 b o e
    · rintro i σ H3 _ ⟨_, _, _, _, rfl, hd, _⟩
      exact hd
    · rintro i x σ H3 H4 hi ⟨v2, v4, v5, v6, rfl, hd, hT, hw, hs⟩ ⟨Tp, k, v', hk, rfl, hTp, rfl⟩
      obtain ⟨r, hri, rfl, rfl⟩ := gates_item hk
      have hrm : r ∈ tb := List.mem_of_getElem? hri
      have hnm := nms_item hri
      have hTp0 := hs.free hd hTp
      -- the heap with the pair
      have sT : Same H3 (upd H3 Tp (.tup [kV (Sum.inr r.pg.name), .ref r.ga])) := Same.upd_own hTp
      refine ⟨Tp, _, rfl, SqT.of upd_same, rfl, _, _, rfl, _, _, rfl, rfl, ?_⟩
      have g0 := hG r hrm
      have gd : r.ga ≠ dg := ne_of g0.ob hg (by intro z; cases z)
      have gs_ : r.sa ≠ dg := ne_of g0.src hg (by intro z; cases z)
      refine ⟨_, rfl, r, rfl, ⟨sT _ _ (hs _ _ g0.ob gd), sT _ _ (hs _ _ g0.src gs_)⟩, fun ls Hc sc hls => ?_⟩
      have hdc : Hc dg = some (.frz od2 (.dK (gatesK tb))) := sc _ _ (sT _ _ hd)
      have sC : Same H3 Hc := sT.trans sc
      have hawr : aw r.pg.name = awR (nmsOf tb) r.pg := haw r hrm
      refine ⟨ls, rfl, ⟨_, SqL.of hls⟩, fun D hD => lc_list (K := K) (a := ls) (xs := r.pg.now.map V.str) (fun j H' => Same Hc H' ∧ H' D = some (.lst (((r.pg.now.take j).filter fun x => decide (x ∈ nmsOf tb)).map V.str))) ?_ ?_ ?_ ?_⟩
      · exact ⟨Same.upd_own hD, upd_same⟩
      · rintro j H' _ ⟨s2, _⟩
        exact SqL.of (s2 _ _ hls)
      · rintro j x H' hj ⟨s2, h5⟩
        obtain ⟨z, hz, rfl⟩ := str_item hj
        refine ⟨rfl, _, rfl, _, rfl, dg, _, rfl, .inl ⟨gatesK tb, Sum.inr z, .inr ⟨od2, s2 _ _ hdc⟩, rfl, rfl⟩, _, rfl, ?_⟩
        rw [valV_gates]
        have h3 : r.pg.now.length ≤ 3 := by
          have := hsrc r hrm
          unfold PG.now
          split
          · exact Nat.zero_le _
          · exact this
        by_cases hzm : z ∈ nmsOf tb
        · refine if_t (decide_eq_true hzm) ⟨_, rfl, _, h5, ?_, Same.upd_new s2 hD, ?_⟩
          · rw [List.length_map]
            have h1 : ((r.pg.now.take j).filter fun x => decide (x ∈ nmsOf tb)).length ≤ (r.pg.now.take j).length := List.length_filter_le _ _
            rw [List.length_take] at h1
            exact Nat.lt_of_le_of_lt (show _ ≤ 3 by omega) (by decide)
          · rw [upd_same, take_more hz, List.filter_append, List.map_append, filt_pos (p := fun x => decide (x ∈ nmsOf tb)) (decide_eq_true hzm)]
            rfl
        · refine if_f (decide_eq_false hzm) ⟨s2, ?_⟩
          rw [h5, take_more hz, List.filter_append, filt_neg (p := fun x => decide (x ∈ nmsOf tb)) (decide_eq_false hzm), List.append_nil]
      · rintro H5 ⟨s2, h5⟩
        rw [List.length_map, List.take_length] at h5
        have h5' : H5 D = some (.lst ((aw r.pg.name).map V.str)) := by rw [hawr]; exact h5
        have s5 : Same H3 H5 := sC.trans s2
        have hT5 := hT.same s5
        have hw5 := s5 _ _ hw
        have hd5 := s5 _ _ hd
        have hD0 : H D = none := hs.free hd (by
          cases e : H3 D with
          | none => rfl
          | some o => rw [sC _ _ e] at hD; cases hD)
        have hDt : ∀ q ∈ tl, q.2 ≠ D := fun q h => ne_of_none (sC _ _ (hT.lst q h)) hD
        have nDw : D ≠ dw := ne_of h5' hw5 (by intro z; cases z)
        have ntw : ∀ q ∈ tl, q.2 ≠ dw := fun q h => ne_of (hT5.lst q h) hw5 (by intro z; cases z)
        have hnot : r.pg.name ∉ (nmsOf tb).take i := not_in_take hnd hnm
        have hitl : ((nmsOf tb).take i).length ≤ 1024 := by
          rw [List.length_take, List.length_map]
          omega
        -- waits[name] = len(awaited)
        refine ⟨_, rfl, D, _, rfl, .inl (SqL.of h5'), _, rfl, _, rfl, dw, _, rfl, DPut.k (k := Sum.inr r.pg.name) hw5 ?_, ?_⟩
        · rw [wK_len]
          exact Nat.lt_of_le_of_lt hitl (by decide)
        have ew : putK (wK ((nmsOf tb).take i) fun g => (aw g).length) (Sum.inr r.pg.name) (.int (((aw r.pg.name).map V.str).length : Nat)) = wK ((nmsOf tb).take (i + 1)) fun g => (aw g).length := by
          rw [List.length_map, take_more hnm]
          exact wK_new (f := fun g => (aw g).length) hnot
        rw [ew]
        -- for source in awaited: takers[source].append(name)
        refine ⟨_, rfl, D, rfl, ⟨_, SqL.of (by rw [upd_ne nDw]; exact h5')⟩, for_list (K := K) (a := D) (xs := (aw r.pg.name).map V.str)
          (fun j σ H6 => ∃ v5, σ = [some (.ref dg), some (.ref dt), some (.str r.pg.name), some (.ref dw), some (.ref r.ga), v5, some (.ref D), none, none, none, none] ∧ H6 dg = some (.frz od2 (.dK (gatesK tb))) ∧
            TK H H6 dt tl (fun x => tk ((nmsOf tb).take i) aw x ++ List.replicate (((aw r.pg.name).take j).count x) r.pg.name) ∧ H6 dw = some (.dK (wK ((nmsOf tb).take (i + 1)) fun g => (aw g).length)) ∧ SameX dg H H6 ∧ H6 D = some (.lst ((aw r.pg.name).map V.str))) ?_ ?_ ?_ ?_⟩
        · refine ⟨_, rfl, ?_, ?_, upd_same, fun b o e hb => ?_, ?_⟩
          · rw [upd_ne n4]
            exact hd5
          · exact (hT5.keep n3 ntw).congr fun x => by simp
          · rw [upd_ne (ne_of_none e hdw0)]
            exact s5 _ _ (hs b o e hb)
          · rw [upd_ne nDw]
            exact h5'
        · rintro j σ H6 _ ⟨_, rfl, _, _, _, _, hD6⟩
          exact SqL.of hD6
        · rintro j x σ H6 hj ⟨v5', rfl, hd6, hT6, hw6, hs6, hD6⟩
          obtain ⟨z, hz, rfl⟩ := str_item hj
          have hzg : z ∈ tl.map Prod.fst := by
            rw [htl']
            exact hawm r.pg.name (List.mem_map.mpr ⟨r, hrm, rfl⟩) z (List.mem_of_getElem? hz)
          obtain ⟨a, ha, hv⟩ := takK_val hzg
          have hla : H6 a = some (.lst ((tk ((nmsOf tb).take i) aw z ++ List.replicate (((aw r.pg.name).take j).count z) r.pg.name).map V.str)) := hT6.lst (z, a) ha
          refine ⟨_, rfl, _, rfl, dt, .ref a, rfl, (by rw [← hv]; exact DGet.k (k := Sum.inr z) hT6.dict), .inl ⟨rfl, _, SqL.of hla⟩, _, rfl, a, _, _, rfl, rfl, hla, ?_, ?_⟩
          · rw [List.length_map, List.length_append, List.length_replicate]
            have h1 := tk_len aw z ((nmsOf tb).take i) fun g hg' => haw3 g (List.mem_of_mem_take hg')
            have h2 : ((aw r.pg.name).take j).count z ≤ ((aw r.pg.name).take j).length := List.count_le_length
            have h3 := haw3 r.pg.name (List.mem_map.mpr ⟨r, hrm, rfl⟩)
            rw [List.length_take] at h2
            exact Nat.lt_of_le_of_lt (show _ ≤ 4000 by omega) (by decide)
          · have na : a ≠ dw := ntw (z, a) ha
            have nd_ : a ≠ dg := by
              intro e
              rw [e] at hla
              rw [hd6] at hla
              cases hla
            refine ⟨_, rfl, ?_, ?_, ?_, fun b o e hb => ?_, ?_⟩
            · rw [upd_ne (Ne.symm nd_)]
              exact hd6
            · refine (hT6.app (q := (z, a)) (n := r.pg.name) hfn ha).congr fun x => ?_
              show (if x = z then (tk ((nmsOf tb).take i) aw x ++ List.replicate (((aw r.pg.name).take j).count x) r.pg.name) ++ [r.pg.name] else tk ((nmsOf tb).take i) aw x ++ List.replicate (((aw r.pg.name).take j).count x) r.pg.name) = _
              rw [rep_step _ j z x r.pg.name hz]
              split
              · rw [List.append_assoc]
              · rfl
            · rw [upd_ne (Ne.symm na)]
              exact hw6
            · rw [upd_ne (ne_of_none e (hT6.new (z, a) ha))]
              exact hs6 b o e hb
            · rw [upd_ne (Ne.symm (hDt (z, a) ha))]
              exact hD6
        · rintro σ H6 ⟨v5', rfl, hd6, hT6, hw6, hs6, hD6⟩
          rw [List.length_map, List.take_length] at hT6
          refine ⟨_, _, _, _, rfl, hd6, hT6.congr fun x => ?_, hw6, hs6⟩
          rw [take_more hnm, tk_snoc]
    rintro σ H3 ⟨v2, v4, v5, v6, rfl, hd3, hT3, hw3, hs3⟩
    have htake : (nmsOf tb).take tb.length = nmsOf tb := List.take_of_length_le (by simp)
    rw [htake] at hT3 hw3
    refine ⟨hd3, ?_⟩
    have hS3 := hs3.unlock hg
    have hT4 : TK H (upd H3 dg (.dK (gatesK tb))) dt tl (tk (nmsOf tb) aw) := hT3.keep (Ne.symm ndt) fun q h => by
      have := hT3.lst q h
      intro e
      rw [e, hd3] at this
      cases this
    have hw4 : (upd H3 dg (.dK (gatesK tb))) dw = some (.dK (wK (nmsOf tb) fun g => (aw g).length)) := by rw [upd_ne (Ne.symm n4)]; exact hw3
    have hd4 : (upd H3 dg (.dK (gatesK tb))) dg = some (.dK (gatesK tb)) := upd_same
    generalize upd H3 dg (.dK (gatesK tb)) = H4 at hS3 hT4 hd4 hw4 ⊢
    -- order = []
    refine ⟨(by show 0 ≤ sizeLine; decide), fun dq hdq => ?_⟩
    have hdq0 : H dq = none := hS3.free hdq
    have m1 : dg ≠ dq := ne_of_none hd4 hdq
    have m2 : dw ≠ dq := ne_of_none hw4 hdq
    have m3 : dt ≠ dq := ne_of_none hT4.dict hdq
    have m4 : ∀ q ∈ tl, q.2 ≠ dq := fun q h => ne_of_none (hT4.lst q h) hdq
    -- ready = [name for name in gates if waits[name] == 0]
    refine ⟨dg, .dK (gatesK tb), (by rw [upd_ne m1]; exact hd4), trivial, fun od3 => ?_⟩
    refine ⟨_, rfl, dg, od3, rfl, .inl ⟨gatesK tb, upd_same, fun D hD => lc_it w_keys
      (fun i H' => Same (upd (upd H4 dq (.lst [])) dg (.frz od3 (.dK (gatesK tb)))) H' ∧ H' D = some (.lst ((((nmsOf tb).take i).filter fun g => decide (((aw g).length : Int) = 0)).map V.str))) ?_ ?_ ?_ ?_⟩⟩
    · exact ⟨Same.upd_own hD, upd_same⟩
    · rintro i H5 _ ⟨s5, _⟩
      exact s5 _ _ upd_same
    · rintro i x H5 H6 hi ⟨s5, h5⟩ ⟨rfl, k, v', hk, rfl⟩
      obtain ⟨r, hri, rfl, rfl⟩ := gates_item hk
      have hrm : r ∈ tb := List.mem_of_getElem? hri
      have hnm := nms_item hri
      have hw5 : H6 dw = some (.dK (wK (nmsOf tb) fun g => (aw g).length)) := s5 _ _ (by rw [upd_ne (Ne.symm n4), upd_ne m2]; exact hw4)
      have hmem : r.pg.name ∈ nmsOf tb := List.mem_map.mpr ⟨r, hrm, rfl⟩
      refine ⟨rfl, _, rfl, _, rfl, dw, .int ((aw r.pg.name).length : Nat), rfl, (by rw [← wK_val (f := fun g => (aw g).length) hmem]; exact DGet.k (k := Sum.inr r.pg.name) hw5), rfl, _, rfl, ?_⟩
      by_cases h0 : ((aw r.pg.name).length : Int) = 0
      · refine if_t (decide_eq_true (congrArg V.int h0)) ⟨_, rfl, _, h5, ?_, Same.upd_new s5 hD, ?_⟩
        · rw [List.length_map]
          have h1 : (((nmsOf tb).take i).filter fun g => decide (((aw g).length : Int) = 0)).length ≤ ((nmsOf tb).take i).length := List.length_filter_le _ _
          rw [List.length_take, List.length_map] at h1
          exact Nat.lt_of_le_of_lt (show _ ≤ 1024 by omega) (by decide)
        · rw [upd_same, take_more hnm, List.filter_append, List.map_append, filt_pos (p := fun g => decide (((aw g).length : Int) = 0)) (decide_eq_true h0)]
          rfl
      · refine if_f (decide_eq_false fun e => h0 (V.int.inj e)) ⟨s5, ?_⟩
        rw [h5, take_more hnm, List.filter_append, filt_neg (p := fun g => decide (((aw g).length : Int) = 0)) (decide_eq_false h0), List.append_nil]
    rintro H5 ⟨s5, h5⟩
    rw [htake] at h5
    refine ⟨s5 _ _ upd_same, ?_⟩
    have nDg : D ≠ dg := by
      intro e
      have := s5 _ _ (upd_same (H := upd H4 dq (.lst [])) (a := dg) (o := .frz od3 (.dK (gatesK tb))))
      rw [e, this] at h5
      cases h5
    have hDb : (upd H4 dq (.lst [])) D = none := by rw [upd_ne nDg] at hD; exact hD
    have nDq : D ≠ dq := fun e => by rw [e, upd_same] at hDb; cases hDb
    have hD4 : H4 D = none := by rw [upd_ne nDq] at hDb; exact hDb
    have hS6 : Same H (upd H5 dg (.dK (gatesK tb))) := fun b o e => by
      by_cases hb : b = dg
      · subst hb
        rw [hg] at e
        cases e
        exact upd_same
      · rw [upd_ne hb]
        refine s5 b o ?_
        rw [upd_ne hb, upd_ne (ne_of_none e hdq0)]
        exact hS3 b o e
    have keep6 : ∀ b o, H4 b = some o → b ≠ dg → b ≠ dq → (upd H5 dg (.dK (gatesK tb))) b = some o := fun b o e hb hq => by
      rw [upd_ne hb]
      refine s5 b o ?_
      rw [upd_ne hb, upd_ne hq]
      exact e
    have hT6 : TK H (upd H5 dg (.dK (gatesK tb))) dt tl (tk (nmsOf tb) aw) := by
      refine ⟨keep6 _ _ hT4.dict (Ne.symm ndt) m3, hT4.nd, fun q h => keep6 _ _ (hT4.lst q h) ?_ (m4 q h), hT4.new⟩
      exact ne_of (hT4.lst q h) hd4 (by intro z; cases z)
    have hw6 := keep6 _ _ hw4 (Ne.symm n4) m2
    have hq6 : (upd H5 dg (.dK (gatesK tb))) dq = some (.lst (([] : List Str).map V.str)) := by
      rw [upd_ne (Ne.symm m1)]
      refine s5 _ _ ?_
      rw [upd_ne (Ne.symm m1)]
      exact upd_same
    have hr6 : (upd H5 dg (.dK (gatesK tb))) D = some (.lst (((nmsOf tb).filter fun g => decide (((aw g).length : Int) = 0)).map V.str)) := by
      rw [upd_ne nDg]
      exact h5
    have mD : ∀ q ∈ tl, q.2 ≠ D := fun q h => ne_of_none (hT4.lst q h) hD4
    have hD0 : H D = none := hS3.free hD4
    generalize upd H5 dg (.dK (gatesK tb)) = H6 at hS6 keep6 hT6 hw6 hq6 hr6 ⊢
    -- while len(ready) > 0:
    refine while_by (fun σ H' => ∃ (order ready : List Str) (wf : Str → Nat) (v2 v4 v5 v6 v9 v10 : Option V), σ = [some (.ref dg), some (.ref dt), v2, some (.ref dw), v4, v5, v6, some (.ref dq), some (.ref D), v9, v10] ∧
      KInv (nmsOf tb) aw order ready wf [] ∧ H' dq = some (.lst (order.map V.str)) ∧ H' D = some (.lst (ready.map V.str)) ∧ H' dw = some (.dK (wK (nmsOf tb) wf)) ∧ TK H H' dt tl (tk (nmsOf tb) aw) ∧ Same H H') (fun _ H' => tb.length - lenAt H' dq) ?_ ?_ ?_
    · exact ⟨[], _, _, _, _, _, _, _, _, rfl, KInv.start hnd, hq6, hr6, hw6, hT6, hS6⟩
    · rintro σ H7 ⟨order, ready, wf, w2, w4, w5, w6, w9, w10, rfl, kI, ho, hrd, hw7, hT7, hS7⟩
      refine ⟨_, rfl, D, _, rfl, .inl (SqL.of hrd), _, _, rfl, rfl, _, rfl, ?_⟩
      rcases List.eq_nil_or_concat ready with rfl | ⟨r', d, rfl⟩
      · refine if_f rfl ?_
        exact ⟨_, rfl, q H7 dq order wf hS7 hdq0 ho kI⟩
      rw [List.concat_eq_append] at kI hrd ⊢
      refine if_t (decide_eq_true (by simp)) ?_
      obtain ⟨hdm, kP⟩ := kI.pop hnd
      have hmost := kP.most
      rw [List.length_append, List.length_map] at hmost
      simp only [List.length_cons, List.length_nil] at hmost
      -- done = ready.pop()
      refine ⟨_, rfl, .inl ⟨rfl, _, SqL.of hrd⟩, D, _, .str d, rfl, rfl, hrd, (by simp), ?_⟩
      have edl : ((r' ++ [d]).map V.str).dropLast = r'.map V.str := by rw [List.map_append]; simp
      rw [edl]
      -- order.append(done)
      refine ⟨_, rfl, .inl ⟨rfl, _, SqL.of (by rw [upd_ne (Ne.symm nDq)]; exact ho)⟩, _, rfl, dq, _, _, rfl, rfl, (by rw [upd_ne (Ne.symm nDq)]; exact ho), ?_, ?_⟩
      · rw [List.length_map]
        exact Nat.lt_of_le_of_lt (show order.length ≤ 1024 by omega) (by decide)
      have eo : order.map V.str ++ [V.str d] = (order ++ [d]).map V.str := by rw [List.map_append]; rfl
      rw [eo]
      have nDw : D ≠ dw := ne_of hrd hw7 (by intro z; cases z)
      have nDt : dt ≠ D := ne_of hT7.dict hrd (by intro z; cases z)
      have hT8 : TK H (upd (upd H7 D (.lst (r'.map V.str))) dq (.lst ((order ++ [d]).map V.str))) dt tl (tk (nmsOf tb) aw) := (hT7.keep nDt mD).keep m3 m4
      have hS8 : Same H (upd (upd H7 D (.lst (r'.map V.str))) dq (.lst ((order ++ [d]).map V.str))) := Same.upd_new (Same.upd_new hS7 hD0) hdq0
      have hw8 : (upd (upd H7 D (.lst (r'.map V.str))) dq (.lst ((order ++ [d]).map V.str))) dw = some (.dK (wK (nmsOf tb) wf)) := by rw [upd_ne m2, upd_ne (Ne.symm nDw)]; exact hw7
      have hr8 : (upd (upd H7 D (.lst (r'.map V.str))) dq (.lst ((order ++ [d]).map V.str))) D = some (.lst (r'.map V.str)) := by rw [upd_ne nDq]; exact upd_same
      have ho8 : (upd (upd H7 D (.lst (r'.map V.str))) dq (.lst ((order ++ [d]).map V.str))) dq = some (.lst ((order ++ [d]).map V.str)) := upd_same
      have hl7 := lenAt_of ho
      generalize upd (upd H7 D (.lst (r'.map V.str))) dq (.lst ((order ++ [d]).map V.str)) = H8 at hT8 hS8 hw8 hr8 ho8 ⊢
      obtain ⟨a, ha, hv⟩ := takK_val (s := d) (tl := tl) (by rw [htl']; exact hdm)
      -- for taker in takers[done]:
      refine ⟨_, rfl, _, rfl, dt, .ref a, rfl, (by rw [← hv]; exact DGet.k (k := Sum.inr d) hT8.dict), a, rfl, ⟨_, SqL.of (hT8.lst (d, a) ha)⟩,
        for_list (K := K) (a := a) (xs := (tk (nmsOf tb) aw d).map V.str) (fun j σ H9 => ∃ (rd : List Str) (wf2 : Str → Nat) (v2 v4 v5 v6 v9 v10 : Option V), σ = [some (.ref dg), some (.ref dt), v2, some (.ref dw), v4, v5, v6, some (.ref dq), some (.ref D), v9, v10] ∧
          KInv (nmsOf tb) aw (order ++ [d]) rd wf2 ((tk (nmsOf tb) aw d).drop j) ∧ H9 dq = some (.lst ((order ++ [d]).map V.str)) ∧ H9 D = some (.lst (rd.map V.str)) ∧ H9 dw = some (.dK (wK (nmsOf tb) wf2)) ∧ TK H H9 dt tl (tk (nmsOf tb) aw) ∧ Same H H9) ?_ ?_ ?_ ?_⟩
      · exact ⟨r', wf, _, _, _, _, _, _, rfl, kP, ho8, hr8, hw8, hT8, hS8⟩
      · rintro j σ H9 _ ⟨_, _, _, _, _, _, _, _, rfl, _, _, _, _, hT9, _⟩
        exact SqL.of (hT9.lst (d, a) ha)
      · rintro j x σ H9 hj ⟨rd, wf2, u2, u4, u5, u6, u9, u10, rfl, k9, ho9, hr9, hw9, hT9, hS9⟩
        obtain ⟨z, hz, rfl⟩ := str_item hj
        have hzg : z ∈ nmsOf tb := tk_mem (List.mem_of_getElem? hz)
        have edrop : (tk (nmsOf tb) aw d).drop j = z :: (tk (nmsOf tb) aw d).drop (j + 1) := by
          obtain ⟨hj', ez⟩ := List.getElem?_eq_some_iff.mp hz
          rw [List.drop_eq_getElem_cons hj', ez]
        rw [edrop] at k9
        obtain ⟨w1, kS⟩ := k9.step hzg
        -- waits[taker] -= 1
        refine ⟨_, rfl, _, rfl, dw, .int (wf2 z : Nat), rfl, (by rw [← wK_val (f := wf2) hzg]; exact DGet.k (k := Sum.inr z) hw9), _, _, rfl, rfl, _, DPut.k (k := Sum.inr z) hw9 ?_, ?_⟩
        · rw [wK_len, List.length_map]
          exact Nat.lt_of_le_of_lt hlen (by decide)
        have e1 : ((wf2 z : Nat) : Int) - 1 = ((wf2 z - 1 : Nat) : Int) := by omega
        rw [e1, wK_put (wf2 z - 1) hzg]
        have q1 : dq ≠ dw := Ne.symm m2
        have hT10 : TK H (upd H9 dw (.dK (wK (nmsOf tb) fun x => if x = z then wf2 z - 1 else wf2 x))) dt tl (tk (nmsOf tb) aw) := hT9.keep n3 fun q h => ne_of (hT9.lst q h) hw9 (by intro z; cases z)
        have hS10 : Same H (upd H9 dw (.dK (wK (nmsOf tb) fun x => if x = z then wf2 z - 1 else wf2 x))) := Same.upd_new hS9 hdw0
        have ho10 : (upd H9 dw (.dK (wK (nmsOf tb) fun x => if x = z then wf2 z - 1 else wf2 x))) dq = some (.lst ((order ++ [d]).map V.str)) := by rw [upd_ne q1]; exact ho9
        have hr10 : (upd H9 dw (.dK (wK (nmsOf tb) fun x => if x = z then wf2 z - 1 else wf2 x))) D = some (.lst (rd.map V.str)) := by rw [upd_ne nDw]; exact hr9
        have hw10 : (upd H9 dw (.dK (wK (nmsOf tb) fun x => if x = z then wf2 z - 1 else wf2 x))) dw = some (.dK (wK (nmsOf tb) fun x => if x = z then wf2 z - 1 else wf2 x)) := upd_same
        generalize upd H9 dw (.dK (wK (nmsOf tb) fun x => if x = z then wf2 z - 1 else wf2 x)) = H10 at hT10 hS10 ho10 hr10 hw10 ⊢
        have hval : valV (wK (nmsOf tb) fun x => if x = z then wf2 z - 1 else wf2 x) (Sum.inr z) = some (.int ((wf2 z - 1 : Nat) : Nat)) := by
          rw [wK_val hzg]
          simp
        -- if waits[taker] == 0:
        refine ⟨_, rfl, _, rfl, dw, .int ((wf2 z - 1 : Nat) : Nat), rfl, (by rw [← hval]; exact DGet.k (k := Sum.inr z) hw10), rfl, _, rfl, ?_⟩
        by_cases h0 : wf2 z - 1 = 0
        · rw [if_pos h0] at kS
          refine if_t (decide_eq_true (by rw [h0]; rfl)) ?_
          have hmost2 := kS.most
          rw [List.length_append, List.length_map] at hmost2
          refine ⟨_, rfl, .inl ⟨rfl, _, SqL.of hr10⟩, _, rfl, D, _, _, rfl, rfl, hr10, ?_, ?_⟩
          · rw [List.length_map]
            rw [List.length_append] at hmost2
            exact Nat.lt_of_le_of_lt (show rd.length ≤ 1024 by omega) (by decide)
          · refine ⟨rd ++ [z], _, _, _, _, _, _, _, rfl, kS, ?_, ?_, ?_, hT10.keep nDt mD, Same.upd_new hS10 hD0⟩
            · rw [upd_ne (Ne.symm nDq)]
              exact ho10
            · rw [upd_same, List.map_append]
              rfl
            · rw [upd_ne (Ne.symm nDw)]
              exact hw10
        · rw [if_neg h0] at kS
          refine if_f (decide_eq_false fun e => h0 ?_) ?_
          · have := V.int.inj e
            omega
          · exact ⟨rd, _, _, _, _, _, _, _, rfl, kS, ho10, hr10, hw10, hT10, hS10⟩
      · rintro σ H9 ⟨rd, wf2, u2, u4, u5, u6, u9, u10, rfl, k9, ho9, hr9, hw9, hT9, hS9⟩
        rw [List.length_map, List.drop_length] at k9
        refine ⟨⟨order ++ [d], rd, wf2, _, _, _, _, _, _, rfl, k9, ho9, hr9, hw9, hT9, hS9⟩, ?_⟩
        have hl9 := lenAt_of ho9
        rw [hl9, hl7, List.length_map, List.length_map, List.length_append]
        simp only [List.length_cons, List.length_nil]
        omega
    · rintro σ H' Q1 Q2 m ⟨a1, a2, a3, a4, a5, a6, a7, a8, a9, a10, a11, a12, a13⟩
      exact ⟨a1, a2, a3, a4, a5, a6, a7, a8, a9, a10, a11, a12, m _ _ a13⟩
end
end GN
namespace GN
open PySem PySem.Spec PyProof.Rows L2
/-! ### few sources -/
def PFew (p : PN) : Prop := ∀ g ∈ p.gates, g.src.length ≤ 3
theorem kc_le {z : Str} {c : Nat} (h : kc z = some c) : c ≤ 3 := by
  unfold kc at h
  have key : ∀ {q : Prop} [Decidable q] {a : Nat} {t : Option Nat}, (if q then some a else t) = some c → a ≤ 3 → (t = some c → c ≤ 3) → c ≤ 3 := by
    intro q _ a t h ha ht
    by_cases hq : q
    · rw [if_pos hq] at h
      cases h
      exact ha
    · rw [if_neg hq] at h
      exact ht h
  refine key h (by decide) fun h => ?_
  refine key h (by decide) fun h => ?_
  refine key h (by decide) fun h => ?_
  refine key h (by decide) fun h => ?_
  refine key h (by decide) fun h => ?_
  refine key h (by decide) fun h => ?_
  refine key h (by decide) fun h => ?_
  refine key h (by decide) fun h => ?_
  refine key h (by decide) fun h => ?_
  refine key h (by decide) fun h => ?_
  refine key h (by decide) fun h => ?_
  refine key h (by decide) fun h => ?_
  refine key h (by decide) fun h => ?_
  refine key h (by decide) fun h => ?_
  cases h
theorem pIns_gates : ∀ {r : List Str} {p q : PN}, r.foldlM pIn p = some q → q.gates = p.gates
  | [], p, q, e => by cases e; rfl
  | z :: r, p, q, e => by
    rw [List.foldlM_cons] at e
    unfold pIn at e
    split at e
    · exact pIns_gates (p := { p with ins := p.ins ++ [z] }) e
    · cases e
theorem pLine_few {p q : PN} {ws : List Str} (h : PFew p) (e : pLine p ws = some q) : PFew q := by
  unfold pLine at e
  split at e
  · cases e; exact h
  · split at e
    · split at e
      · cases e
      · intro g hg
        rw [pIns_gates e] at hg
        exact h g hg
    · split at e
      · split at e
        · cases e
        · cases e; exact h
      · split at e
        · unfold pGate at e
          split at e
          · split at e
            · rename_i c hk
              split at e
              · rename_i hc
                cases e
                intro g hg
                rcases List.mem_append.mp hg with z | z
                · exact h g z
                · rw [List.mem_singleton.mp z]
                  show List.length _ ≤ 3
                  rw [hc.1]
                  exact kc_le hk
              · cases e
            · cases e
          · cases e
        · cases e
theorem parse_few : ∀ {L : List (List Str)} {p q : PN}, PFew p → L.foldlM pLine p = some q → PFew q
  | [], p, q, h, e => by cases e; exact h
  | l :: L, p, q, h, e => by
    rw [List.foldlM_cons] at e
    cases z : pLine p l with
    | none => rw [z] at e; cases e
    | some k => rw [z] at e; exact parse_few (pLine_few h z) e
theorem parse_sz : ∀ {L : List (List Str)} {p q : PN}, L.foldlM pLine p = some q → q.sz ≤ p.sz + (L.map List.length).sum
  | [], p, q, e => by cases e; simp
  | l :: L, p, q, e => by
    rw [List.foldlM_cons] at e
    cases z : pLine p l with
    | none => rw [z] at e; cases e
    | some k =>
      rw [z] at e
      have h1 := pLine_sz z
      have h2 := parse_sz (show L.foldlM pLine k = some q from e)
      simp only [List.map_cons, List.sum_cons]
      omega
theorem sum_take_le : ∀ (l : List Nat) (i : Nat), (l.take i).sum ≤ l.sum
  | [], i => by simp
  | a :: l, 0 => by simp
  | a :: l, i + 1 => by
    have := sum_take_le l i
    simp only [List.take_succ_cons, List.sum_cons]
    omega
/-- the words of the program's lines -/
def wordsS (b : Sf33.Bytes) : List (List Str) := (rows b).map fun l => (wordsOf l).map en
theorem wordsS_eq (b : Sf33.Bytes) : wordsS b = (Sf33.lines b).map fun l => l.map en := by
  rw [lines_rows, List.map_map]
  rfl
theorem wordsS_sum (b : Sf33.Bytes) : ((wordsS b).map List.length).sum ≤ b.length := by
  have e : (wordsS b).map List.length = (rows b).map fun l => (wordsOf l).length := by
    unfold wordsS
    rw [List.map_map]
    refine List.map_congr_left fun l _ => ?_
    show ((wordsOf l).map en).length = _
    rw [List.length_map]
  rw [e]
  exact all_words b
theorem parse_all (b : Sf33.Bytes) : (wordsS b).foldlM pLine ⟨[], [], []⟩ = ((Sf33.lines b).foldlM rawLine emptyN).map encN := by
  rw [wordsS_eq]
  exact parse_enc fine0
theorem find_pg {l : List PG} (hn : (l.map PG.name).Nodup) {g : PG} (hg : g ∈ l) : l.find? (fun x => decide (x.name = g.name)) = some g := by
  induction l with
  | nil => cases hg
  | cons a l ih =>
    rw [List.map_cons, List.nodup_cons] at hn
    rw [List.find?_cons]
    by_cases e : a.name = g.name
    · rcases List.mem_cons.mp hg with z | z
      · subst z
        simp
      · exact absurd (by rw [e]; exact List.mem_map.mpr ⟨g, z, rfl⟩) hn.1
    · rcases List.mem_cons.mp hg with z | z
      · subst z
        exact absurd rfl e
      · simp only [e, decide_false]
        exact ih hn.2 z
section
variable {P : Program} {w : World} {K : PySem.W.Frag} {mg : Str → Option Value} {base : Heap} {CF CG CN dk rg : Addr}
theorem NOk.aw {H : Hp} {A : NAd} {p : PN} {tb : List GR} (n : NOk CN CG H A p tb) (hn : p.gn.Nodup) : ∀ r ∈ tb, p.aw r.pg.name = awR (nmsOf tb) r.pg := by
  intro r hr
  unfold PN.aw awR
  rw [find_pg hn (by rw [n.row]; exact List.mem_map.mpr ⟨r, hr, rfl⟩)]
  show r.pg.now.filter _ = _
  rw [n.gn]
/-! ### refuse_loops -/
def spLoops (CF CN CG : Addr) : Sp := fun vs H Q E => ∃ (A : NAd) (p : PN) (tb : List GR), vs = [.ref A.a] ∧ NOk CN CG H A p tb ∧ p.gn.Nodup ∧ p.gates.length ≤ 1024 ∧ PFew p ∧
  ∀ (H' : Hp) (order : List Str) (wf : Str → Nat), Same H H' → KInv p.gn p.aw order [] wf [] → (order.length < p.gn.length → Raised CF E) ∧ (¬ order.length < p.gn.length → Q .non H')
theorem scLo : FnScope ["network"] ["network"] (defScope sLoops) := ⟨rfl, rfl, rfl, by decide +kernel, rfl, by decide +kernel, by decide +kernel⟩
theorem ok_loops {f fO : Addr} {fd fdO : FuncData} (F : Fun K "refuse_loops" "refuse_loops" sLoops f fd) (T : Txt K mg CF CG CN)
    (GO : FnOk P w K mg base CX0 2 fO fdO ["gates"] (spOrder CG)) (kO : PySem.W.keepIn K (.ref fO) = true) (bO : Binds K fdO ["gates"] []) (mO : mg "order_gates" = some (.ref fO)) :
    FnOk P w K mg base (L2.CX P w) 3 f fd ["network"] (spLoops CF CN CG) := by
  refine F.okX scLo (fun vs H Q E h => ?_) (fun cdv A outer s H vs Q E hr h => ?_)
  · obtain ⟨A, p, tb, rfl, _⟩ := h
    rfl
  · obtain ⟨A, p, tb, rfl, n, hn, hl, hf, k⟩ := h
    have hg : tb.length = p.gates.length := by rw [n.row, List.length_map]
    have hgn : p.gn.length = p.gates.length := by simp [PN.gn]
    refine ⟨_, pss_one (ps_if (pt_cmpR op_lt (pe_callB call_len_seq (by rfl) T.len PySem.boot_len (pa_cons (pe_call GO hr rfl mO kO bO .nil pass0 (pa_cons (pe_fld (pv 0) rfl) pa_nil)) pa_nil))
        (pe_callB call_lenD (by rfl) T.len PySem.boot_len (pa_cons (pe_fld (pv 0) rfl) pa_nil)) (nomark _))
      (pss_one (ps_raise rfl (takes_of rfl rfl rfl rfl) (pmk_own0 PySem.F.excBase_ValueError T.xF T.gF T.kF (raises_own T.bF T.tF) rfl))) pss_nil), ?_⟩
    refine ⟨_, rfl, A.a, CN, A.dx, _, _, rfl, n.ob, T.cN, T.nG, nF_gates A, A.dg, tb, p.aw, rfl, n.gates, n.each, (by have e : p.gn = nmsOf tb := n.gn; rw [← e]; exact hn), (by omega), ?_, n.aw hn, fun H1 l order wf s1 _ hl1 kI => ?_⟩
    · intro r hr'
      exact hf r.pg (by rw [n.row]; exact List.mem_map.mpr ⟨r, hr', rfl⟩)
    · have n1 := n.same s1
      have en_ : p.gn = nmsOf tb := n.gn
      rw [← en_] at kI
      obtain ⟨k1, k2⟩ := k H1 order wf s1 kI
      refine ⟨l, _, rfl, .inl (SqL.of hl1), _, rfl, A.a, CN, A.dx, _, _, rfl, n1.ob, T.cN, T.nG, nF_gates A, A.dg, _, rfl, n1.gates, _, _, rfl, rfl, _, rfl, ?_⟩
      rw [List.length_map, gatesK_len, hg]
      by_cases h : order.length < p.gn.length
      · exact if_t (decide_eq_true (by omega)) (k1 h H1)
      · exact if_f (decide_eq_false (by omega)) (k2 h)
/-! ### read_network -/
theorem upd_none {H : Hp} {p b : Addr} {o : HO} (h : (upd H p o) b = none) : b ≠ p ∧ H b = none := by
  have hb : b ≠ p := fun e => by rw [e, upd_same] at h; cases h
  rw [upd_ne hb] at h
  exact ⟨hb, h⟩
def spRead (K : PySem.W.Frag) (CF CN CG : Addr) : Sp := fun vs H Q E => ∃ (a : Addr) (ns : List Int), vs = [.ref a] ∧ SqL K H a (ns.map V.int) ∧ ns.length ≤ 65536 ∧ (∀ n ∈ ns, 0 ≤ n ∧ n ≤ 255) ∧
  (Sf33.network (ns.length : Int) (Sf33Neutral.bytesOf ns) = none → Raised CF E) ∧
  (∀ n, Sf33.network (ns.length : Int) (Sf33Neutral.bytesOf ns) = some n → ∀ (H' : Hp) (A : NAd) (tb : List GR), NOk CN CG H' A (encN n) tb → Same H H' → Q (.ref A.a) H')
theorem scRd : FnScope ["text", "network", "line", "words"] ["text"] (defScope sRead) := ⟨rfl, rfl, rfl, by decide +kernel, rfl, by decide +kernel, by decide +kernel⟩
theorem ok_read {f fS fL fM fU fO fI : Addr} {fd fdS fdL fdM fdU fdO fdI : FuncData} (F : Fun K "read_network" "read_network" sRead f fd) (T : Txt K mg CF CG CN)
    (MN : Mk K CN fI) (FI : Fun K "__init__" "Network.__init__" sNetInit fI fdI) (bI : Binds K fdI ["self"] [])
    (GS : FnOk P w K mg base CX0 1 fS fdS ["text"] (spSpell K)) (kS : PySem.W.keepIn K (.ref fS) = true) (bS : Binds K fdS ["text"] []) (mS : mg "spell" = some (.ref fS))
    (GL : FnOk P w K mg base (L2.CX P w) 4 fL fdL ["network", "words"] (spLine CF CN CG)) (kL : PySem.W.keepIn K (.ref fL) = true) (bL : Binds K fdL ["network", "words"] []) (mL : mg "read_line" = some (.ref fL))
    (GM : FnOk P w K mg base (L2.CX P w) 1 fM fdM ["network"] (spMany CF CN CG)) (kM : PySem.W.keepIn K (.ref fM) = true) (bM : Binds K fdM ["network"] []) (mM : mg "refuse_too_many" = some (.ref fM))
    (GU : FnOk P w K mg base (L2.CX P w) 2 fU fdU ["network"] (spUnknown CF CN CG)) (kU : PySem.W.keepIn K (.ref fU) = true) (bU : Binds K fdU ["network"] []) (mU : mg "refuse_unknown_names" = some (.ref fU))
    (GO : FnOk P w K mg base (L2.CX P w) 3 fO fdO ["network"] (spLoops CF CN CG)) (kO : PySem.W.keepIn K (.ref fO) = true) (bO : Binds K fdO ["network"] []) (mO : mg "refuse_loops" = some (.ref fO)) :
    FnOk P w K mg base (L2.CX P w) 5 f fd ["text"] (spRead K CF CN CG) := by
  have GI : FnOk P w K mg base CX0 1 fI fdI ["self"] (spNetInit CN) := ok_netInit FI T
  obtain ⟨t1, m1⟩ := T.mBytes
  refine F.okX scRd (fun vs H Q E h => ?_) (fun cdv A outer s H vs Q E hr h => ?_)
  · obtain ⟨a, ns, rfl, _⟩ := h
    rfl
  · obtain ⟨a, ns, rfl, ha, hn, hb, kN, kR⟩ := h
    have hr1 : Room 1 _ := hr.mono (by decide)
    have hr2 : Room 2 _ := hr.mono (by decide)
    have hr3 : Room 3 _ := hr.mono (by decide)
    refine ⟨_, pss_cons (ps_if (pt_cmpR op_gt (pe_callB call_len_seq (by rfl) T.len PySem.boot_len (pa_cons (pv 0) pa_nil)) (pe_glob rfl m1 (v := .int 65536) ⟨_, rfl⟩) (nomark _))
        (pss_one (ps_raise rfl (takes_of rfl rfl rfl rfl) (pmk_own0 PySem.F.excBase_ValueError T.xF T.gF T.kF (raises_own T.bF T.tF) rfl))) pss_nil)
      (pss_cons (ps_set (i := 1) scRd.nd rfl (.inl rfl) (pe_make0 MN GI hr2 rfl T.gN bI .nil pass0))
      (pss_cons (ps_for (passes_of rfl) rfl (pi_list (pe_split (pe_call GS hr1 rfl mS kS bS .nil pass0 (pa_cons (pv 0) pa_nil)) pe_str)) (pg_name (i := 2) scRd.nd rfl (.inl rfl))
        (pss_cons (ps_set (i := 3) scRd.nd rfl (.inl rfl) (pe_words (pe_ix ix_tup (pe_partition (pv 2) pe_str) pe_int (fun _ _ => rfl))))
        (pss_one (ps_if (pt_cmpR op_gt (pe_callB call_len_seq (by rfl) T.len PySem.boot_len (pa_cons (pv 3) pa_nil)) pe_int (nomark _))
          (pss_one (ps_expr (pe_callS GL hr rfl mL kL bL (fun σ => passAt (takes_of rfl rfl rfl rfl) σ) (pa_cons (pv 1) (pa_cons (pv 3) pa_nil))))) pss_nil))))
      (pss_cons (ps_expr (pe_callS GM hr1 rfl mM kM bM (fun σ => passAt (takes_of rfl rfl rfl rfl) σ) (pa_cons (pv 1) pa_nil)))
      (pss_cons (ps_expr (pe_callS GU hr2 rfl mU kU bU (fun σ => passAt (takes_of rfl rfl rfl rfl) σ) (pa_cons (pv 1) pa_nil)))
      (pss_cons (ps_expr (pe_callS GO hr3 rfl mO kO bO (fun σ => passAt (takes_of rfl rfl rfl rfl) σ) (pa_cons (pv 1) pa_nil)))
      (pss_one (ps_ret (pv 1)))))))), ?_⟩
    have hbl : (Sf33Neutral.bytesOf ns).length = ns.length := by simp [Sf33Neutral.bytesOf]
    have net := fun n => network_some (b := Sf33Neutral.bytesOf ns) (by rw [hbl]; exact hn) n
    rw [hbl] at net
    have pall := parse_all (Sf33Neutral.bytesOf ns)
    have wsum := wordsS_sum (Sf33Neutral.bytesOf ns)
    rw [hbl] at wsum
    have rl : ∀ l ∈ rows (Sf33Neutral.bytesOf ns), l.length ≤ 65536 := fun l h => by
      have := row_len h
      omega
    have wr := fun l (h : l ∈ rows (Sf33Neutral.bytesOf ns)) => words_row h
    have spl := split_en (Sf33Neutral.bytesOf ns)
    generalize hb0 : Sf33Neutral.bytesOf ns = b at *
    -- if len(text) > MOST_BYTES
    refine ⟨_, rfl, a, _, rfl, .inl ha, _, _, rfl, rfl, _, rfl, ?_⟩
    refine if_f (decide_eq_false (by rw [List.length_map]; omega)) ?_
    -- network = Network()
    intro x dx nx ndx ne
    refine ⟨x, dx, rfl, upd_same, fun H1 Ad ea edx f1 f2 f3 f4 ob oi ol og kp => ⟨rfl, ?_⟩⟩
    subst ea edx
    have s1 : Same H H1 := Same.made nx ndx kp
    have g1 : H Ad.di = none := (upd_none (upd_none f1).2).2
    have g2 : H Ad.dl = none := (upd_none (upd_none f2).2).2
    have g3 : H Ad.dg = none := (upd_none (upd_none f3).2).2
    have n1 : NOk CN CG H1 Ad ⟨[], [], []⟩ [] := ⟨ob, oi, ol, og, f4, rfl, (fun r h => by cases h), (fun r h => by cases h)⟩
    -- for line in spell(text).split("\n")
    refine ⟨_, rfl, a, ns, rfl, s1.seq ha, hn, hb, fun H2 s2 => ?_⟩
    rw [hb0]
    have hel : (en b).length + 2 ≤ sizeLine := by
      rw [en_len, hbl]
      exact Nat.le_trans (show ns.length + 2 ≤ 70000 by omega) (by decide)
    refine ⟨⟨_, rfl⟩, _, _, rfl, rfl, (by decide +kernel), hel, fun L hL => ?_⟩
    rw [spl]
    have n2 := n1.same s2
    have nL : L ≠ Ad.dl := Ne.symm (ne_of_none n2.outs hL)
    have none_of : ((wordsS b).foldlM pLine ⟨[], [], []⟩ = none) → Raised CF E := fun e => by
      refine kN ?_
      cases q : Sf33.network (ns.length : Int) b with
      | none => rfl
      | some m =>
        rw [pall, ((net m).mp q).1] at e
        cases e
    refine ⟨L, rfl, ⟨_, SqL.of upd_same⟩, for_list (K := K) (a := L) (xs := ((rows b).map en).map V.str)
      (fun i σ H' => ∃ v2 v3 p tb, σ = [some (.ref a), some (.ref Ad.a), v2, v3] ∧ ((wordsS b).take i).foldlM pLine ⟨[], [], []⟩ = some p ∧ NOk CN CG H' Ad p tb ∧ H' L = some (.lst (((rows b).map en).map V.str)) ∧ Same H H') ?_ ?_ ?_ ?_⟩
    · exact ⟨_, _, _, [], rfl, rfl, n2.same (Same.upd_own hL), upd_same, (s1.trans s2).trans (Same.upd_own hL)⟩
    · rintro i σ H3 _ ⟨_, _, _, _, rfl, _, _, hL3, _⟩
      exact SqL.of hL3
    · rintro i x σ H3 hi ⟨v2, v3, p, tb, rfl, ef, n3, hL3, s3⟩
      obtain ⟨z, hz, rfl⟩ := str_item hi
      obtain ⟨l, hl, rfl⟩ : ∃ l, (rows b)[i]? = some l ∧ z = en l := by
        rw [List.getElem?_map] at hz
        cases e : (rows b)[i]? with
        | none => rw [e] at hz; cases hz
        | some l => rw [e] at hz; exact ⟨l, rfl, (Option.some.inj hz).symm⟩
      have hlm : l ∈ rows b := List.mem_of_getElem? hl
      have hll := rl l hlm
      have hwi : (wordsS b)[i]? = some ((wordsOf l).map en) := by
        unfold wordsS
        rw [List.getElem?_map, hl]
        rfl
      obtain ⟨st1, st2⟩ := fold_step hwi ef
      have hsz : ∀ k : Nat, k ≤ 65536 → k + 2 ≤ sizeLine := fun k h => Nat.le_trans (show k + 2 ≤ 70000 by omega) (by decide)
      have epart := partition_en l
      have htk : (l.takeWhile fun c => c != 35).length ≤ l.length := (List.takeWhile_sublist _).length_le
      -- words = line.partition("#")[0].split()
      refine ⟨_, rfl, ⟨_, rfl⟩, _, _, rfl, rfl, (by decide +kernel), ?_, fun t ht => ?_⟩
      · rw [en_len]
        exact Nat.le_trans (Nat.le_add_right _ 2) (hsz _ hll)
      refine ⟨t, _, _, _, rfl, rfl, SqT.of upd_same, atI_nat (j := 0) rfl, ⟨_, rfl⟩, _, rfl, rfl, ?_, fun la hla => ?_⟩
      · rw [epart, en_len]
        exact hsz _ (by omega)
      rw [wr l hlm]
      have s4 := (Same.upd_own (o := .tup [.str (Txt.partition (en l) "#").1, .str (Txt.partition (en l) "#").2.1, .str (Txt.partition (en l) "#").2.2]) ht).trans (Same.upd_own (o := .lst (((wordsOf l).map en).map V.str)) hla)
      have hla' : (upd (upd H3 t (.tup [.str (Txt.partition (en l) "#").1, .str (Txt.partition (en l) "#").2.1, .str (Txt.partition (en l) "#").2.2])) la (.lst (((wordsOf l).map en).map V.str))) la = some (.lst (((wordsOf l).map en).map V.str)) := upd_same
      generalize (upd (upd H3 t (.tup [.str (Txt.partition (en l) "#").1, .str (Txt.partition (en l) "#").2.1, .str (Txt.partition (en l) "#").2.2])) la (.lst (((wordsOf l).map en).map V.str))) = H4 at s4 hla' ⊢
      have n4 := n3.same s4
      -- if len(words) > 0
      refine ⟨_, rfl, la, _, rfl, .inl (SqL.of hla'), _, _, rfl, rfl, _, rfl, ?_⟩
      by_cases h0 : (wordsOf l).map en = []
      · refine if_f (decide_eq_false (by rw [h0]; decide)) ?_
        rw [h0] at st1
        exact ⟨_, _, p, tb, rfl, st1, n4, s4 _ _ hL3, s3.trans s4⟩
      · have hpos : 0 < ((wordsOf l).map en).length := List.length_pos_iff.mpr h0
        refine if_t (decide_eq_true (by rw [List.length_map]; omega)) ?_
        have hszp : p.sz + ((wordsOf l).map en).length ≤ 200000 := by
          have h1 := parse_sz ef
          have h2 : (((wordsS b).take i).map List.length).sum ≤ ((wordsS b).map List.length).sum := by
            rw [List.map_take]
            exact sum_take_le _ _
          have h3 : (PN.mk [] [] []).sz = 0 := rfl
          have h4 := words_count l
          rw [List.length_map]
          omega
        refine ⟨_, rfl, _, rfl, Ad, p, tb, la, (wordsOf l).map en, rfl, n4, hla', h0, ?_, hszp, fun e => none_of (st2 e), fun p' e H5 tb' n5 k5 => ?_⟩
        · intro z hz'
          obtain ⟨wd, hwd, rfl⟩ := List.mem_map.mp hz'
          have := word_len hwd
          rw [en_len]
          omega
        · refine ⟨_, _, p', tb', rfl, st1.trans e, n5, k5 _ _ (s4 _ _ hL3) ?_ nL ?_, fun bb o e' => k5 _ _ (s4 _ _ (s3 bb o e')) (ne_of_none e' g1) (ne_of_none e' g2) (ne_of_none e' g3)⟩
          · exact ne_of hL3 n3.ins (by intro z; cases z)
          · exact ne_of hL3 n3.gates (by intro z; cases z)
    · rintro σ H3 ⟨v2, v3, p, tb, rfl, ef, n3, hL3, s3⟩
      have el : ((rows b).map en).length = (wordsS b).length := by simp [wordsS]
      rw [List.length_map, el, List.take_length] at ef
      have few : PFew p := parse_few (fun g hg => by cases hg) ef
      rw [pall] at ef
      obtain ⟨n, hraw, rfl⟩ := Option.map_eq_some_iff.mp ef
      have fine := raw_fine fine0 hraw
      have no : ¬ (Small n ∧ Known n ∧ Rank n) → Raised CF E := fun h => by
        refine kN ?_
        cases q : Sf33.network (ns.length : Int) b with
        | none => rfl
        | some m =>
          obtain ⟨e1, e2⟩ := (net m).mp q
          rw [hraw] at e1
          cases e1
          exact absurd e2 h
      -- refuse_too_many(network)
      refine ⟨_, rfl, Ad, _, tb, rfl, n3, fun h => no fun z => h ((small_enc n).mpr z.1), fun hsm => ?_⟩
      -- refuse_unknown_names(network)
      refine ⟨_, rfl, Ad, _, tb, rfl, n3, fun h => no fun z => h ((known_enc fine).mpr z.2.1), fun hkn H4 s4 => ?_⟩
      have n4 := n3.same s4
      have hgl : (encN n).gates.length ≤ 1024 := by
        have := hsm.2.2
        omega
      -- refuse_loops(network)
      refine ⟨_, rfl, Ad, _, tb, rfl, n4, gn_nodup fine, hgl, few, fun H5 order wf s5 kI => ⟨fun h => ?_, fun h => ?_⟩⟩
      · exact no fun z => (order_iff fine kI).mpr z.2.2 h
      · refine ⟨_, rfl, kR n ((net n).mpr ⟨hraw, (small_enc n).mp hsm, (known_enc fine).mp hkn, (order_iff fine kI).mp h⟩) H5 Ad tb (n4.same s5) ((s3.trans s4).trans s5)⟩
end
end GN
namespace GN
open PySem PySem.Spec PyProof.Rows L2
/-! ### bits as the program has them -/
abbrev vB (b : Bool) : V := .int (b2n b : Nat)
def bl (B : List Bool) : List V := B.map vB
theorem bl_len (B : List Bool) : (bl B).length = B.length := List.length_map ..
theorem bl_get {B : List Bool} {i : Nat} (h : i < B.length) : (bl B)[i]? = some (vB (bAt B i)) := by
  unfold bl bAt
  rw [List.getElem?_map, List.getD_eq_getElem?_getD, List.getElem?_eq_getElem h]
  rfl
theorem bl_set (B : List Bool) (i : Nat) (b : Bool) : (bl B).set i (vB b) = bl (B.set i b) := by
  unfold bl
  rw [List.map_set]
theorem bl_at {B : List Bool} {i : Nat} (h : i < B.length) : atI (bl B) (i : Int) = some (vB (bAt B i)) := atI_nat (bl_get h)
theorem ixN_nat {n j : Nat} (h : j < n) : ixN n (j : Int) = some j := by
  unfold ixN
  rw [if_pos (by omega), if_pos (by omega)]
  simp
/-! ### places -/
theorem insK_put {l : List Str} {z : Str} (hz : z ∉ l) : putK (insK l) (Sum.inr z) (.int ((insK l).length : Nat)) = insK (l ++ [z]) := by
  rw [insK_snoc, insK_len]
  exact putK_new _ (isNone_of (by rw [valV_in]; exact decide_eq_false hz))
theorem val_pl {z : Str} : ∀ {l : List Str} (k : Nat), z ∈ l → valV ((l.zipIdx k).map fun q => ((Sum.inr q.1 : Key), V.int (q.2 : Nat))) (Sum.inr z) = some (.int ((k + l.idxOf z : Nat) : Nat))
  | a :: l, k, h => by
    rw [List.zipIdx_cons, List.map_cons]
    by_cases e : a = z
    · subst e
      rw [valV_pos rfl, List.idxOf_cons_self]
      rfl
    · rw [valV_neg (by simpa using e)]
      rcases List.mem_cons.mp h with q | q
      · exact absurd q.symm e
      · have eb : (a == z) = false := by simpa using e
        rw [val_pl (k + 1) q, List.idxOf_cons, eb]
        congr 2
        show ((k + 1 + l.idxOf z : Nat) : Int) = ((k + (l.idxOf z + 1) : Nat) : Int)
        omega
theorem insK_val {l : List Str} {z : Str} (h : z ∈ l) : valV (insK l) (Sum.inr z) = some (.int (pl l z : Nat)) := by
  have := val_pl (l := l) 0 h
  rw [Nat.zero_add] at this
  exact this
theorem pl_get_ {H : Hp} {d : Addr} {nms : List Str} {z : Str} (hd : H d = some (.dK (insK nms))) (h : z ∈ nms) : DGet H d (.str z) (some (.int (pl nms z : Nat))) := by
  have := DGet.k (k := Sum.inr z) hd
  rw [insK_val h] at this
  exact this
/-- what the top has written of Machine -/
structure TxtM (K : PySem.W.Frag) (mg : Str → Option Value) (CM : Addr) : Prop where
  cM : Cls K CM
  nB : NoAttr K CM "bits"
  nI : NoAttr K CM "input_places"
  nO : NoAttr K CM "output_places"
  nS : NoAttr K CM "steps"
  nM : NoAttr K CM "moves"
  gM : mg "Machine" = some (.ref CM)
  dict : mg "dict" = none
  enum : mg "enumerate" = none
  mSrcs : ∃ t, mg "MOST_SOURCES" = some (.int 3 t)
section
variable {P : Program} {w : World} {K : PySem.W.Frag} {mg : Str → Option Value} {base : Heap} {CF CG CN CM dk rg : Addr}
/-! ### place_names -/
def spPlace (CN CG : Addr) : Sp := fun vs H Q _ => ∃ (A : NAd) (p : PN) (tb : List GR), vs = [.ref A.a] ∧ NOk CN CG H A p tb ∧ (nmsP p).Nodup ∧ (nmsP p).length ≤ 1024 ∧
  ∀ (H' : Hp) (d : Addr), Same H H' → H d = none → H' d = some (.dK (insK (nmsP p))) → Q (.ref d) H'
theorem scPl : FnScope ["network", "places", "name"] ["network"] (defScope sPlace) := ⟨rfl, rfl, rfl, by decide +kernel, rfl, by decide +kernel, by decide +kernel⟩
theorem ok_place {f : Addr} {fd : FuncData} (F : Fun K "place_names" "place_names" sPlace f fd) (T : Txt K mg CF CG CN) (TM : TxtM K mg CM) : FnOk P w K mg base CX0 1 f fd ["network"] (spPlace CN CG) := by
  refine F.ok scPl (fun vs H Q E h => ?_) (fun cdv A outer s H vs Q E hr h => ?_)
  · obtain ⟨A, p, tb, rfl, _⟩ := h
    rfl
  · obtain ⟨A, p, tb, rfl, n, hnd, hlen, k⟩ := h
    refine ⟨_, pss_cons (ps_set (i := 1) scPl.nd rfl (.inl rfl) (pe_callTy call_dictD (by rfl) TM.dict (by decide +kernel) (pa_cons (pe_fld (pv 0) rfl) pa_nil)))
      (pss_cons (ps_lock (ps_for PassesOwn.never rfl (pi_keys (pe_fld (pv 0) rfl)) (pg_name (i := 2) scPl.nd rfl (.inl rfl)) (pss_one (ps_dput (hu_of hr) (pv 1) (pv 2) (pe_callB call_lenD (by rfl) T.len PySem.boot_len (pa_cons (pv 1) pa_nil)) rfl))))
      (pss_one (ps_ret (pv 1)))), ?_⟩
    refine ⟨_, rfl, A.a, CN, A.dx, _, _, rfl, n.ob, T.cN, T.nI, nF_in A, A.di, _, rfl, .inl n.ins, fun d hd => ?_⟩
    have s1 : Same H (upd H d (.dK (insK p.ins))) := Same.upd_own hd
    have n1 := n.same s1
    have hdd : (upd H d (.dK (insK p.ins))) d = some (.dK (insK p.ins)) := upd_same
    generalize upd H d (.dK (insK p.ins)) = H1 at s1 n1 hdd ⊢
    have dn : d ≠ A.dg := Ne.symm (ne_of_none n.gates hd)
    have gn_ : p.gn = nmsOf tb := n.gn
    refine ⟨A.dg, .dK (gatesK tb), n1.gates, trivial, fun od => ?_⟩
    have f1 : A.a ≠ A.dg := ne_of n1.ob n1.gates (by intro z; cases z)
    refine ⟨_, rfl, A.a, CN, A.dx, _, _, rfl, (by rw [upd_ne f1]; exact n1.ob), T.cN, T.nG, nF_gates A, A.dg, od, rfl, .inl ⟨gatesK tb, upd_same, for_it w_keys
      (fun i σ H' => ∃ v, σ = [some (.ref A.a), some (.ref d), v] ∧ H' A.dg = some (.frz od (.dK (gatesK tb))) ∧ H' d = some (.dK (insK (p.ins ++ (nmsOf tb).take i))) ∧ SameX A.dg H H') ?_ ?_ ?_ ?_⟩⟩
    · refine ⟨none, rfl, upd_same, ?_, fun b o e hb => ?_⟩
      · rw [upd_ne dn]
        simpa using hdd
      · rw [upd_ne hb]
        exact s1 b o e
    · rintro i σ H' _ ⟨v, rfl, hg, _⟩
      exact hg
    · rintro i x σ H2 H3 hi ⟨v, rfl, hg, hd2, hs⟩ ⟨rfl, kk, v', hk, rfl⟩
      obtain ⟨r, hri, rfl, rfl⟩ := gates_item hk
      have hnm := nms_item hri
      have hnew : r.pg.name ∉ p.ins ++ (nmsOf tb).take i := by
        intro hm
        have hnd' : (p.ins ++ nmsOf tb).Nodup := by rw [← gn_]; exact hnd
        rcases List.mem_append.mp hm with h | h
        · exact (List.nodup_append.mp hnd').2.2 _ h _ (List.mem_of_getElem? hnm) rfl
        · exact not_in_take (List.nodup_append.mp hnd').2.1 hnm h
      refine ⟨_, rfl, d, _, rfl, hd2, _, rfl, _, rfl, d, _, rfl, DPut.k (k := Sum.inr r.pg.name) hd2 ?_, ?_⟩
      · rw [insK_len, List.length_append]
        have h1 : ((nmsOf tb).take i).length ≤ (nmsOf tb).length := by rw [List.length_take]; exact Nat.min_le_right _ _
        have h2 : (nmsP p).length = p.ins.length + (nmsOf tb).length := by unfold nmsP; rw [List.length_append, gn_]
        exact Nat.lt_of_le_of_lt (show _ ≤ 1024 by omega) (by decide)
      · rw [insK_put hnew]
        refine ⟨_, rfl, ?_, ?_, fun b o e hb => ?_⟩
        · rw [upd_ne (Ne.symm dn)]
          exact hg
        · rw [upd_same, take_more hnm, List.append_assoc]
        · rw [upd_ne (ne_of_none e hd)]
          exact hs b o e hb
    · rintro σ H2 ⟨v, rfl, hg, hd2, hs⟩
      refine ⟨hg, _, rfl, k _ d (hs.unlock n.gates) hd ?_⟩
      rw [upd_ne dn, hd2]
      unfold nmsP
      rw [gn_, List.take_of_length_le (by simp)]
/-! ### first_bits -/
def spFirst (CN CG : Addr) : Sp := fun vs H Q _ => ∃ (A : NAd) (p : PN) (tb : List GR) (d : Addr), vs = [.ref A.a, .ref d] ∧ NOk CN CG H A p tb ∧ H d = some (.dK (insK (nmsP p))) ∧ d ≠ A.dg ∧ (nmsP p).length ≤ 1024 ∧
  ∀ (H' : Hp) (l : Addr), Same H H' → H l = none → H' l = some (.lst (bl (sets (nmsP p) (firstL p) (List.replicate ((nmsP p).length + 1) false)))) → Q (.ref l) H'
theorem scFi : FnScope ["network", "places", "bits", "name", "gate"] ["network", "places"] (defScope sFirst) := ⟨rfl, rfl, rfl, by decide +kernel, rfl, by decide +kernel, by decide +kernel⟩
theorem flat_rep (k : Nat) (v : V) : (List.replicate k [v]).flatten = List.replicate k v := by
  induction k with
  | zero => rfl
  | succ k ih => rw [List.replicate_succ, List.flatten_cons, ih]; rfl
theorem rep_bl (k : Nat) : List.replicate k (V.int 0) = bl (List.replicate k false) := by
  unfold bl
  rw [List.map_replicate]
  rfl
/-- the registers of some of the gates -/
def fstL (l : List PG) : List (Str × Bool) := (l.filter fun g => isRegS g.kind).map fun g => (g.name, decide (g.kind = kReg1))
theorem fstL_snoc (l : List PG) (g : PG) : fstL (l ++ [g]) = fstL l ++ if isRegS g.kind = true then [(g.name, decide (g.kind = kReg1))] else [] := by
  unfold fstL
  rw [List.filter_append, List.map_append]
  by_cases h : isRegS g.kind = true
  · rw [if_pos h]
    simp [h]
  · rw [if_neg h]
    simp [h]
theorem row_item {CN CG : Addr} {H : Hp} {A : NAd} {p : PN} {tb : List GR} {i : Nat} {r : GR} (n : NOk CN CG H A p tb) (h : tb[i]? = some r) : p.gates[i]? = some r.pg := by
  rw [n.row, List.getElem?_map, h]
  rfl
theorem rc_bit {z : Str} {c : Nat} (h : rc z = some c) : isRegS z = true ∧ V.int (c : Nat) = vB (decide (z = kReg1)) := by
  refine ⟨by rw [← rc_reg, h]; rfl, ?_⟩
  unfold rc at h
  by_cases h1 : z = kReg
  · rw [if_pos h1] at h
    cases h
    subst h1
    rw [show decide (kReg = kReg1) = false by decide +kernel]
    rfl
  · rw [if_neg h1] at h
    by_cases h2 : z = kReg1
    · rw [if_pos h2] at h
      cases h
      rw [decide_eq_true h2]
      rfl
    · rw [if_neg h2] at h
      cases h
theorem ok_first {f : Addr} {fd : FuncData} (F : Fun K "first_bits" "first_bits" sFirst f fd) (T : Txt K mg CF CG CN) (T2 : Txt2 K mg w dk rg) : FnOk P w K mg base CX0 1 f fd ["network", "places"] (spFirst CN CG) := by
  obtain ⟨es, en_, D⟩ := T2.dR
  refine F.ok scFi (fun vs H Q E h => ?_) (fun cdv A outer s H vs Q E hr h => ?_)
  · obtain ⟨A, p, tb, d, rfl, _⟩ := h
    rfl
  · obtain ⟨A, p, tb, d, rfl, n, hd, dn, hlen, k⟩ := h
    refine ⟨_, pss_cons (ps_set (i := 2) scFi.nd rfl (.inl rfl) (pe_op op_rep (pe_lst (pa_cons pe_int pa_nil)) (pe_op op_add (pe_callB call_lenD (by rfl) T.len PySem.boot_len (pa_cons (pv 1) pa_nil)) pe_int)))
      (pss_cons (ps_lock (ps_for PassesOwn.never rfl (pi_items (pe_fld (pv 0) rfl)) (pg_tup rfl (pgs_cons (pg_name (i := 3) scFi.nd rfl (.inl rfl)) (pgs_cons (pg_name (i := 4) scFi.nd rfl (.inl rfl)) pgs_nil)))
        (pss_one (ps_if (pt_cmpR (op_in_kd D) (pe_fld (pv 4) rfl) (pe_glob rfl T2.gR (v := .ref rg) rfl) (by rfl))
          (pss_one (ps_asg (pe_ix ix_kdict (pe_glob rfl T2.gR (v := .ref rg) rfl) (pe_fld (pv 4) rfl) (fun _ _ => rfl)) (pg_sub (pv 2) (pe_dget (hu_of hr) (pv 1) (pv 3) (fun _ _ => rfl)) set_list))) pss_nil))))
      (pss_one (ps_ret (pv 2)))), ?_⟩
    generalize hN : nmsP p = nms at *
    refine ⟨(by show 1 ≤ sizeLine; decide), fun l0 hl0 => ?_⟩
    have d0 : d ≠ l0 := ne_of_none hd hl0
    refine ⟨_, rfl, d, _, rfl, (by rw [upd_ne d0]; exact hd), _, _, rfl, rfl, l0, _, _, rfl, rfl, upd_same, ?_, ?_, ?_, fun l hl => ?_⟩
    · rw [insK_len]; omega
    · rw [insK_len]; omega
    · rw [insK_len]
      refine Nat.le_trans (m := 1025) ?_ (by decide)
      simp only [List.length_cons, List.length_nil]
      omega
    have hlist : (List.replicate ((((insK nms).length : Int) + 1).toNat) [V.int 0]).flatten = bl (List.replicate (nms.length + 1) false) := by
      rw [flat_rep, insK_len, show ((nms.length : Int) + 1).toNat = nms.length + 1 by omega, rep_bl]
    rw [hlist]
    obtain ⟨ll, hl'⟩ := upd_none hl
    have s1 : Same H (upd (upd H l0 (.lst [.int 0])) l (.lst (bl (List.replicate (nms.length + 1) false)))) := (Same.upd_own hl0).trans (Same.upd_own hl)
    have hll : (upd (upd H l0 (.lst [.int 0])) l (.lst (bl (List.replicate (nms.length + 1) false)))) l = some (.lst (bl (List.replicate (nms.length + 1) false))) := upd_same
    generalize upd (upd H l0 (.lst [.int 0])) l (.lst (bl (List.replicate (nms.length + 1) false))) = H1 at s1 hll ⊢
    have n1 := n.same s1
    have ldg : l ≠ A.dg := Ne.symm (ne_of_none n.gates hl')
    have f1 : A.a ≠ A.dg := ne_of n1.ob n1.gates (by intro z; cases z)
    refine ⟨A.dg, .dK (gatesK tb), n1.gates, trivial, fun od => ?_⟩
    refine ⟨_, rfl, A.a, CN, A.dx, _, _, rfl, (by rw [upd_ne f1]; exact n1.ob), T.cN, T.nG, nF_gates A, A.dg, od, gatesK tb, rfl, upd_same, for_it w_items
      (fun i σ H' => ∃ v3 v4, σ = [some (.ref A.a), some (.ref d), some (.ref l), v3, v4] ∧ H' A.dg = some (.frz od (.dK (gatesK tb))) ∧ H' l = some (.lst (bl (sets nms (fstL (p.gates.take i)) (List.replicate (nms.length + 1) false)))) ∧ SameX A.dg H H') ?_ ?_ ?_ ?_⟩
    · refine ⟨_, _, rfl, upd_same, ?_, fun b o e hb => ?_⟩
      · rw [upd_ne ldg]
        exact hll
      · rw [upd_ne hb]
        exact s1 b o e
    · rintro i σ H' _ ⟨_, _, rfl, hg, _⟩
      exact hg
    · rintro i x σ H2 H3 hi ⟨v3, v4, rfl, hg, hb, hs⟩ ⟨Tp, kk, v', hk, rfl, hTp, rfl⟩
      obtain ⟨r, hri, rfl, rfl⟩ := gates_item hk
      have hrm : r ∈ tb := List.mem_of_getElem? hri
      have hpg := row_item n hri
      have sT : Same H2 (upd H2 Tp (.tup [kV (Sum.inr r.pg.name), .ref r.ga])) := Same.upd_own hTp
      refine ⟨Tp, _, rfl, SqT.of upd_same, rfl, _, _, rfl, _, _, rfl, rfl, ?_⟩
      have g0 := n.each r hrm
      have gd : r.ga ≠ A.dg := ne_of g0.ob n.gates (by intro z; cases z)
      obtain ⟨q, hq1, hq2⟩ := T2.atR r.pg.kind
      have hgo := sT _ _ (hs _ _ g0.ob gd)
      refine ⟨_, rfl, r.ga, CG, r.dx, _, _, rfl, hgo, T.cG, T.nK, gF_kind _ _, r.pg.kind, q, rfl, rfl, hq1, _, rfl, ?_⟩
      have sX : SameX A.dg H (upd H2 Tp (.tup [kV (Sum.inr r.pg.name), .ref r.ga])) := hs.trans sT
      cases e : rc r.pg.kind with
      | none =>
        rw [e] at hq2
        subst hq2
        have er : isRegS r.pg.kind = false := by rw [← rc_reg, e]; rfl
        refine if_f rfl ⟨_, _, rfl, sT _ _ hg, ?_, sX⟩
        rw [sT _ _ hb, take_more hpg, fstL_snoc, if_neg (by rw [er]; exact Bool.false_ne_true), List.append_nil]
      | some c =>
        rw [e] at hq2
        obtain ⟨t, rfl⟩ := hq2
        obtain ⟨er, ev⟩ := rc_bit e
        have hnm : r.pg.name ∈ nms := by
          rw [← hN]
          exact List.mem_append_right _ (List.mem_map.mpr ⟨r.pg, List.mem_of_getElem? hpg, rfl⟩)
        have hd2 := sX _ _ hd dn
        refine if_t rfl ⟨_, rfl, r.ga, CG, r.dx, _, _, rfl, hgo, T.cG, T.nK, gF_kind _ _, rg, r.pg.kind, .int (c : Nat), rfl, rfl, ⟨es, en_, _, D.at_, D.lit, hq1, ⟨t, rfl⟩⟩, ?_⟩
        have hlt : pl nms r.pg.name < (bl (sets nms (fstL (p.gates.take i)) (List.replicate (nms.length + 1) false))).length := by
          rw [bl_len, sets_len, List.length_replicate]
          exact Nat.lt_succ_of_lt (pl_lt hnm)
        refine ⟨_, rfl, _, rfl, _, rfl, d, _, rfl, pl_get_ hd2 hnm, l, _, _, _, rfl, rfl, sT _ _ hb, ixN_nat hlt, ?_⟩
        refine ⟨_, _, rfl, ?_, ?_, fun b o e' hb' => ?_⟩
        · rw [upd_ne (Ne.symm ldg)]
          exact sT _ _ hg
        · rw [upd_same, take_more hpg, fstL_snoc, if_pos er, sets_snoc, ev, bl_set]
        · rw [upd_ne (ne_of_none e' hl')]
          exact sX b o e' hb'
    · rintro σ H2 ⟨v3, v4, rfl, hg, hb, hs⟩
      refine ⟨hg, _, rfl, k _ l (hs.unlock n.gates) hl' ?_⟩
      rw [upd_ne ldg, hb]
      have hl2 : tb.length = p.gates.length := by rw [n.row, List.length_map]
      rw [hl2, List.take_length]
      rfl
end
end GN
namespace GN
open PySem PySem.Spec PyProof.Rows L2
/-! ### the table of the kinds -/
def bitTbl : List (Str × List Bool) := [(kZero, [false]), (kOne, [true]), (kNot, [true, false]), (kBuf, [false, true]), (kAnd, [false, false, false, true]), (kOr, [false, true, true, true]), (kXor, [false, true, true, false]),
  (kNand, [true, true, true, false]), (kNor, [true, false, false, false]), (kXnor, [true, false, false, true]), (kMaj, [false, false, false, true, false, true, true, true]), (kMux, [false, true, false, true, false, false, true, true])]
theorem look_c {α : Type} (z a : Str) (b : α) (r : List (Str × α)) : List.lookup z ((a, b) :: r) = if z = a then some b else List.lookup z r := by
  by_cases h : z = a
  · subst h
    rw [if_pos rfl]
    simp [List.lookup]
  · have e : (z == a) = false := by simpa using h
    rw [if_neg h]
    simp only [List.lookup, e]
theorem tabK_tbl (z : Str) : tabK z = (bitTbl.lookup z).getD [] := by
  unfold tabK bitTbl
  simp only [look_c, List.lookup_nil, apply_ite (fun o : Option (List Bool) => o.getD []), Option.getD_some, Option.getD_none]
structure TxtB (K : PySem.W.Frag) (mg : Str → Option Value) (w : World) (db : Addr) : Prop where
  gB : mg "BITS_OF_KIND" = some (.ref db)
  dB : ∃ es n, KDict K w db es n
  at_ : ∀ (z : Str) (l : List Bool), bitTbl.lookup z = some l → ∃ a, PySem.W.nsIn K db z = some (some (.ref a)) ∧ ∀ H : Hp, SqT K H a (bl l)
/-- the kinds of gates that are no registers have a table -/
def PKind (p : PN) : Prop := ∀ g ∈ p.gates, isRegS g.kind = false → ∃ l, bitTbl.lookup g.kind = some l
theorem kind_enc (n : Sf33.Net) : PKind (encN n) := by
  intro g hg hr
  obtain ⟨k, hk, rfl⟩ := List.mem_map.mp hg
  have hr' : isRegS (kw k.kind) = false := hr
  rw [isReg_kw] at hr'
  show ∃ l, bitTbl.lookup (kw k.kind) = some l
  cases h : k.kind with
  | reg b => rw [h] at hr'; cases hr'
  | _ => exact Option.isSome_iff_exists.mp (by decide +kernel)
/-! ### steps and moves in the heap -/
structure SR where
  pg : PG
  t : Addr
  kt : Addr
def stT (nms : List Str) (q : SR) : List V := [.int (pl nms q.pg.name : Nat), .ref q.kt, .int ((sidx nms q.pg).getD 0 0 : Nat), .int ((sidx nms q.pg).getD 1 0 : Nat), .int ((sidx nms q.pg).getD 2 0 : Nat)]
structure StAt (K : PySem.W.Frag) (H : Hp) (nms : List Str) (q : SR) : Prop where
  tup : H q.t = some (.tup (stT nms q))
  tab : ∀ H : Hp, SqT K H q.kt (bl (tabK q.pg.kind))
theorem StAt.same {K : PySem.W.Frag} {H H' : Hp} {nms : List Str} {q : SR} (a : StAt K H nms q) (s : Same H H') : StAt K H' nms q := ⟨s _ _ a.tup, a.tab⟩
theorem rowOf_snoc {p : PN} {l : List Str} {z : Str} {g : PG} (h : p.gates.find? (fun g => decide (g.name = z)) = some g) : rowOf p (l ++ [z]) = rowOf p l ++ if isRegS g.kind = true then [] else [g] := by
  unfold rowOf
  rw [List.filterMap_append]
  congr 1
  rw [List.filterMap_cons, h]
  cases e : isRegS g.kind <;> simp [e, Option.filter]
section
variable {P : Program} {w : World} {K : PySem.W.Frag} {mg : Str → Option Value} {base : Heap} {CF CG CN CM dk rg db : Addr}
/-! ### list_steps -/
def spSteps (K : PySem.W.Frag) (CN CG : Addr) : Sp := fun vs H Q _ => ∃ (A : NAd) (p : PN) (tb : List GR) (d : Addr), vs = [.ref A.a, .ref d] ∧ NOk CN CG H A p tb ∧ H d = some (.dK (insK (nmsP p))) ∧ p.gn.Nodup ∧ (nmsP p).length ≤ 1024 ∧ PFew p ∧
  (∀ g ∈ p.gates, ∀ s ∈ g.src, s ∈ nmsP p) ∧ PKind p ∧
  ∀ (H' : Hp) (l : Addr) (order : List Str) (wf : Str → Nat) (sts : List SR), Same H H' → H l = none → KInv p.gn p.aw order [] wf [] → sts.map SR.pg = rowOf p order → H' l = some (.lst (sts.map fun q => V.ref q.t)) →
    (∀ q ∈ sts, StAt K H' (nmsP p) q) → Q (.ref l) H'
abbrev stN : List Str := ["network", "places", "steps", "name", "gate", "sources", "source"]
theorem scSt : FnScope stN ["network", "places"] (defScope sSteps) := ⟨rfl, rfl, rfl, by decide +kernel, rfl, by decide +kernel, by decide +kernel⟩
theorem sidx_vals {nms : List Str} {g : PG} (hg : g.src.length ≤ 3) : (List.replicate (((3 : Int) - ((g.src.map V.str).length : Int)).toNat) [V.int ((insK nms).length : Nat)]).flatten ++ g.src.map (fun s => V.int (pl nms s : Nat)) = (sidx nms g).map fun i : Nat => V.int (i : Nat) := by
  rw [flat_rep, insK_len, List.length_map, show ((3 : Int) - (g.src.length : Int)).toNat = 3 - g.src.length by omega]
  unfold sidx
  rw [List.map_append, List.map_replicate, List.map_map]
  rfl
theorem sidx_at {nms : List Str} {g : PG} (hg : g.src.length ≤ 3) {j : Nat} (hj : j < 3) : ((sidx nms g).map fun i : Nat => V.int (i : Nat))[j]? = some (.int ((sidx nms g).getD j 0 : Nat)) := by
  have hl := sidx_len (nms := nms) hg
  rw [List.getElem?_map, List.getD_eq_getElem?_getD, List.getElem?_eq_getElem (show j < (sidx nms g).length by omega)]
  rfl
theorem ok_steps {f fO : Addr} {fd fdO : FuncData} (F : Fun K "list_steps" "list_steps" sSteps f fd) (T : Txt K mg CF CG CN) (T2 : Txt2 K mg w dk rg) (TM : TxtM K mg CM) (TB : TxtB K mg w db)
    (GO : FnOk P w K mg base CX0 2 fO fdO ["gates"] (spOrder CG)) (kO : PySem.W.keepIn K (.ref fO) = true) (bO : Binds K fdO ["gates"] []) (mO : mg "order_gates" = some (.ref fO)) :
    FnOk P w K mg base CX0 3 f fd ["network", "places"] (spSteps K CN CG) := by
  obtain ⟨es, en_, D⟩ := T2.dR
  obtain ⟨esB, enB, DB⟩ := TB.dB
  obtain ⟨t3, m3⟩ := TM.mSrcs
  refine F.ok scSt (fun vs H Q E h => ?_) (fun cdv A outer s H vs Q E hr h => ?_)
  · obtain ⟨A, p, tb, d, rfl, _⟩ := h
    rfl
  · obtain ⟨A, p, tb, d, rfl, n, hd, hnd, hlen, hfew, hsrc, hkind, k⟩ := h
    refine ⟨_, pss_cons (ps_set (i := 2) scSt.nd rfl (.inl rfl) (pe_lst pa_nil))
      (pss_cons (ps_for PassesOwn.never rfl (pi_list (pe_call GO hr rfl mO kO bO .nil pass0 (pa_cons (pe_fld (pv 0) rfl) pa_nil))) (pg_name (i := 3) scSt.nd rfl (.inl rfl))
        (pss_cons (ps_set (i := 4) scSt.nd rfl (.inl rfl) (pe_dget (hu_of hr) (pe_fld (pv 0) rfl) (pv 3) (fun _ _ => rfl)))
        (pss_one (ps_if (pt_cmpR (op_notIn_kd D) (pe_fld (pv 4) rfl) (pe_glob rfl T2.gR (v := .ref rg) rfl) (by rfl))
          (pss_cons (ps_set (i := 5) scSt.nd rfl (.inl rfl) (pe_op op_rep (pe_lst (pa_cons (pe_callB call_lenD (by rfl) T.len PySem.boot_len (pa_cons (pv 1) pa_nil)) pa_nil))
            (pe_op op_sub (pe_glob rfl m3 (v := .int 3) ⟨_, rfl⟩) (pe_callB call_len_seq (by rfl) T.len PySem.boot_len (pa_cons (pe_fld (pv 4) rfl) pa_nil)))))
          (pss_cons (ps_expr (pe_bm PySem.F.plainAttrs_list PySem.F.slot_list_extend PySem.F.type_list_extend mt_extend (pv 5) (pa_cons (pe_lc (own := [("source", 6)]) (g := gName 6) (tt := tYes) (by rfl) scSt.nd (pi_list (pe_fld (pv 4) rfl))
            (blkOk_by (own := [("source", 6)]) (N := stN) (sc := defScope sSteps) (by decide +kernel)) (fun _ _ _ _ _ => pg_name (i := 6) scSt.nd rfl (Or.inl rfl)) (fun _ _ _ _ _ => pts_nil)
            (fun _ _ _ _ _ => pe_dget (hu_of hr) (pv 1) (pv 6) (fun _ _ => rfl))) pa_nil)))
          (pss_one (ps_expr (pe_bm PySem.F.plainAttrs_list PySem.F.slot_list_append PySem.F.type_list_append mt_append (pv 2) (pa_cons (pe_tup (pa_cons (pe_dget (hu_of hr) (pv 1) (pv 3) (fun _ _ => rfl))
            (pa_cons (pe_ix ix_kdict (pe_glob rfl TB.gB (v := .ref db) rfl) (pe_fld (pv 4) rfl) (fun _ _ => rfl)) (pa_cons (pe_ix ix_list (pv 5) pe_int (fun _ _ => rfl)) (pa_cons (pe_ix ix_list (pv 5) pe_int (fun _ _ => rfl))
            (pa_cons (pe_ix ix_list (pv 5) pe_int (fun _ _ => rfl)) pa_nil)))))) pa_nil)))))) pss_nil))))
      (pss_one (ps_ret (pv 2)))), ?_⟩
    have gn_ : p.gn = nmsOf tb := n.gn
    have hgl : p.gates.length ≤ 1024 := by
      have h1 : (nmsP p).length = p.ins.length + p.gn.length := by unfold nmsP; rw [List.length_append]
      have h2 : p.gn.length = p.gates.length := by unfold PN.gn; rw [List.length_map]
      omega
    have htl : tb.length = p.gates.length := by rw [n.row, List.length_map]
    have pgm : ∀ r ∈ tb, r.pg ∈ p.gates := fun r h => by rw [n.row]; exact List.mem_map.mpr ⟨r, h, rfl⟩
    have hndt : (nmsOf tb).Nodup := by rw [← gn_]; exact hnd
    -- steps = []
    refine ⟨(by show 0 ≤ sizeLine; decide), fun l hl => ?_⟩
    have s0 : Same H (upd H l (.lst [])) := Same.upd_own hl
    have hl0 : (upd H l (.lst [])) l = some (.lst []) := upd_same
    generalize upd H l (.lst []) = H0 at s0 hl0 ⊢
    have n0 := n.same s0
    -- for name in order_gates(network.gates)
    refine ⟨_, rfl, A.a, CN, A.dx, _, _, rfl, n0.ob, T.cN, T.nG, nF_gates A, A.dg, tb, p.aw, rfl, n0.gates, n0.each, hndt, (by omega), (fun r h => hfew r.pg (pgm r h)), n.aw hnd, fun H1 lo order wf s1 hlo0 hlo kI => ?_⟩
    rw [← gn_] at kI
    refine ⟨lo, rfl, ⟨_, SqL.of hlo⟩, for_list (K := K) (a := lo) (xs := order.map V.str)
      (fun i σ H' => ∃ (v3 v4 v5 v6 : Option V) (sts : List SR), σ = [some (.ref A.a), some (.ref d), some (.ref l), v3, v4, v5, v6] ∧ sts.map SR.pg = rowOf p (order.take i) ∧ sts.length ≤ i ∧ H' l = some (.lst (sts.map fun q => V.ref q.t)) ∧ (∀ q ∈ sts, StAt K H' (nmsP p) q) ∧
        H' lo = some (.lst (order.map V.str)) ∧ lo ≠ l ∧ Same H H') ?_ ?_ ?_ ?_⟩
    · refine ⟨_, _, _, _, [], rfl, rfl, Nat.le_refl _, s1 _ _ hl0, (fun q h => by cases h), hlo, Ne.symm (ne_of_none hl0 hlo0), s0.trans s1⟩
    · rintro i σ H' _ ⟨_, _, _, _, sts, rfl, _, _, _, _, hlo', _⟩
      exact SqL.of hlo'
    · rintro i x σ H2 hi ⟨v3, v4, v5, v6, sts, rfl, hst, hsl, hl2, hq2, hlo2, hne, s2⟩
      obtain ⟨z, hz, rfl⟩ := str_item hi
      have hil : i < order.length := (List.getElem?_eq_some_iff.mp hz).1
      have hom := kI.most
      have hgn : p.gn.length = p.gates.length := by unfold PN.gn; rw [List.length_map]
      have hzg : z ∈ nmsOf tb := by rw [← gn_]; exact kI.sub z (by rw [List.append_nil]; exact List.mem_of_getElem? hz)
      obtain ⟨r, hrm, rfl⟩ := List.mem_map.mp hzg
      have hfind := find_pg' (show (p.gates.map PG.name).Nodup from hnd) (pgm r hrm)
      have n2 := n.same s2
      have g2 := n2.each r hrm
      have hd2 := s2 _ _ hd
      have hsr : r.pg.src.length ≤ 3 := hfew r.pg (pgm r hrm)
      have hro : rowOf p (order.take (i + 1)) = rowOf p (order.take i) ++ if isRegS r.pg.kind = true then [] else [r.pg] := by
        rw [take_more hz]
        exact rowOf_snoc hfind
      -- gate = network.gates[name]
      have hget : DGet H2 A.dg (.str r.pg.name) (some (.ref r.ga)) := by
        have := DGet.k (k := Sum.inr r.pg.name) n2.gates
        rw [gates_val hndt hrm] at this
        exact this
      refine ⟨_, rfl, A.a, CN, A.dx, _, _, rfl, n2.ob, T.cN, T.nG, nF_gates A, _, rfl, A.dg, _, rfl, hget, ?_⟩
      obtain ⟨q, hq1, hq2'⟩ := T2.atR r.pg.kind
      refine ⟨_, rfl, r.ga, CG, r.dx, _, _, rfl, g2.ob, T.cG, T.nK, gF_kind _ _, r.pg.kind, q, rfl, rfl, hq1, _, rfl, ?_⟩
      cases e : rc r.pg.kind with
      | some c =>
        rw [e] at hq2'
        obtain ⟨t, rfl⟩ := hq2'
        rw [if_pos (rc_bit e).1, List.append_nil] at hro
        exact if_f rfl ⟨_, _, _, _, sts, rfl, hst.trans hro.symm, Nat.le_succ_of_le hsl, hl2, hq2, hlo2, hne, s2⟩
      | none =>
        rw [e] at hq2'
        subst hq2'
        have er : isRegS r.pg.kind = false := by rw [← rc_reg, e]; rfl
        rw [if_neg (by rw [er]; exact Bool.false_ne_true)] at hro
        refine if_t rfl ?_
        -- sources = [len(places)] * (MOST_SOURCES - len(gate.sources))
        refine ⟨_, rfl, d, _, rfl, hd2, (by show 1 ≤ sizeLine; decide), fun l0 hl0' => ?_⟩
        have sA : Same H2 (upd H2 l0 (.lst [.int ((insK (nmsP p)).length : Nat)])) := Same.upd_own hl0'
        refine ⟨_, rfl, r.ga, CG, r.dx, _, _, rfl, sA _ _ g2.ob, T.cG, T.nS, gF_src _ _, r.sa, _, rfl, .inl (SqL.of (sA _ _ g2.src)), _, _, rfl, rfl, l0, _, _, rfl, rfl, upd_same, ?_, ?_, ?_, fun ls hls => ?_⟩
        · rw [List.length_map]; omega
        · rw [List.length_map]; omega
        · rw [List.length_map]
          refine Nat.le_trans (m := 3) ?_ (by decide)
          simp only [List.length_cons, List.length_nil]
          omega
        have sB := sA.trans (Same.upd_own (o := .lst (List.replicate (((3 : Int) - ((r.pg.src.map V.str).length : Int)).toNat) [V.int ((insK (nmsP p)).length : Nat)]).flatten) hls)
        have hls2 : H2 ls = none := (upd_none hls).2
        have hB : (upd (upd H2 l0 (.lst [.int ((insK (nmsP p)).length : Nat)])) ls (.lst (List.replicate (((3 : Int) - ((r.pg.src.map V.str).length : Int)).toNat) [V.int ((insK (nmsP p)).length : Nat)]).flatten)) ls = some (.lst (List.replicate (((3 : Int) - ((r.pg.src.map V.str).length : Int)).toNat) [V.int ((insK (nmsP p)).length : Nat)]).flatten) := upd_same
        generalize (upd (upd H2 l0 (.lst [.int ((insK (nmsP p)).length : Nat)])) ls (.lst (List.replicate (((3 : Int) - ((r.pg.src.map V.str).length : Int)).toNat) [V.int ((insK (nmsP p)).length : Nat)]).flatten)) = HB at sB hB ⊢
        -- sources.extend([places[source] for source in gate.sources])
        refine ⟨_, rfl, .inl ⟨rfl, _, SqL.of hB⟩, _, rfl, r.ga, CG, r.dx, _, _, rfl, sB _ _ g2.ob, T.cG, T.nS, gF_src _ _, r.sa, rfl, ⟨_, SqL.of (sB _ _ g2.src)⟩, fun Dl hDl => lc_list (K := K) (a := r.sa) (xs := r.pg.src.map V.str)
          (fun j H' => Same HB H' ∧ H' Dl = some (.lst ((r.pg.src.take j).map fun s => V.int (pl (nmsP p) s : Nat)))) ?_ ?_ ?_ ?_⟩
        · exact ⟨Same.upd_own hDl, upd_same⟩
        · rintro j H' _ ⟨s3, _⟩
          exact SqL.of (s3 _ _ (sB _ _ g2.src))
        · rintro j x H' hj ⟨s3, h3⟩
          obtain ⟨y, hy, rfl⟩ := str_item hj
          have hym : y ∈ nmsP p := hsrc r.pg (pgm r hrm) y (List.mem_of_getElem? hy)
          refine ⟨rfl, _, rfl, _, rfl, d, _, rfl, pl_get_ (s3 _ _ (sB _ _ hd2)) hym, _, h3, ?_, Same.upd_new s3 hDl, ?_⟩
          · rw [List.length_map, List.length_take]
            exact Nat.lt_of_le_of_lt (show _ ≤ 3 by omega) (by decide)
          · rw [upd_same, take_more hy, List.map_append]
            rfl
        · rintro HC ⟨s3, h3⟩
          rw [List.length_map, List.take_length] at h3
          refine ⟨ls, Dl, _, _, rfl, rfl, s3 _ _ hB, h3, ?_, ?_⟩
          · have h1 := congrArg List.length (sidx_vals (nms := nmsP p) hsr)
            rw [List.length_append, List.length_map (as := sidx (nmsP p) r.pg), sidx_len hsr] at h1
            rw [h1]
            decide
          rw [sidx_vals hsr]
          have sC : Same H2 HC := sB.trans s3
          have sD : Same H2 (upd HC ls (.lst ((sidx (nmsP p) r.pg).map fun i : Nat => V.int (i : Nat)))) := Same.upd_new sC hls2
          have hD : (upd HC ls (.lst ((sidx (nmsP p) r.pg).map fun i : Nat => V.int (i : Nat)))) ls = some (.lst ((sidx (nmsP p) r.pg).map fun i : Nat => V.int (i : Nat))) := upd_same
          generalize (upd HC ls (.lst ((sidx (nmsP p) r.pg).map fun i : Nat => V.int (i : Nat)))) = HD at sD hD ⊢
          -- steps.append((places[name], BITS_OF_KIND[gate.kind], sources[0], sources[1], sources[2]))
          obtain ⟨lt, hlt⟩ := hkind r.pg (pgm r hrm) er
          obtain ⟨kt, hkt, htab⟩ := TB.at_ r.pg.kind lt hlt
          have etab : tabK r.pg.kind = lt := by rw [tabK_tbl, hlt]; rfl
          have hznm : r.pg.name ∈ nmsP p := List.mem_append_right _ (by rw [gn_]; exact hzg)
          refine ⟨_, rfl, .inl ⟨rfl, _, SqL.of (sD _ _ hl2)⟩, _, rfl, _, rfl, d, _, rfl, pl_get_ (sD _ _ hd2) hznm, _, rfl, r.ga, CG, r.dx, _, _, rfl, sD _ _ g2.ob, T.cG, T.nK, gF_kind _ _, db, r.pg.kind, .ref kt, rfl, rfl, ⟨esB, enB, _, DB.at_, DB.lit, hkt, rfl⟩,
            _, rfl, ls, _, _, _, rfl, rfl, SqL.of hD, atI_nat (j := 0) (sidx_at hsr (by decide)), _, rfl, ls, _, _, _, rfl, rfl, SqL.of hD, atI_nat (j := 1) (sidx_at hsr (by decide)), _, rfl, ls, _, _, _, rfl, rfl, SqL.of hD, atI_nat (j := 2) (sidx_at hsr (by decide)),
            (by show 5 ≤ sizeLine; decide), fun t ht => ?_⟩
          have sE := sD.trans (Same.upd_own (o := .tup (stT (nmsP p) ⟨r.pg, t, kt⟩)) ht)
          have hE : (upd HD t (.tup (stT (nmsP p) ⟨r.pg, t, kt⟩))) t = some (.tup (stT (nmsP p) ⟨r.pg, t, kt⟩)) := upd_same
          have htl2 : t ≠ l := Ne.symm (ne_of_none (sD _ _ hl2) ht)
          refine ⟨l, _, _, rfl, rfl, sE _ _ hl2, ?_, ?_⟩
          · rw [List.length_map]
            exact Nat.lt_of_le_of_lt (show sts.length ≤ 1024 by simp only [List.length_nil] at hom; omega) (by decide)
          · refine ⟨_, _, _, _, sts ++ [⟨r.pg, t, kt⟩], rfl, ?_, ?_, ?_, fun q hq => ?_, ?_, hne, ?_⟩
            · rw [List.map_append, hst, hro]
              rfl
            · rw [List.length_append]
              exact Nat.succ_le_succ hsl
            · rw [upd_same, List.map_append]
              rfl
            · rcases List.mem_append.mp hq with h | h
              · refine ⟨?_, (hq2 q h).tab⟩
                rw [upd_ne (ne_of (hq2 q h).tup hl2 (by intro z; cases z))]
                exact sE _ _ (hq2 q h).tup
              · rw [List.mem_singleton.mp h]
                refine ⟨?_, fun H' => ?_⟩
                · rw [upd_ne htl2]
                  exact hE
                · show SqT K H' kt (bl (tabK r.pg.kind))
                  rw [etab]
                  exact htab H'
            · rw [upd_ne hne]
              exact sE _ _ hlo2
            · exact Same.upd_new (s2.trans sE) hl
    · rintro σ H2 ⟨v3, v4, v5, v6, sts, rfl, hst, hsl, hl2, hq2, hlo2, hne, s2⟩
      rw [List.length_map, List.take_length] at hst
      exact ⟨_, rfl, k H2 l order wf sts s2 hl kI hst hl2 hq2⟩
/-! ### list_moves -/
structure MR where
  pg : PG
  t : Addr
def mvT (nms : List Str) (q : MR) : List V := [.int (pl nms q.pg.name : Nat), .int (pl nms (src0 q.pg) : Nat)]
def spMoves (CN CG : Addr) : Sp := fun vs H Q _ => ∃ (A : NAd) (p : PN) (tb : List GR) (d : Addr), vs = [.ref A.a, .ref d] ∧ NOk CN CG H A p tb ∧ H d = some (.dK (insK (nmsP p))) ∧ d ≠ A.dg ∧ (nmsP p).length ≤ 1024 ∧
  (∀ g ∈ p.gates, ∀ s ∈ g.src, s ∈ nmsP p) ∧ (∀ g ∈ p.gates, isRegS g.kind = true → g.src ≠ []) ∧
  ∀ (H' : Hp) (l : Addr) (mvs : List MR), Same H H' → H l = none → mvs.map MR.pg = regsP p → H' l = some (.lst (mvs.map fun q => V.ref q.t)) → (∀ q ∈ mvs, H' q.t = some (.tup (mvT (nmsP p) q))) → Q (.ref l) H'
theorem scMv : FnScope ["network", "places", "moves", "name", "gate"] ["network", "places"] (defScope sMoves) := ⟨rfl, rfl, rfl, by decide +kernel, rfl, by decide +kernel, by decide +kernel⟩
theorem ok_moves {f : Addr} {fd : FuncData} (F : Fun K "list_moves" "list_moves" sMoves f fd) (T : Txt K mg CF CG CN) (T2 : Txt2 K mg w dk rg) : FnOk P w K mg base CX0 1 f fd ["network", "places"] (spMoves CN CG) := by
  obtain ⟨es, en_, D⟩ := T2.dR
  refine F.ok scMv (fun vs H Q E h => ?_) (fun cdv A outer s H vs Q E hr h => ?_)
  · obtain ⟨A, p, tb, d, rfl, _⟩ := h
    rfl
  · obtain ⟨A, p, tb, d, rfl, n, hd, dn, hlen, hsrc, hne, k⟩ := h
    refine ⟨_, pss_cons (ps_set (i := 2) scMv.nd rfl (.inl rfl) (pe_lst pa_nil))
      (pss_cons (ps_lock (ps_for PassesOwn.never rfl (pi_items (pe_fld (pv 0) rfl)) (pg_tup rfl (pgs_cons (pg_name (i := 3) scMv.nd rfl (.inl rfl)) (pgs_cons (pg_name (i := 4) scMv.nd rfl (.inl rfl)) pgs_nil)))
        (pss_one (ps_if (pt_cmpR (op_in_kd D) (pe_fld (pv 4) rfl) (pe_glob rfl T2.gR (v := .ref rg) rfl) (by rfl))
          (pss_one (ps_expr (pe_bm PySem.F.plainAttrs_list PySem.F.slot_list_append PySem.F.type_list_append mt_append (pv 2) (pa_cons (pe_tup (pa_cons (pe_dget (hu_of hr) (pv 1) (pv 3) (fun _ _ => rfl))
            (pa_cons (pe_dget (hu_of hr) (pv 1) (pe_ix ix_list (pe_fld (pv 4) rfl) pe_int (fun _ _ => rfl)) (fun _ _ => rfl)) pa_nil))) pa_nil)))) pss_nil))))
      (pss_one (ps_ret (pv 2)))), ?_⟩
    generalize hN : nmsP p = nms at *
    refine ⟨(by show 0 ≤ sizeLine; decide), fun l hl => ?_⟩
    have s1 : Same H (upd H l (.lst [])) := Same.upd_own hl
    have hll : (upd H l (.lst [])) l = some (.lst []) := upd_same
    generalize upd H l (.lst []) = H1 at s1 hll ⊢
    have n1 := n.same s1
    have ldg : l ≠ A.dg := Ne.symm (ne_of_none n.gates hl)
    have f1 : A.a ≠ A.dg := ne_of n1.ob n1.gates (by intro z; cases z)
    have hgl : tb.length ≤ 1024 := by
      have h1 : nms.length = p.ins.length + p.gn.length := by rw [← hN]; unfold nmsP; rw [List.length_append]
      have h2 : p.gn.length = p.gates.length := by unfold PN.gn; rw [List.length_map]
      have h3 : tb.length = p.gates.length := by rw [n.row, List.length_map]
      omega
    refine ⟨A.dg, .dK (gatesK tb), n1.gates, trivial, fun od => ?_⟩
    refine ⟨_, rfl, A.a, CN, A.dx, _, _, rfl, (by rw [upd_ne f1]; exact n1.ob), T.cN, T.nG, nF_gates A, A.dg, od, gatesK tb, rfl, upd_same, for_it w_items
      (fun i σ H' => ∃ (v3 v4 : Option V) (mvs : List MR), σ = [some (.ref A.a), some (.ref d), some (.ref l), v3, v4] ∧ mvs.map MR.pg = (p.gates.take i).filter (fun g => isRegS g.kind) ∧ mvs.length ≤ i ∧ H' A.dg = some (.frz od (.dK (gatesK tb))) ∧
        H' l = some (.lst (mvs.map fun q => V.ref q.t)) ∧ (∀ q ∈ mvs, H' q.t = some (.tup (mvT nms q))) ∧ SameX A.dg H H') ?_ ?_ ?_ ?_⟩
    · refine ⟨_, _, [], rfl, rfl, Nat.le_refl _, upd_same, ?_, (fun q h => by cases h), fun b o e hb => ?_⟩
      · rw [upd_ne ldg]
        exact hll
      · rw [upd_ne hb]
        exact s1 b o e
    · rintro i σ H' _ ⟨_, _, _, rfl, _, _, hg, _⟩
      exact hg
    · rintro i x σ H2 H3 hi ⟨v3, v4, mvs, rfl, hmv, hml, hg, hl2, hq2, hs⟩ ⟨Tp, kk, v', hk, rfl, hTp, rfl⟩
      obtain ⟨r, hri, rfl, rfl⟩ := gates_item hk
      have hrm : r ∈ tb := List.mem_of_getElem? hri
      have hpg := row_item n hri
      have sT : Same H2 (upd H2 Tp (.tup [kV (Sum.inr r.pg.name), .ref r.ga])) := Same.upd_own hTp
      refine ⟨Tp, _, rfl, SqT.of upd_same, rfl, _, _, rfl, _, _, rfl, rfl, ?_⟩
      have g0 := n.each r hrm
      have gd : r.ga ≠ A.dg := ne_of g0.ob n.gates (by intro z; cases z)
      have gs_ : r.sa ≠ A.dg := ne_of g0.src n.gates (by intro z; cases z)
      obtain ⟨q, hq1, hq3⟩ := T2.atR r.pg.kind
      have hgo := sT _ _ (hs _ _ g0.ob gd)
      have hgs := sT _ _ (hs _ _ g0.src gs_)
      refine ⟨_, rfl, r.ga, CG, r.dx, _, _, rfl, hgo, T.cG, T.nK, gF_kind _ _, r.pg.kind, q, rfl, rfl, hq1, _, rfl, ?_⟩
      have sX : SameX A.dg H (upd H2 Tp (.tup [kV (Sum.inr r.pg.name), .ref r.ga])) := hs.trans sT
      cases e : rc r.pg.kind with
      | none =>
        rw [e] at hq3
        subst hq3
        have er : isRegS r.pg.kind = false := by rw [← rc_reg, e]; rfl
        refine if_f rfl ⟨_, _, mvs, rfl, ?_, Nat.le_succ_of_le hml, sT _ _ hg, sT _ _ hl2, fun q h => sT _ _ (hq2 q h), sX⟩
        rw [hmv, take_more hpg, List.filter_append]
        simp [er]
      | some c =>
        rw [e] at hq3
        obtain ⟨t, rfl⟩ := hq3
        have er := (rc_bit e).1
        have hpm : r.pg ∈ p.gates := List.mem_of_getElem? hpg
        have hnm : r.pg.name ∈ nms := by
          rw [← hN]
          exact List.mem_append_right _ (List.mem_map.mpr ⟨r.pg, hpm, rfl⟩)
        have hd2 := sX _ _ hd dn
        obtain ⟨s0, rest, es0⟩ : ∃ s0 rest, r.pg.src = s0 :: rest := List.exists_cons_of_ne_nil (hne r.pg hpm er)
        have es1 : src0 r.pg = s0 := by unfold src0; rw [es0]; rfl
        have hs0 : s0 ∈ nms := hsrc r.pg hpm s0 (by rw [es0]; exact List.mem_cons_self)
        refine if_t rfl ⟨_, rfl, .inl ⟨rfl, _, SqL.of (sT _ _ hl2)⟩, _, rfl, _, rfl, d, _, rfl, pl_get_ hd2 hnm, _, rfl, _, rfl, r.ga, CG, r.dx, _, _, rfl, hgo, T.cG, T.nS, gF_src _ _, r.sa, _, _, _, rfl, rfl, SqL.of hgs, atI_nat (j := 0) (by rw [es0]; rfl),
          d, _, rfl, pl_get_ hd2 hs0, (by show 2 ≤ sizeLine; decide), fun t' ht' => ?_⟩
        have eT : [V.int (pl nms r.pg.name : Nat), V.int (pl nms s0 : Nat)] = mvT nms ⟨r.pg, t'⟩ := by unfold mvT; rw [es1]
        rw [eT]
        have sE := sT.trans (Same.upd_own (o := .tup (mvT nms ⟨r.pg, t'⟩)) ht')
        have hE : (upd (upd H2 Tp (.tup [kV (Sum.inr r.pg.name), .ref r.ga])) t' (.tup (mvT nms ⟨r.pg, t'⟩))) t' = some (.tup (mvT nms ⟨r.pg, t'⟩)) := upd_same
        have htl2 : t' ≠ l := Ne.symm (ne_of_none (sT _ _ hl2) ht')
        refine ⟨l, _, _, rfl, rfl, sE _ _ hl2, ?_, ?_⟩
        · rw [List.length_map]
          exact Nat.lt_of_le_of_lt (show mvs.length ≤ 1024 by omega) (by decide)
        · refine ⟨_, _, mvs ++ [⟨r.pg, t'⟩], rfl, ?_, ?_, ?_, ?_, fun q hq => ?_, fun b o e' hb' => ?_⟩
          · rw [List.map_append, hmv, take_more hpg, List.filter_append]
            simp [er]
          · rw [List.length_append]
            exact Nat.succ_le_succ hml
          · rw [upd_ne (Ne.symm ldg)]
            exact sE _ _ hg
          · rw [upd_same, List.map_append]
            rfl
          · rcases List.mem_append.mp hq with h | h
            · rw [upd_ne (ne_of (hq2 q h) hl2 (by intro z; cases z))]
              exact sE _ _ (hq2 q h)
            · rw [List.mem_singleton.mp h, upd_ne htl2]
              exact hE
          · rw [upd_ne (ne_of_none e' hl)]
            exact (hs.trans sE) b o e' hb'
    · rintro σ H2 ⟨v3, v4, mvs, rfl, hmv, hml, hg, hl2, hq2, hs⟩
      have hl3 : tb.length = p.gates.length := by rw [n.row, List.length_map]
      rw [hl3, List.take_length] at hmv
      refine ⟨hg, _, rfl, k _ l mvs (hs.unlock n.gates) hl hmv (by rw [upd_ne ldg]; exact hl2) fun q h => ?_⟩
      rw [upd_ne ?_]
      · exact hq2 q h
      · intro e
        have := hq2 q h
        rw [e, hg] at this
        cases this
end
end GN
namespace GN
open PySem PySem.Spec PyProof.Rows L2
/-! ### a machine in the heap -/
structure MAd where
  a : Addr
  dx : Addr
  lb : Addr
  li : Addr
  lo : Addr
  ls : Addr
  lm : Addr
def mF (M : MAd) : List (Str × V) := [("bits", .ref M.lb), ("input_places", .ref M.li), ("output_places", .ref M.lo), ("steps", .ref M.ls), ("moves", .ref M.lm)]
theorem mF_bits (M : MAd) : (mF M).lookup ("bits" : Str) = some (.ref M.lb) := fld_hit _ _ _
theorem mF_in (M : MAd) : (mF M).lookup ("input_places" : Str) = some (.ref M.li) := (fld_skip _ _ (by decide +kernel)).trans (fld_hit _ _ _)
theorem mF_out (M : MAd) : (mF M).lookup ("output_places" : Str) = some (.ref M.lo) := (fld_skip _ _ (by decide +kernel)).trans ((fld_skip _ _ (by decide +kernel)).trans (fld_hit _ _ _))
theorem mF_steps (M : MAd) : (mF M).lookup ("steps" : Str) = some (.ref M.ls) := (fld_skip _ _ (by decide +kernel)).trans ((fld_skip _ _ (by decide +kernel)).trans ((fld_skip _ _ (by decide +kernel)).trans (fld_hit _ _ _)))
theorem mF_moves (M : MAd) : (mF M).lookup ("moves" : Str) = some (.ref M.lm) := (fld_skip _ _ (by decide +kernel)).trans ((fld_skip _ _ (by decide +kernel)).trans ((fld_skip _ _ (by decide +kernel)).trans ((fld_skip _ _ (by decide +kernel)).trans (fld_hit _ _ _))))
abbrev plV (nms : List Str) (z : Str) : V := .int (pl nms z : Nat)
structure MOk (K : PySem.W.Frag) (CM : Addr) (H : Hp) (M : MAd) (p : PN) (sts : List SR) (mvs : List MR) (B : List Bool) : Prop where
  ob : H M.a = some (.ins CM M.dx (mF M))
  bits : H M.lb = some (.lst (bl B))
  ip : H M.li = some (.lst (p.ins.map (plV (nmsP p))))
  op : H M.lo = some (.lst (p.outs.map (plV (nmsP p))))
  st : H M.ls = some (.lst (sts.map fun q => V.ref q.t))
  mv : H M.lm = some (.lst (mvs.map fun q => V.ref q.t))
  sts : ∀ q ∈ sts, StAt K H (nmsP p) q
  mvs : ∀ q ∈ mvs, H q.t = some (.tup (mvT (nmsP p) q))
  a1 : M.li ≠ M.lb
  a2 : M.lo ≠ M.lb
  a3 : M.ls ≠ M.lb
  a4 : M.lm ≠ M.lb
/-- the bits are others, all else is as it was -/
theorem MOk.put {K : PySem.W.Frag} {CM : Addr} {H H' : Hp} {M : MAd} {p : PN} {sts : List SR} {mvs : List MR} {B B' : List Bool} (m : MOk K CM H M p sts mvs B) (s : SameX M.lb H H') (h : H' M.lb = some (.lst (bl B'))) : MOk K CM H' M p sts mvs B' :=
  ⟨s _ _ m.ob (ne_of m.ob m.bits (by intro z; cases z)), h, s _ _ m.ip m.a1, s _ _ m.op m.a2, s _ _ m.st m.a3, s _ _ m.mv m.a4,
    fun q hq => ⟨s _ _ (m.sts q hq).tup (ne_of (m.sts q hq).tup m.bits (by intro z; cases z)), (m.sts q hq).tab⟩, fun q hq => s _ _ (m.mvs q hq) (ne_of (m.mvs q hq) m.bits (by intro z; cases z)), m.a1, m.a2, m.a3, m.a4⟩
theorem SameX.of_same {d : Addr} {H H' : Hp} (s : Same H H') : SameX d H H' := fun b o e _ => s b o e
theorem SameX.refl (d : Addr) (H : Hp) : SameX d H H := fun _ _ e _ => e
theorem SameX.trans' {d : Addr} {H H1 H2 : Hp} (a : SameX d H H1) (b : SameX d H1 H2) : SameX d H H2 := fun c o e hc => b c o (a c o e hc) hc
theorem SameX.upd_own {d : Addr} {H H' : Hp} {o : HO} (s : SameX d H H') : SameX d H (upd H' d o) := fun b u e hb => by
  rw [upd_ne hb]
  exact s b u e hb
theorem MOk.same {K : PySem.W.Frag} {CM : Addr} {H H' : Hp} {M : MAd} {p : PN} {sts : List SR} {mvs : List MR} {B : List Bool} (m : MOk K CM H M p sts mvs B) (s : Same H H') : MOk K CM H' M p sts mvs B :=
  m.put (SameX.of_same s) (s _ _ m.bits)
/-- what is known of a network, as the program has it -/
structure PGood (p : PN) : Prop where
  nd : (nmsP p).Nodup
  len : (nmsP p).length ≤ 1024
  few : PFew p
  srcs : ∀ g ∈ p.gates, ∀ s ∈ g.src, s ∈ nmsP p
  kind : PKind p
  reg1 : ∀ g ∈ p.gates, isRegS g.kind = true → g.src ≠ []
  outs : ∀ z ∈ p.outs, z ∈ nmsP p
  outL : p.outs.length ≤ 64
  inL : p.ins.length ≤ 64
theorem Good.p {n : Sf33.Net} (G : Good n) : PGood (encN n) := by
  refine ⟨G.nd, G.len, G.few, G.srcs, kind_enc n, fun g hg hr => ?_, G.outs, ?_, ?_⟩
  · obtain ⟨k, hk, rfl⟩ := List.mem_map.mp hg
    have hr' : isRegS (kw k.kind) = true := hr
    rw [isReg_kw] at hr'
    have ha := G.ary k hk
    show k.from_.map en ≠ []
    intro e
    have e' : k.from_ = [] := List.map_eq_nil_iff.mp e
    rw [e'] at ha
    cases h : k.kind with
    | reg b => rw [h] at ha; cases ha
    | _ => rw [h] at hr'; cases hr'
  · show (n.outs.map en).length ≤ 64
    rw [List.length_map]
    exact G.small.outs
  · show (n.ins.map en).length ≤ 64
    rw [List.length_map]
    exact G.small.ins
theorem put_new {k : Str} {v : V} : ∀ {fs : List (Str × V)} (names : List Str), fs.map Prod.fst = names → k ∉ names → putF k v fs = fs ++ [(k, v)]
  | [], _, _, _ => rfl
  | (g, x) :: r, names, e, h => by
    subst e
    rw [List.map_cons] at h
    rw [put_skip v x r (g := g) (f := k) (fun z => h (by rw [z]; exact List.mem_cons_self))]
    exact congrArg _ (put_new _ rfl fun z => h (List.mem_cons_of_mem _ z))
theorem ins_item {l : List Str} {i : Nat} {k : Key} {v : V} (h : (insK l)[i]? = some (k, v)) : ∃ z, l[i]? = some z ∧ k = Sum.inr z := by
  unfold insK at h
  rw [List.getElem?_map, List.getElem?_zipIdx] at h
  cases e : l[i]? with
  | none => rw [e] at h; cases h
  | some z =>
    rw [e] at h
    exact ⟨z, rfl, (congrArg Prod.fst (Option.some.inj h)).symm⟩
section
variable {P : Program} {w : World} {K : PySem.W.Frag} {mg : Str → Option Value} {base : Heap} {CF CG CN CM dk rg db : Addr}
theorem NOk.keepX {H H' : Hp} {A : NAd} {p : PN} {tb : List GR} {x dx : Addr} (n : NOk CN CG H A p tb) (hx : H x = some (.ins CM dx [])) (s : SameX x H H') : NOk CN CG H' A p tb := by
  have nF0 : nF A ≠ [] := by unfold nF; exact List.cons_ne_nil _ _
  refine ⟨s _ _ n.ob ?_, s _ _ n.ins (ne_of n.ins hx (by intro z; cases z)), s _ _ n.outs (ne_of n.outs hx (by intro z; cases z)), s _ _ n.gates (ne_of n.gates hx (by intro z; cases z)), n.apart, n.row, fun r hr => ⟨s _ _ (n.each r hr).ob ?_, s _ _ (n.each r hr).src (ne_of (n.each r hr).src hx (by intro z; cases z))⟩, n.free⟩
  · exact ne_of n.ob hx fun z => nF0 (HO.ins.inj z).2.2
  · refine ne_of (n.each r hr).ob hx fun z => ?_
    have := (HO.ins.inj z).2.2
    unfold gF at this
    cases this
/-! ### Machine.__init__ -/
def B0 (p : PN) : List Bool := sets (nmsP p) (firstL p) (List.replicate ((nmsP p).length + 1) false)
def spMach (K : PySem.W.Frag) (CM CN CG : Addr) : Sp := fun vs H Q _ => ∃ (x dx : Addr) (A : NAd) (p : PN) (tb : List GR), vs = [.ref x, .ref A.a] ∧ H x = some (.ins CM dx []) ∧ NOk CN CG H A p tb ∧ PGood p ∧
  ∀ (H' : Hp) (M : MAd) (order : List Str) (wf : Str → Nat) (sts : List SR) (mvs : List MR), M.a = x → M.dx = dx → KInv p.gn p.aw order [] wf [] → sts.map SR.pg = rowOf p order → mvs.map MR.pg = regsP p → MOk K CM H' M p sts mvs (B0 p) →
    H M.lb = none → (∀ b o, H b = some o → b ≠ x → H' b = some o) → Q .non H'
abbrev miN : List Str := ["self", "network", "places", "name"]
theorem scMi : FnScope miN ["self", "network"] (defScope sMachInit) := ⟨rfl, rfl, rfl, by decide +kernel, rfl, by decide +kernel, by decide +kernel⟩
theorem ok_mach {f fP fF fS fM : Addr} {fd fdP fdF fdS fdM : FuncData} (F : Fun K "__init__" "Machine.__init__" sMachInit f fd) (T : Txt K mg CF CG CN) (TM : TxtM K mg CM)
    (GP : FnOk P w K mg base CX0 1 fP fdP ["network"] (spPlace CN CG)) (kP : PySem.W.keepIn K (.ref fP) = true) (bP : Binds K fdP ["network"] []) (mP : mg "place_names" = some (.ref fP))
    (GF : FnOk P w K mg base CX0 1 fF fdF ["network", "places"] (spFirst CN CG)) (kF : PySem.W.keepIn K (.ref fF) = true) (bF : Binds K fdF ["network", "places"] []) (mF_ : mg "first_bits" = some (.ref fF))
    (GS : FnOk P w K mg base CX0 3 fS fdS ["network", "places"] (spSteps K CN CG)) (kS : PySem.W.keepIn K (.ref fS) = true) (bS : Binds K fdS ["network", "places"] []) (mS : mg "list_steps" = some (.ref fS))
    (GM : FnOk P w K mg base CX0 1 fM fdM ["network", "places"] (spMoves CN CG)) (kM : PySem.W.keepIn K (.ref fM) = true) (bM : Binds K fdM ["network", "places"] []) (mM : mg "list_moves" = some (.ref fM)) :
    FnOk P w K mg base CX0 4 f fd ["self", "network"] (spMach K CM CN CG) := by
  refine F.ok scMi (fun vs H Q E h => ?_) (fun cdv A outer s H vs Q E hr h => ?_)
  · obtain ⟨x, dx, A, p, tb, rfl, _⟩ := h
    rfl
  · obtain ⟨x, dx, A, p, tb, rfl, hx, n, pg, k⟩ := h
    have hr1 : Room 1 _ := hr.mono (by decide)
    have hr3 : Room 3 _ := hr.mono (by decide)
    refine ⟨_, pss_cons (ps_set (i := 2) scMi.nd rfl (.inr rfl) (pe_call GP hr1 rfl mP kP bP .nil pass0 (pa_cons (pv 1) pa_nil)))
      (pss_cons (ps_fld (pv 0) (pe_call GF hr1 rfl mF_ kF bF .nil pass0 (pa_cons (pv 1) (pa_cons (pv 2) pa_nil))) rfl)
      (pss_cons (ps_lock (ps_fld (pv 0) (pe_lc (own := [("name", 3)]) (g := gName 3) (tt := tYes) (by rfl) scMi.nd (pi_keys (pe_fld (pv 1) rfl))
          (blkOk_by (own := [("name", 3)]) (N := miN) (sc := defScope sMachInit) (by decide +kernel)) (fun _ _ _ _ _ => pg_name (i := 3) scMi.nd rfl (Or.inl rfl)) (fun _ _ _ _ _ => pts_nil)
          (fun _ _ _ _ _ => pe_dget (hu_of hr) (pv 2) (pv 3) (fun _ _ => rfl))) rfl))
      (pss_cons (ps_fld (pv 0) (pe_lc (own := [("name", 3)]) (g := gName 3) (tt := tYes) (by rfl) scMi.nd (pi_list (pe_fld (pv 1) rfl))
          (blkOk_by (own := [("name", 3)]) (N := miN) (sc := defScope sMachInit) (by decide +kernel)) (fun _ _ _ _ _ => pg_name (i := 3) scMi.nd rfl (Or.inl rfl)) (fun _ _ _ _ _ => pts_nil)
          (fun _ _ _ _ _ => pe_dget (hu_of hr) (pv 2) (pv 3) (fun _ _ => rfl))) rfl)
      (pss_cons (ps_fld (pv 0) (pe_call GS hr3 rfl mS kS bS .nil pass0 (pa_cons (pv 1) (pa_cons (pv 2) pa_nil))) rfl)
      (pss_one (ps_fld (pv 0) (pe_call GM hr1 rfl mM kM bM .nil pass0 (pa_cons (pv 1) (pa_cons (pv 2) pa_nil))) rfl)))))), ?_⟩
    have hgnd : p.gn.Nodup := (List.nodup_append.mp pg.nd).2.1
    -- places = place_names(network)
    refine ⟨_, rfl, A, p, tb, rfl, n, pg.nd, pg.len, fun H1 d s1 hd0 hd1 => ?_⟩
    have n1 := n.same s1
    have dn : d ≠ A.dg := Ne.symm (ne_of_none n.gates hd0)
    have di : d ≠ A.di := Ne.symm (ne_of_none n.ins hd0)
    have dnx : d ≠ x := Ne.symm (ne_of_none hx hd0)
    -- self.bits = first_bits(network, places)
    refine ⟨_, rfl, _, rfl, A, p, tb, d, rfl, n1, hd1, dn, pg.len, fun H2 lb s2 hlb0 hlb => ?_⟩
    refine ⟨_, rfl, x, CM, dx, [], rfl, s2 _ _ (s1 _ _ hx), TM.cM, TM.nB, (by show 0 < 1000; decide), ?_⟩
    have lbx : lb ≠ x := Ne.symm (ne_of_none (s1 _ _ hx) hlb0)
    have hlbH : H lb = none := s1.free hlb0
    have x2 : SameX x H (upd H2 x (.ins CM dx (putF "bits" (.ref lb) []))) := SameX.upd_own (SameX.of_same (s1.trans s2))
    have ob2 : (upd H2 x (.ins CM dx (putF "bits" (.ref lb) []))) x = some (.ins CM dx [("bits", .ref lb)]) := upd_same
    have d2 : (upd H2 x (.ins CM dx (putF "bits" (.ref lb) []))) d = some (.dK (insK (nmsP p))) := by rw [upd_ne dnx]; exact s2 _ _ hd1
    have b2 : (upd H2 x (.ins CM dx (putF "bits" (.ref lb) []))) lb = some (.lst (bl (B0 p))) := by rw [upd_ne lbx]; exact hlb
    generalize upd H2 x (.ins CM dx (putF "bits" (.ref lb) [])) = H3 at x2 ob2 d2 b2 ⊢
    have n3 := n.keepX hx x2
    have diA : A.di ≠ x := ne_of n.ins hx (by intro z; cases z)
    have aA : A.a ≠ A.di := ne_of n.ob n.ins (by intro z; cases z)
    -- self.input_places = [places[name] for name in network.inputs]
    refine ⟨A.di, .dK (insK p.ins), n3.ins, trivial, fun od => ?_⟩
    refine ⟨_, rfl, A.a, CN, A.dx, _, _, rfl, (by rw [upd_ne aA]; exact n3.ob), T.cN, T.nI, nF_in A, A.di, od, rfl, .inl ⟨insK p.ins, upd_same, fun D hD => lc_it walk_keys
      (fun i H' => Same (upd H3 A.di (.frz od (.dK (insK p.ins)))) H' ∧ H' D = some (.lst ((p.ins.take i).map (plV (nmsP p))))) ?_ ?_ ?_ ?_⟩⟩
    · exact ⟨Same.upd_own hD, upd_same⟩
    · rintro i H' _ ⟨s4, _⟩
      exact s4 _ _ upd_same
    · rintro i y H4 H5 hi ⟨s4, h4⟩ ⟨rfl, kk, v', hk, rfl⟩
      obtain ⟨z, hz, rfl⟩ := ins_item hk
      have hzm : z ∈ nmsP p := List.mem_append_left _ (List.mem_of_getElem? hz)
      refine ⟨rfl, _, rfl, _, rfl, d, _, rfl, pl_get_ (s4 _ _ (by rw [upd_ne di]; exact d2)) hzm, _, h4, ?_, Same.upd_new s4 hD, ?_⟩
      · rw [List.length_map, List.length_take]
        have := pg.inL
        exact Nat.lt_of_le_of_lt (show _ ≤ 64 by omega) (by decide)
      · rw [upd_same, take_more hz, List.map_append]
        rfl
    rintro H4 ⟨s4, h4⟩
    rw [insK_len, List.take_length] at h4
    obtain ⟨hDi, hD3⟩ := upd_none hD
    have Dx : D ≠ x := Ne.symm (ne_of_none ob2 hD3)
    have xdi : x ≠ A.di := Ne.symm diA
    have ob4 : H4 x = some (.ins CM dx [("bits", .ref lb)]) := s4 _ _ (by rw [upd_ne xdi]; exact ob2)
    refine ⟨_, rfl, x, CM, dx, _, rfl, ob4, TM.cM, TM.nI, (by show 1 < 1000; decide), ?_, ?_⟩
    · rw [upd_ne diA]
      exact s4 _ _ upd_same
    have e4 : putF "input_places" (.ref D) [(("bits" : Str), V.ref lb)] = [(("bits" : Str), V.ref lb), ("input_places", .ref D)] := put_new ["bits"] rfl (by decide +kernel)
    rw [e4]
    have keep4 : ∀ b o, H3 b = some o → b ≠ x → (upd (upd H4 x (.ins CM dx [("bits", .ref lb), ("input_places", .ref D)])) A.di (.dK (insK p.ins))) b = some o := by
      intro b o e hb
      by_cases hbd : b = A.di
      · subst hbd
        rw [n3.ins] at e
        cases e
        exact upd_same
      · rw [upd_ne hbd, upd_ne hb]
        exact s4 _ _ (by rw [upd_ne hbd]; exact e)
    have ob5 : (upd (upd H4 x (.ins CM dx [("bits", .ref lb), ("input_places", .ref D)])) A.di (.dK (insK p.ins))) x = some (.ins CM dx [("bits", .ref lb), ("input_places", .ref D)]) := by rw [upd_ne xdi]; exact upd_same
    have i5 : (upd (upd H4 x (.ins CM dx [("bits", .ref lb), ("input_places", .ref D)])) A.di (.dK (insK p.ins))) D = some (.lst (p.ins.map (plV (nmsP p)))) := by rw [upd_ne hDi, upd_ne Dx]; exact h4
    generalize (upd (upd H4 x (.ins CM dx [("bits", .ref lb), ("input_places", .ref D)])) A.di (.dK (insK p.ins))) = H5 at keep4 ob5 i5 ⊢
    have x5 : SameX x H H5 := fun b o e hb => keep4 b o (x2 b o e hb) hb
    have d5 := keep4 _ _ d2 dnx
    have b5 := keep4 _ _ b2 lbx
    have n5 := n.keepX hx x5
    have a1 : D ≠ lb := Ne.symm (ne_of_none b2 hD3)
    -- self.output_places = [places[name] for name in network.outputs]
    refine ⟨_, rfl, A.a, CN, A.dx, _, _, rfl, n5.ob, T.cN, T.nO, nF_out A, A.dl, rfl, ⟨_, SqL.of n5.outs⟩, fun Do hDo => lc_list (K := K) (a := A.dl) (xs := p.outs.map V.str)
      (fun i H' => Same H5 H' ∧ H' Do = some (.lst ((p.outs.take i).map (plV (nmsP p))))) ?_ ?_ ?_ ?_⟩
    · exact ⟨Same.upd_own hDo, upd_same⟩
    · rintro i H' _ ⟨s6, _⟩
      exact SqL.of (s6 _ _ n5.outs)
    · rintro i y H6 hi ⟨s6, h6⟩
      obtain ⟨z, hz, rfl⟩ := str_item hi
      have hzm : z ∈ nmsP p := pg.outs z (List.mem_of_getElem? hz)
      refine ⟨rfl, _, rfl, _, rfl, d, _, rfl, pl_get_ (s6 _ _ d5) hzm, _, h6, ?_, Same.upd_new s6 hDo, ?_⟩
      · rw [List.length_map, List.length_take]
        have := pg.outL
        exact Nat.lt_of_le_of_lt (show _ ≤ 64 by omega) (by decide)
      · rw [upd_same, take_more hz, List.map_append]
        rfl
    rintro H6 ⟨s6, h6⟩
    rw [List.length_map, List.take_length] at h6
    refine ⟨_, rfl, x, CM, dx, _, rfl, s6 _ _ ob5, TM.cM, TM.nO, (by show 2 < 1000; decide), ?_⟩
    have e6 : putF "output_places" (.ref Do) [(("bits" : Str), V.ref lb), ("input_places", .ref D)] = [(("bits" : Str), V.ref lb), ("input_places", .ref D), ("output_places", .ref Do)] := put_new ["bits", "input_places"] rfl (by decide +kernel)
    rw [e6]
    have Dox : Do ≠ x := Ne.symm (ne_of_none ob5 hDo)
    have k7 : SameX x H5 (upd H6 x (.ins CM dx [("bits", .ref lb), ("input_places", .ref D), ("output_places", .ref Do)])) := SameX.upd_own (SameX.of_same s6)
    have ob7 : (upd H6 x (.ins CM dx [("bits", .ref lb), ("input_places", .ref D), ("output_places", .ref Do)])) x = some (.ins CM dx [("bits", .ref lb), ("input_places", .ref D), ("output_places", .ref Do)]) := upd_same
    have o7 : (upd H6 x (.ins CM dx [("bits", .ref lb), ("input_places", .ref D), ("output_places", .ref Do)])) Do = some (.lst (p.outs.map (plV (nmsP p)))) := by rw [upd_ne Dox]; exact h6
    generalize (upd H6 x (.ins CM dx [("bits", .ref lb), ("input_places", .ref D), ("output_places", .ref Do)])) = H7 at k7 ob7 o7 ⊢
    have x7 := x5.trans' k7
    have n7 := n.keepX hx x7
    have a2 : Do ≠ lb := Ne.symm (ne_of_none b5 hDo)
    have d7 := k7 _ _ d5 dnx
    have b7 := k7 _ _ b5 lbx
    have i7 := k7 _ _ i5 Dx
    -- self.steps = list_steps(network, places)
    refine ⟨_, rfl, _, rfl, A, p, tb, d, rfl, n7, d7, hgnd, pg.len, pg.few, pg.srcs, pg.kind, fun H8 ls order wf sts s8 hls0 kI hst hls hsts => ?_⟩
    refine ⟨_, rfl, x, CM, dx, _, rfl, s8 _ _ ob7, TM.cM, TM.nS, (by show 3 < 1000; decide), ?_⟩
    have e8 : putF "steps" (.ref ls) [(("bits" : Str), V.ref lb), ("input_places", .ref D), ("output_places", .ref Do)] = [(("bits" : Str), V.ref lb), ("input_places", .ref D), ("output_places", .ref Do), ("steps", .ref ls)] := put_new ["bits", "input_places", "output_places"] rfl (by decide +kernel)
    rw [e8]
    have lsx : ls ≠ x := Ne.symm (ne_of_none ob7 hls0)
    have k9 : SameX x H7 (upd H8 x (.ins CM dx [("bits", .ref lb), ("input_places", .ref D), ("output_places", .ref Do), ("steps", .ref ls)])) := SameX.upd_own (SameX.of_same s8)
    have k9' : SameX x H8 (upd H8 x (.ins CM dx [("bits", .ref lb), ("input_places", .ref D), ("output_places", .ref Do), ("steps", .ref ls)])) := SameX.upd_own (SameX.refl x H8)
    have ob9 : (upd H8 x (.ins CM dx [("bits", .ref lb), ("input_places", .ref D), ("output_places", .ref Do), ("steps", .ref ls)])) x = some (.ins CM dx [("bits", .ref lb), ("input_places", .ref D), ("output_places", .ref Do), ("steps", .ref ls)]) := upd_same
    have ob8 := s8 _ _ ob7
    generalize (upd H8 x (.ins CM dx [("bits", .ref lb), ("input_places", .ref D), ("output_places", .ref Do), ("steps", .ref ls)])) = H9 at k9 k9' ob9 ⊢
    have x9 := x7.trans' k9
    have n9 := n.keepX hx x9
    have a3 : ls ≠ lb := Ne.symm (ne_of_none b7 hls0)
    have d9 := k9 _ _ d7 dnx
    -- self.moves = list_moves(network, places)
    refine ⟨_, rfl, _, rfl, A, p, tb, d, rfl, n9, d9, dn, pg.len, pg.srcs, pg.reg1, fun H10 lm mvs s10 hlm0 hmv hlm hmvs => ?_⟩
    refine ⟨_, rfl, x, CM, dx, _, rfl, s10 _ _ ob9, TM.cM, TM.nM, (by show 4 < 1000; decide), ?_⟩
    have e10 : putF "moves" (.ref lm) [(("bits" : Str), V.ref lb), ("input_places", .ref D), ("output_places", .ref Do), ("steps", .ref ls)] = mF ⟨x, dx, lb, D, Do, ls, lm⟩ := put_new ["bits", "input_places", "output_places", "steps"] rfl (by decide +kernel)
    rw [e10]
    have lmx : lm ≠ x := Ne.symm (ne_of_none ob9 hlm0)
    have b9 := k9 _ _ b7 lbx
    have a4 : lm ≠ lb := Ne.symm (ne_of_none b9 hlm0)
    have fin : ∀ b o, H10 b = some o → b ≠ x → (upd H10 x (.ins CM dx (mF ⟨x, dx, lb, D, Do, ls, lm⟩))) b = some o := fun b o e hb => by rw [upd_ne hb]; exact e
    have ob10 := s10 _ _ ob9
    refine k _ ⟨x, dx, lb, D, Do, ls, lm⟩ order wf sts mvs rfl rfl kI hst hmv ?_ hlbH fun b o e hb => fin b o (s10 _ _ (x9 b o e hb)) hb
    refine ⟨upd_same, fin _ _ (s10 _ _ b9) lbx, fin _ _ (s10 _ _ (k9 _ _ i7 Dx)) Dx, fin _ _ (s10 _ _ (k9 _ _ o7 Dox)) Dox, fin _ _ (s10 _ _ (k9' _ _ hls lsx)) lsx, fin _ _ hlm lmx, fun q hq => ?_, fun q hq => ?_, a1, a2, a3, a4⟩
    · have tx : q.t ≠ x := ne_of (hsts q hq).tup ob8 (by intro z; cases z)
      exact ⟨fin _ _ (s10 _ _ (k9' _ _ (hsts q hq).tup tx)) tx, (hsts q hq).tab⟩
    · exact fin _ _ (hmvs q hq) (ne_of (hmvs q hq) ob10 (by intro z; cases z))
end
end GN
namespace GN
open PySem PySem.Spec PyProof.Rows L2
/-! ### the dict of the tables -/
def ShapeA : List DictEntry → List (Str × Addr) → Prop
  | [], [] => True
  | e :: es, q :: qs => (∃ t, e.key = .str q.1 t) ∧ e.val = .ref q.2 ∧ ShapeA es qs
  | _, _ => False
theorem shapeA_find (z : Str) : ∀ (es : List DictEntry) (qs : List (Str × Addr)), ShapeA es qs → ∀ a, qs.lookup z = some a → ∃ e, es.find? (·.key.isStr z) = some e ∧ e.val = .ref a
  | [], [], _, _, h => by cases h
  | [], _ :: _, h, _, _ => by cases h
  | _ :: _, [], h, _, _ => by cases h
  | e :: es, (a, b) :: qs, h, c, hc => by
    obtain ⟨⟨t, hk⟩, hv, h⟩ := h
    have ei : e.key.isStr z = (a == z) := by rw [hk]; rfl
    rw [look_c] at hc
    by_cases hz : z = a
    · rw [if_pos hz] at hc
      cases hc
      refine ⟨e, ?_, hv⟩
      rw [List.find?_cons, ei]
      subst hz
      simp
    · rw [if_neg hz] at hc
      have en0 : (a == z) = false := by simpa using fun w => hz w.symm
      obtain ⟨e', h1, h2⟩ := shapeA_find z es qs h c hc
      refine ⟨e', ?_, h2⟩
      rw [List.find?_cons, ei, en0]
      exact h1
/-- each table lies at its address -/
inductive Tabs (K : PySem.W.Frag) : List (Str × Addr) → List (Str × List Bool) → Prop
  | nil : Tabs K [] []
  | cons {k k' : Str} {a : Addr} {l : List Bool} {qs : List (Str × Addr)} {ts : List (Str × List Bool)} (e : k = k') (h : ∀ H : Hp, SqT K H a (bl l)) (r : Tabs K qs ts) : Tabs K ((k, a) :: qs) ((k', l) :: ts)
theorem tabs_find {K : PySem.W.Frag} {qs : List (Str × Addr)} {ts : List (Str × List Bool)} (h : Tabs K qs ts) (z : Str) (l : List Bool) (hl : ts.lookup z = some l) : ∃ a, qs.lookup z = some a ∧ ∀ H : Hp, SqT K H a (bl l) := by
  induction h with
  | nil => cases hl
  | cons e h r ih =>
    subst e
    rw [look_c] at hl ⊢
    split at hl
    · rename_i hz
      cases hl
      rw [if_pos hz]
      exact ⟨_, rfl, h⟩
    · rename_i hz
      rw [if_neg hz]
      exact ih hl
theorem tab_of {K : PySem.W.Frag} {d : Addr} {es : Array DictEntry} {n : Nat} {qs : List (Str × Addr)} {bTbl : List (Str × List Bool)} (l : K.lookup d = some ⟨.type "dict", none, .dict es n, #[]⟩) (h : ShapeA es.toList qs) (t : Tabs K qs bTbl) (z : Str) (b : List Bool) (hb : bTbl.lookup z = some b) :
    ∃ a, PySem.W.nsIn K d z = some (some (.ref a)) ∧ ∀ H : Hp, SqT K H a (bl b) := by
  obtain ⟨a, ha, hs⟩ := tabs_find t z b hb
  obtain ⟨e, h1, h2⟩ := shapeA_find z es.toList qs h a ha
  refine ⟨a, ?_, hs⟩
  unfold PySem.W.nsIn
  rw [l]
  dsimp only
  rw [h1, ← h2]
theorem tup_of {K : PySem.W.Frag} {a : Addr} {od : Option Addr} {its : Array Value} {n : Nat} {sl : Array (Option Value)} {vs : List V} (l : K.lookup a = some ⟨.type "tuple", od, .seq its n, sl⟩) (v : Vals vs its.toList) (hv : vs.length ≤ 8 := by decide) : ∀ H : Hp, SqT K H a vs := fun H =>
  .inr ⟨_, its, n, l, rfl, rfl, (by
    have e := v.length
    rw [← Array.length_toList, ← e]
    exact Nat.le_trans hv (by decide)), v⟩
end GN
/-! ### enumerate(x), x a tuple: the layer has it for lists -/
namespace GNe
open PySem
theorem meets_enum1 {x : Value} {ob : Obj} {Hx : Heap → Prop} (b : Begins x ob Hx) :
    Meets (Builtin.«enumerate.__new__» ⟨[.type "enumerate", x], []⟩) (fun _ R s => Hx s.heap ∧ R (.ok (.ret (.ref (s.heap.push ob).objs.size)))
      { s with heap := (s.heap.push ob).push { cls := .type "enumerate", data := .fields #[.none, .bool false, .ref s.heap.objs.size, rawInt 0, .none, .none] } }) :=
  .of_wp fun pr wo Ar R st hR => by
    obtain ⟨hp, ge, dr, tk, os⟩ := st
    obtain ⟨hx, hR⟩ := hR
    have hsub := sub_enumerate
    have go : ∀ {A' : Around} {Ex : Value → Shared → Prop} {Qx : Value → Shared → Prop}, Qx (.ref hp.objs.size) ⟨hp.push ob, ge, dr, tk, os⟩ → wpAny (model pr wo) A' (pyIter x) Qx Ex ⟨hp, ge, dr, tk, os⟩ := fun q => b.iter pr wo _ _ ⟨hp, ge, dr, tk, os⟩ _ hx q
    wp_walk using go
    refine wpAny_stack_any fun _ => wpAny_pure ?_
    split
    · rename_i cl _ _ _ _ _
      cases (cl == Value.type "enumerate") <;> (wp_walk using go; exact ⟨_, rfl, hR⟩)
    · wp_walk using go
      exact ⟨_, rfl, hR⟩
theorem call_enum1 {pr : Program} {wo : World} {Ar : Around} {Ex : Value → Shared → Prop} {st : Shared} {x : Value} {ob : Obj} {Hx : Heap → Prop} {Qx : Value → Shared → Prop} (b : Begins x ob Hx) (hx : Hx st.heap)
    (k : ∀ hp', IsEnum hp' (st.heap.objs.size + 1) st.heap.objs.size 0 .none → hp'.get? st.heap.objs.size = some ob → (∀ c oc, st.heap.get? c = some oc → hp'.get? c = some oc) → Qx (.ref (st.heap.objs.size + 1)) { st with heap := hp' }) :
    wpAny (model pr wo) Ar (call (.type "enumerate") [x]) Qx Ex st := by
  refine callType_new F.called_enumerate (by decide) (F.typeCall_enumerate_1 _) (F.newCall_enumerate_1 _) (fun z => F.args_object_init_2 z _) F.entry_enumerate_new (meets_enum1 b) ⟨hx, ?_⟩
  have sz : (st.heap.push ob).objs.size = st.heap.objs.size + 1 := Heap.size_push ..
  show _ ∧ _
  rw [sz]
  have en : IsEnum ((st.heap.push ob).push { cls := .type "enumerate", data := .fields #[.none, .bool false, .ref st.heap.objs.size, rawInt 0, .none, .none] }) (st.heap.objs.size + 1) st.heap.objs.size 0 .none := by
    have z := Heap.get?_push_size (st.heap.push ob) (o := { cls := .type "enumerate", data := .fields #[.none, .bool false, .ref st.heap.objs.size, rawInt 0, .none, .none] }) rfl
    rw [sz] at z
    exact z
  exact ⟨⟨_, en, rfl⟩, k _ en (Heap.get?_push_of_some _ (Heap.get?_push_size _ b.free)) fun c oc z => Heap.get?_push_of_some _ (Heap.get?_push_of_some _ z)⟩
open PySem.Spec PyProof.Rows L2
/-- the tuple at a, each item in a new pair with its place -/
def IteT (K : PySem.W.Frag) (a : Addr) : It where
  go := fun i H => ∃ (xs : List V) (x : V), SqT K H a xs ∧ xs[i]? = some x
  yld := fun i H v H' => ∃ (Tp : Addr) (x : V), v = .ref Tp ∧ H Tp = none ∧ H' = upd H Tp (.tup [.int (i : Nat), x]) ∧ ∀ xs, SqT K H a xs → xs[i]? = some x
  stop := fun i H => ∃ xs : List V, SqT K H a xs ∧ xs.length = i
theorem apart_cls {hp : Heap} {b c : Addr} {ob oc : Obj} (hb : hp.get? b = some ob) (hc : hp.get? c = some oc) (h : ob.cls ≠ oc.cls) : b ≠ c := fun e => by
  subst e
  rw [hb] at hc
  cases hc
  exact h rfl
theorem turn_enumT {P : Program} {w : World} {K : PySem.W.Frag} {els : List Expr} {nk : Nat} {ps : Pos} (a e it : Addr) :
    Turn P w K (.Tuple els nk ps) (IteT K a) [e, it] e (fun i hp => (∃ old, IsEnum hp e it ((i : Nat) : Int) old) ∧ hp.IsTupleIter it a i ∧ e ≠ it) where
  mem := List.mem_cons_self
  obj := fun i hp ⟨⟨old, he⟩, ⟨o, ho, _, hd⟩, _⟩ b hb => by
    rcases List.mem_cons.mp hb with z | z
    · rw [z]
      exact ⟨_, he, fun v q => nomatch q⟩
    · rw [List.mem_singleton.mp z]
      refine ⟨o, ho, fun v q => ?_⟩
      rw [hd] at q
      cases q
  keep := fun i hp hp' ⟨⟨old, he⟩, hi, hne⟩ k => ⟨⟨old, k e List.mem_cons_self _ he⟩, hi.at fun o q => k it (List.mem_cons_of_mem _ List.mem_cons_self) o q, hne⟩
  item := by
    intro X eP ew eK calm i pins st σ H Ex I hf ht hg
    subst eP ew eK
    obtain ⟨⟨old, he⟩, hit, hne⟩ := ht
    obtain ⟨xs, x, hq, hx⟩ := hg
    obtain ⟨its, rv, p, _⟩ := I.tuple hq
    have tp : st.heap.IsTuple a its.toArray := p
    obtain ⟨u, hu, ru⟩ := rv.get hx
    have le : e < st.heap.objs.size := Heap.lt_size he
    obtain ⟨oi, hoi, ci, di⟩ := id hit
    obtain ⟨oa, hoa, ca, _⟩ := id tp
    have li : it < st.heap.objs.size := Heap.lt_size hoi
    have ai : a ≠ it := apart_cls hoa hoi (by rw [ca, ci]; decide)
    have ea : e ≠ a := apart_cls he hoa (by rw [ca]; show Value.type "enumerate" ≠ Value.type "tuple"; decide)
    have hil : i < its.toArray.size := by
      have := (List.getElem?_eq_some_iff.mp hu).1
      simpa using this
    refine wpAny_pyNext_enum_itemD (Draws.tuple (prog := X.prog) (w := X.w) (A := X.A.in1) (I.ok.hd calm) it a ai its.toArray) he ⟨hit, tp⟩ hil hne (fun z => ?_) fun u' h1 tk hu' ho hst hT hsz hk => ?_
    · rcases List.mem_cons.mp z with q | q
      · exact hne q
      · exact ea (List.mem_singleton.mp q)
    have eu : u' = u := by
      rw [show its.toArray[i]? = its[i]? from by simp, hu] at hu'
      exact (Option.some.inj hu').symm
    subst eu
    refine ⟨_, rfl, wpAny_letOwnedTupleGo_enum (s := { st with heap := h1, toks := tk + 1 }) ho fun h2 he2 sb => ?_⟩
    have hT2 := (sb.2 _ (Nat.ne_of_gt le)).trans hT
    have I1 : Inv X pins σ (upd H st.heap.objs.size (.tup [.int (i : Nat), x])) { st with heap := h2, toks := tk + 1 } := by
      refine I.turnedNew (ch := [e, it]) (fun b ob hb q => ?_) hf (Nat.le_refl _) ⟨by show 2 ≤ sizeLine; decide, [.int i tk, u'], .cons ⟨_, rfl⟩ (.cons ru .nil), ⟨_, hT2, rfl, _, rfl⟩⟩
      have b1 : b ≠ e := fun z => hb (by rw [z]; exact List.mem_cons_self)
      have b2 : b ≠ it := fun z => hb (by rw [z]; exact List.mem_cons_of_mem _ List.mem_cons_self)
      exact (sb.2 b b1).trans (hk b ob b1 b2 q)
    refine ⟨.ref st.heap.objs.size, _, I1, rfl, ⟨_, x, rfl, I.hok.fresh (Nat.le_refl _), rfl, fun ys hy => by rw [I.tuple_inj hy hq]; exact hx⟩, ⟨⟨u', ?_⟩, hst.1.at fun o q => (sb.2 it (Ne.symm hne)).trans q, hne⟩, fun b hb => ?_⟩
    · rw [show ((i + 1 : Nat) : Int) = (i : Int) + 1 by omega]
      exact he2
    · have lb : b < st.heap.objs.size := by
        rcases List.mem_cons.mp hb with z | z
        · rw [z]; exact le
        · rw [List.mem_singleton.mp z]; exact li
      rw [upd_ne (Nat.ne_of_lt lb)]
      exact (hf b hb).1
  done := by
    intro X eP ew eK calm i pins st σ H Ex I hf ht hg
    subst eP ew eK
    obtain ⟨⟨old, he⟩, hit, hne⟩ := ht
    obtain ⟨xs, hq, hx⟩ := hg
    obtain ⟨its, rv, p, _⟩ := I.tuple hq
    have tp : st.heap.IsTuple a its.toArray := p
    obtain ⟨f0, f1, f2, f3, f4, f5⟩ := hf it (List.mem_cons_of_mem _ List.mem_cons_self)
    have hl := rv.length
    obtain ⟨oi, hoi, ci, di⟩ := id hit
    obtain ⟨oa, hoa, ca, _⟩ := id tp
    have ai : a ≠ it := apart_cls hoa hoi (by rw [ca, ci]; decide)
    have hn : its.toArray.size = i := by
      rw [← hx, hl]
      simp
    subst hn
    exact wpAny_pyNext_enum_endD (Draws.tuple (prog := X.prog) (w := X.w) (A := X.A.in1) (I.ok.hd calm) it a ai its.toArray) he ⟨hit, tp⟩ fun h1 hk => ⟨rfl, I.turned (t' := st.toks) (fun b o hb q => hk b o hb q) f0 f1 f3 f4 f5⟩
  self := fun A i st Q Ex ⟨⟨_, he⟩, _⟩ h => wpAny_pyIter_enum he h
def iEnumT (K : PySem.W.Frag) (ta : TA) : TI := fun σ H R => ta σ H fun vs H1 => ∃ (a : Addr) (xs : List V), vs = [.ref a] ∧ SqT K H1 a xs ∧ R (IteT K a) H1
theorem pi_enumT {X : Cx} {ex : Expr} {ta : TA} {p1 p2 p3 : Pos} {els : List Expr} {nk : Nat} (hg : Gl X "enumerate") (hm : X.mg "enumerate" = none) (ha : PA X [ex] ta) (hs : starEach [ex] X.env = [(false, eval ex X.env)] := by rfl) :
    PI X (.Tuple els nk p3) (.Call (.Name "enumerate" p1) [ex] [] p2) (iEnumT X.K ta) where
  run := fun pins st σ H R I h => by
    refine Call_ (ld_blt I hg hm boot_enumerate (PyProof.Rows.callWith_type1 (thn (ha.run p2 pins st σ H _ I h) fun us s1 ⟨vs, H1, I1, r1, q1⟩ => ?_) hs rfl))
    obtain ⟨a, xs, rfl, hq, q⟩ := q1
    cases r1 with
    | cons r rr =>
      cases rr
      cases r
      obtain ⟨its, rv, p, _⟩ := I1.tuple hq
      have tp : s1.heap.IsTuple a its.toArray := p
      refine call_enum1 (begins_tuple a its.toArray) tp fun h1 he ho hk => wpAny_pyIter_enum he ?_
      have I2 : Inv X pins σ H1 { s1 with heap := h1 } := I1.kept (t' := s1.toks) hk
      refine ⟨s1.heap.objs.size + 1, [s1.heap.objs.size + 1, s1.heap.objs.size], _, _, H1, rfl, I2, turn_enumT a (s1.heap.objs.size + 1) s1.heap.objs.size, ⟨⟨.none, he⟩, ⟨_, ho, rfl, rfl⟩, Nat.succ_ne_self _⟩, fun b hb => ?_, q⟩
      have lb : s1.heap.objs.size ≤ b := by
        rcases List.mem_cons.mp hb with z | z
        · rw [z]; exact Nat.le_succ _
        · rw [List.mem_singleton.mp z]; exact Nat.le_refl _
      exact I1.fpOk lb (I1.hok.fresh lb)
theorem walk_enumT {K : PySem.W.Frag} {a : Addr} {xs : List V} : Walk (IteT K a) xs.length (fun H => SqT K H a xs) (YPair (fun i => some (.int (i : Nat))) (fun i => xs[i]?)) where
  goes := fun i _ hi q => ⟨xs, xs[i], q, List.getElem?_eq_getElem hi⟩
  stops := fun _ q => ⟨xs, q, rfl⟩
  yields := fun i _ _ _ _ q ⟨Tp, x, h1, h2, h3, h4⟩ => ⟨Tp, .int (i : Nat), x, h1, h2, h3, rfl, h4 xs q⟩
end GNe
namespace GN
open PySem PySem.Spec PyProof.Rows L2
abbrev nV (x : Nat) : V := .int (x : Nat)
/-! ### operations on the bits of naturals -/
section
variable {X : Cx}
theorem op_andNN : OpR X (binaryOp .BitAnd) (fun x y H Q => ∃ n m : Nat, x = nV n ∧ y = nV m ∧ Q (nV (n &&& m)) H) := by
  intro pins s σ H x y v u Q I rx ry h
  obtain ⟨n, m, rfl, rfl, q⟩ := h
  have e : Builtin.bitAnd (n : Int) (m : Int) = ((n &&& m : Nat) : Int) := bitAnd_pp (Int.natCast_nonneg n) (Int.natCast_nonneg m)
  refine op_and pins s σ H _ _ v u Q I rx ry ⟨_, _, rfl, rfl, ?_⟩
  show Q (.int (Builtin.bitAnd (n : Int) (m : Int))) H
  rw [e]
  exact q
theorem op_xorNN : OpR X (binaryOp .BitXor) (fun x y H Q => ∃ n m : Nat, x = nV n ∧ y = nV m ∧ Q (nV (n ^^^ m)) H) := by
  intro pins s σ H x y v u Q I rx ry h
  obtain ⟨n, m, rfl, rfl, q⟩ := h
  have e : Builtin.bitXor (n : Int) (m : Int) = ((n ^^^ m : Nat) : Int) := Bits.bitXor_pp (Int.natCast_nonneg n) (Int.natCast_nonneg m)
  refine op_xor pins s σ H _ _ v u Q I rx ry ⟨_, _, rfl, rfl, ?_⟩
  show Q (.int (Builtin.bitXor (n : Int) (m : Int))) H
  rw [e]
  exact q
theorem ip_orNN : PIp X .BitOr (fun x y H Q => ∃ n m : Nat, x = nV n ∧ y = nV m ∧ Q (nV (n ||| m)) H) := by
  intro pins s σ H x y v u Q I rx ry h
  obtain ⟨n, m, rfl, rfl, q⟩ := h
  have e : Builtin.bitOr (n : Int) (m : Int) = ((n ||| m : Nat) : Int) := Bits.bitOr_pp (Int.natCast_nonneg n) (Int.natCast_nonneg m)
  refine iop_or pins s σ H _ _ v u Q I rx ry ⟨_, _, rfl, rfl, ?_⟩
  show Q (.int (Builtin.bitOr (n : Int) (m : Int))) H
  rw [e]
  exact q
theorem op_shrNN : OpR X (binaryOp .RShift) (fun x y H Q => ∃ n k : Nat, x = nV n ∧ y = nV k ∧ Q (nV (n / 2 ^ k)) H) := by
  intro pins s σ H x y v u Q I rx ry h
  obtain ⟨n, k, rfl, rfl, q⟩ := h
  have e : (n : Int) / 2 ^ k = ((n / 2 ^ k : Nat) : Int) := by simp
  refine op_shrN pins s σ H _ _ v u Q I rx ry ⟨_, k, rfl, rfl, ?_⟩
  rw [e]
  exact q
theorem op_oneShlN : OpR X (binaryOp .LShift) (fun x y H Q => ∃ k : Nat, x = .int 1 ∧ y = nV k ∧ k ≤ 65536 ∧ Q (nV (2 ^ k)) H) := by
  intro pins s σ H x y v u Q I rx ry h
  obtain ⟨k, rfl, rfl, hk, q⟩ := h
  have e : (2 : Int) ^ k = ((2 ^ k : Nat) : Int) := (PySem.W.kbt_cast k).symm
  refine op_oneShl pins s σ H _ _ v u Q I rx ry ⟨k, rfl, rfl, by omega, ?_⟩
  rw [e]
  exact q
theorem op_oddN : OpR X (binaryOp .BitAnd) (fun x y H Q => ∃ n : Nat, x = nV n ∧ y = .int 1 ∧ Q (nV (n % 2)) H) := op_odd
end
/-- a turn's number -/
theorem nV_turn (i : Nat) : V.int (0 + (i : Int)) = nV i := by
  rw [Int.zero_add]
theorem test_div (x i : Nat) : decide (x / 2 ^ i % 2 = 1) = x.testBit i := (Nat.testBit_eq_decide_div_mod_eq ..).symm
theorem b2n_div (x i : Nat) : b2n (x.testBit i) = x / 2 ^ i % 2 := by
  unfold b2n
  rw [Nat.testBit_eq_decide_div_mod_eq]
  have h : x / 2 ^ i % 2 < 2 := Nat.mod_lt _ (by decide)
  by_cases e : x / 2 ^ i % 2 = 1
  · simp [e]
  · have : x / 2 ^ i % 2 = 0 := by omega
    simp [this]
theorem nV_inj {x y : Nat} : nV x = nV y ↔ x = y := ⟨fun h => Int.ofNat.inj (V.int.inj h), fun h => by rw [h]⟩
/-- what the top has written for same alone -/
structure TxtS (mg : Str → Option Value) : Prop where
  any : mg "any" = none
  min : mg "min" = none
  range : mg "range" = none
  sum : mg "sum" = none
  zip : mg "zip" = none
  mComp : ∃ t, mg "MOST_COMPARED_INPUTS" = some (.int 16 t)
  mBlock : ∃ t, mg "INPUTS_IN_BLOCK" = some (.int 11 t)
section
variable {P : Program} {w : World} {K : PySem.W.Frag} {mg : Str → Option Value} {base : Heap} {CF CG CN CM dk rg db : Addr}
/-! ### has_registers -/
def anyReg (p : PN) : Bool := p.gates.any fun g => isRegS g.kind
def spHasR (CN CG : Addr) : Sp := fun vs H Q _ => ∃ (A : NAd) (p : PN) (tb : List GR), vs = [.ref A.a] ∧ NOk CN CG H A p tb ∧ p.gates.length ≤ 1024 ∧ ∀ H' : Hp, Same H H' → Q (.bl (anyReg p)) H'
theorem scHr : FnScope ["network", "gate"] ["network"] (defScope sHasR) := ⟨rfl, rfl, rfl, by decide +kernel, rfl, by decide +kernel, by decide +kernel⟩
theorem ok_hasR {f : Addr} {fd : FuncData} (F : Fun K "has_registers" "has_registers" sHasR f fd) (T : Txt K mg CF CG CN) (T2 : Txt2 K mg w dk rg) (TS : TxtS mg) : FnOk P w K mg base CX0 1 f fd ["network"] (spHasR CN CG) := by
  obtain ⟨es, en_, D⟩ := T2.dR
  refine F.ok scHr (fun vs H Q E h => ?_) (fun cdv A outer s H vs Q E hr h => ?_)
  · obtain ⟨A, p, tb, rfl, _⟩ := h
    rfl
  · obtain ⟨A, p, tb, rfl, n, hl, k⟩ := h
    refine ⟨_, pss_one (ps_lock (ps_ret (pe_callB (cr_any rfl) (by rfl) TS.any (by decide +kernel) (pa_cons (pe_lc (own := [("gate", 1)]) (g := gName 1) (tt := tYes)
      (te := tOp (fun x y H Q => ∃ (z : Str) (r : Option Value), x = .str z ∧ y = .ref rg ∧ PySem.W.nsIn K rg z = some r ∧ Q (.bl r.isSome) H) (tFld K (tVar 1) "kind") (tC (.ref rg))) (by rfl) scHr.nd (pi_values (pe_fld (pv 0) rfl))
      (blkOk_by (own := [("gate", 1)]) (N := ["network", "gate"]) (sc := defScope sHasR) (by decide +kernel)) (fun _ _ _ _ _ => pg_name (i := 1) scHr.nd rfl (Or.inl rfl)) (fun _ _ _ _ _ => pts_nil)
      (fun _ _ _ _ _ => pe_cmpR (op_in_kd D) (pe_fld (pv 1) rfl) (pe_glob rfl T2.gR (v := .ref rg) rfl) (by rfl))) pa_nil)))), ?_⟩
    have f1 : A.a ≠ A.dg := ne_of n.ob n.gates (by intro z; cases z)
    refine ⟨A.dg, .dK (gatesK tb), n.gates, trivial, fun od => ?_⟩
    refine ⟨_, rfl, A.a, CN, A.dx, _, _, rfl, (by rw [upd_ne f1]; exact n.ob), T.cN, T.nG, nF_gates A, A.dg, od, gatesK tb, rfl, upd_same, fun D hD => lc_it w_vals
      (fun i H' => H' A.dg = some (.frz od (.dK (gatesK tb))) ∧ SameX A.dg H H' ∧ H' D = some (.lst (((p.gates.take i).map fun g => isRegS g.kind).map V.bl))) ?_ ?_ ?_ ?_⟩
    · obtain ⟨d1, d2⟩ := upd_none hD
      refine ⟨by rw [upd_ne (Ne.symm d1)]; exact upd_same, fun b o e hb => ?_, upd_same⟩
      rw [upd_ne (ne_of_none e d2), upd_ne hb]
      exact e
    · rintro i H' _ ⟨hg, _⟩
      exact hg
    · rintro i x H2 H3 hi ⟨hg, hs, hd⟩ ⟨rfl, kk, hk⟩
      obtain ⟨r, hri, rfl, rfl⟩ := gates_item hk
      have hrm : r ∈ tb := List.mem_of_getElem? hri
      have hpg := row_item n hri
      have g0 := n.each r hrm
      have gd : r.ga ≠ A.dg := ne_of g0.ob n.gates (by intro z; cases z)
      obtain ⟨q, hq1, hq2⟩ := T2.atR r.pg.kind
      have hil : i < p.gates.length := (List.getElem?_eq_some_iff.mp hpg).1
      obtain ⟨d1, d2⟩ := upd_none hD
      refine ⟨rfl, _, rfl, r.ga, CG, r.dx, _, _, rfl, hs _ _ g0.ob gd, T.cG, T.nK, gF_kind _ _, r.pg.kind, q, rfl, rfl, hq1, _, hd, ?_, ?_, ?_, ?_⟩
      · rw [List.length_map, List.length_map, List.length_take]
        exact Nat.lt_of_le_of_lt (show _ ≤ 1024 by omega) (by decide)
      · rw [upd_ne (Ne.symm d1)]
        exact hg
      · exact SameX.upd_new hs d2
      · have e : q.isSome = isRegS r.pg.kind := by
          rw [← rc_reg]
          cases e : rc r.pg.kind with
          | none => rw [e] at hq2; subst hq2; rfl
          | some c => rw [e] at hq2; obtain ⟨t, rfl⟩ := hq2; rfl
        rw [upd_same, take_more hpg, List.map_append, List.map_append, e]
        rfl
    · rintro H2 ⟨hg, hs, hd⟩
      have hl2 : tb.length = p.gates.length := by rw [n.row, List.length_map]
      rw [hl2, List.take_length] at hd
      refine ⟨D, p.gates.map fun g => isRegS g.kind, rfl, SqL.of hd, hg, ?_⟩
      have := k _ (hs.unlock n.gates)
      have e : (p.gates.map fun g => isRegS g.kind).any id = anyReg p := by
        unfold anyReg
        rw [List.any_map]
        rfl
      rw [e]
      exact this
/-! ### are_comparable -/
def fairP (p q : PN) : Bool := !(anyReg p || anyReg q) && (decide (p.ins.length = q.ins.length) && (decide (p.outs.length = q.outs.length) && decide (p.ins.length ≤ 16)))
def spComp (CN CG : Addr) : Sp := fun vs H Q _ => ∃ (A B : NAd) (p q : PN) (tb tc : List GR), vs = [.ref A.a, .ref B.a] ∧ NOk CN CG H A p tb ∧ NOk CN CG H B q tc ∧ p.gates.length ≤ 1024 ∧ q.gates.length ≤ 1024 ∧ ∀ H' : Hp, Same H H' → Q (.bl (fairP p q)) H'
theorem scCo : FnScope ["one", "other"] ["one", "other"] (defScope sComp) := ⟨rfl, rfl, rfl, by decide +kernel, rfl, by decide +kernel, by decide +kernel⟩
theorem ok_comp {f fH : Addr} {fd fdH : FuncData} (F : Fun K "are_comparable" "are_comparable" sComp f fd) (T : Txt K mg CF CG CN) (TS : TxtS mg)
    (GH : FnOk P w K mg base CX0 1 fH fdH ["network"] (spHasR CN CG)) (kH : PySem.W.keepIn K (.ref fH) = true) (bH : Binds K fdH ["network"] []) (mH : mg "has_registers" = some (.ref fH)) :
    FnOk P w K mg base CX0 2 f fd ["one", "other"] (spComp CN CG) := by
  obtain ⟨t1, m1⟩ := TS.mComp
  refine F.ok scCo (fun vs H Q E h => ?_) (fun cdv A outer s H vs Q E hr h => ?_)
  · obtain ⟨A, B, p, q, tb, tc, rfl, _⟩ := h
    rfl
  · obtain ⟨A, B, p, q, tb, tc, rfl, na, nb, la, lb, k⟩ := h
    refine ⟨_, pss_cons (ps_if (PW.pt (pw_or (pt_val (pe_call GH hr rfl mH kH bH .nil pass0 (pa_cons (pv 0) pa_nil))) (pw_or1 (pt_val (pe_call GH hr rfl mH kH bH .nil pass0 (pa_cons (pv 1) pa_nil)))))) (pss_one (ps_ret pe_bl)) pss_nil)
      (pss_cons (ps_if (PW.pt (pw_or (pt_cmpR op_ne (pe_callB call_lenD (by rfl) T.len PySem.boot_len (pa_cons (pe_fld (pv 0) rfl) pa_nil)) (pe_callB call_lenD (by rfl) T.len PySem.boot_len (pa_cons (pe_fld (pv 1) rfl) pa_nil)) (nomark _))
          (pw_or1 (pt_cmpR op_ne (pe_callB call_len_seq (by rfl) T.len PySem.boot_len (pa_cons (pe_fld (pv 0) rfl) pa_nil)) (pe_callB call_len_seq (by rfl) T.len PySem.boot_len (pa_cons (pe_fld (pv 1) rfl) pa_nil)) (nomark _))))) (pss_one (ps_ret pe_bl)) pss_nil)
      (pss_one (ps_ret (pe_cmpR op_le (pe_callB call_lenD (by rfl) T.len PySem.boot_len (pa_cons (pe_fld (pv 0) rfl) pa_nil)) (pe_glob rfl m1 (v := .int 16) ⟨_, rfl⟩) (nomark _))))), ?_⟩
    unfold fairP at k
    refine ⟨_, rfl, A, p, tb, rfl, na, la, fun H1 s1 => ⟨_, rfl, ?_⟩⟩
    have na1 := na.same s1
    have nb1 := nb.same s1
    cases e1 : anyReg p with
    | true =>
      rw [e1] at k
      exact if_t rfl (if_t rfl (k H1 s1))
    | false =>
      rw [e1] at k
      refine if_f rfl ?_
      refine ⟨_, rfl, B, q, tc, rfl, nb1, lb, fun H2 s2 => ⟨_, rfl, ?_⟩⟩
      have na2 := na1.same s2
      have nb2 := nb1.same s2
      have k2 := k H2 (s1.trans s2)
      cases e2 : anyReg q with
      | true =>
        rw [e2] at k2
        exact if_t rfl k2
      | false =>
        rw [e2] at k2
        refine if_f rfl ?_
        refine ⟨_, rfl, A.a, CN, A.dx, _, _, rfl, na2.ob, T.cN, T.nI, nF_in A, A.di, _, rfl, na2.ins, _, rfl, B.a, CN, B.dx, _, _, rfl, nb2.ob, T.cN, T.nI, nF_in B, B.di, _, rfl, nb2.ins, rfl, _, rfl, ?_⟩
        rw [insK_len, insK_len]
        by_cases h1 : p.ins.length = q.ins.length
        · rw [decide_eq_true h1] at k2
          refine if_f (by rw [h1]; simp) ?_
          refine ⟨_, rfl, A.a, CN, A.dx, _, _, rfl, na2.ob, T.cN, T.nO, nF_out A, A.dl, _, rfl, .inl (SqL.of na2.outs), _, rfl, B.a, CN, B.dx, _, _, rfl, nb2.ob, T.cN, T.nO, nF_out B, B.dl, _, rfl, .inl (SqL.of nb2.outs), rfl, _, rfl, ?_⟩
          rw [List.length_map, List.length_map]
          by_cases h2 : p.outs.length = q.outs.length
          · rw [decide_eq_true h2] at k2
            refine if_f (by rw [h2]; simp) ?_
            refine ⟨_, rfl, A.a, CN, A.dx, _, _, rfl, na2.ob, T.cN, T.nI, nF_in A, A.di, _, rfl, na2.ins, _, _, rfl, rfl, ?_⟩
            rw [insK_len]
            have e : decide ((p.ins.length : Int) ≤ 16) = decide (p.ins.length ≤ 16) := by
              rw [Bool.eq_iff_iff]
              simp only [decide_eq_true_eq]
              omega
            show Q (V.bl (decide ((p.ins.length : Int) ≤ 16))) H2
            rw [e]
            exact k2
          · rw [decide_eq_false h2] at k2
            refine if_t ?_ k2
            have : nV p.outs.length ≠ nV q.outs.length := fun z => h2 (nV_inj.mp z)
            simpa using this
        · rw [decide_eq_false h1] at k2
          refine if_t ?_ (if_t rfl k2)
          have : nV p.ins.length ≠ nV q.ins.length := fun z => h1 (nV_inj.mp z)
          simpa using this
/-! ### counting_column -/
def spCount : Sp := fun vs H Q _ => ∃ j rows : Nat, vs = [nV j, nV rows] ∧ rows ≤ 2048 ∧ ∀ H' : Hp, Same H H' → Q (nV (countC rows j)) H'
theorem scCt : FnScope ["index", "rows", "row"] ["index", "rows"] (defScope sCount) := ⟨rfl, rfl, rfl, by decide +kernel, rfl, by decide +kernel, by decide +kernel⟩
def countL (k j : Nat) : List Int := ((List.range k).filter fun r => r.testBit j).map fun r => ((2 ^ r : Nat) : Int)
theorem countL_succ (k j : Nat) : countL (k + 1) j = countL k j ++ if k.testBit j = true then [((2 ^ k : Nat) : Int)] else [] := by
  unfold countL
  rw [List.range_succ, List.filter_append, List.map_append]
  by_cases h : k.testBit j = true
  · rw [if_pos h]
    simp [h]
  · rw [if_neg h]
    simp [h]
theorem countL_len (k j : Nat) : (countL k j).length ≤ k := by
  unfold countL
  rw [List.length_map]
  refine Nat.le_trans (List.length_filter_le _ _) ?_
  rw [List.length_range]
  exact Nat.le_refl _
theorem countL_sum (j : Nat) : ∀ k, (countL k j).sum = ((countC k j : Nat) : Int)
  | 0 => rfl
  | k + 1 => by
    rw [countL_succ, List.sum_append_int, countL_sum j k]
    unfold countC
    rw [List.range_succ, List.map_append, List.map_singleton, bits_snoc, List.length_map, List.length_range]
    by_cases h : k.testBit j = true
    · rw [if_pos h, if_pos h]
      simp
    · rw [if_neg h, if_neg h]
      simp
theorem ok_count {f : Addr} {fd : FuncData} (F : Fun K "counting_column" "counting_column" sCount f fd) (TS : TxtS mg) : FnOk P w K mg base CX0 1 f fd ["index", "rows"] spCount := by
  refine F.ok scCt (fun vs H Q E h => ?_) (fun cdv A outer s H vs Q E hr h => ?_)
  · obtain ⟨j, rows, rfl, _⟩ := h
    rfl
  · obtain ⟨j, rows, rfl, hrw, k⟩ := h
    refine ⟨_, pss_one (ps_ret (pe_callB (cr_sum rfl) (by rfl) TS.sum (by decide +kernel) (pa_cons (pe_lc (own := [("row", 2)]) (g := gName 2) (by rfl) scCt.nd (pi_range1 (by rfl) TS.range (pa_cons (pv 1) pa_nil))
      (blkOk_by (own := [("row", 2)]) (N := ["index", "rows", "row"]) (sc := defScope sCount) (by decide +kernel)) (fun _ _ _ _ _ => pg_name (i := 2) scCt.nd rfl (Or.inl rfl))
      (fun _ _ _ _ _ => pts_one (pt_cmpR op_eq (pe_op op_oddN (pe_op op_shrNN (pv 2) (pv 0)) pe_int) pe_int (nomark _))) (fun _ _ _ _ _ => pe_op op_oneShlN pe_int (pv 2))) pa_nil))), ?_⟩
    refine ⟨_, rfl, (rows : Int), rfl, (by omega), (by omega), fun D hD => lc_it walk_range
      (fun i H' => Same H H' ∧ H' D = some (.lst ((countL i j).map V.int))) ?_ (fun _ _ _ _ => trivial) ?_ ?_⟩
    · exact ⟨Same.upd_own hD, upd_same⟩
    · rintro i x H2 H3 hi ⟨s1, hd⟩ ⟨rfl, rfl⟩
      have hil : i < rows := by
        have : i < (rows : Int).toNat := hi
        omega
      refine ⟨rfl, _, rfl, _, rfl, i, j, nV_turn i, rfl, i / 2 ^ j, rfl, rfl, rfl, _, rfl, ?_⟩
      have et : decide (nV (i / 2 ^ j % 2) = V.int 1) = i.testBit j := by
        rw [← test_div, Bool.eq_iff_iff]
        simp only [decide_eq_true_eq]
        exact nV_inj (y := 1)
      rw [et]
      by_cases hb : i.testBit j = true
      · refine if_t hb ⟨_, rfl, i, rfl, nV_turn i, by omega, _, hd, ?_, Same.upd_new s1 hD, ?_⟩
        · rw [List.length_map]
          exact Nat.lt_of_le_of_lt (show _ ≤ 2048 from Nat.le_trans (countL_len i j) (by omega)) (by decide)
        · rw [upd_same, countL_succ, if_pos hb, List.map_append]
          rfl
      · refine if_f (by simpa using hb) ⟨s1, ?_⟩
        rw [hd, countL_succ, if_neg hb, List.append_nil]
    · rintro H2 ⟨s1, hd⟩
      have e : (rows : Int).toNat = rows := by omega
      rw [e] at hd
      refine ⟨D, countL rows j, rfl, SqL.of hd, ?_⟩
      rw [countL_sum]
      exact k H2 s1
/-! ### differing_rows -/
def spApart : Sp := fun vs H Q _ => ∃ (a b : Addr) (xs ys : List Nat) (L : Nat), vs = [.ref a, .ref b] ∧ H a = some (.lst (xs.map nV)) ∧ H b = some (.lst (ys.map nV)) ∧ xs.length = L ∧ ys.length = L ∧ ∀ H' : Hp, Same H H' → Q (nV (apart xs ys L)) H'
abbrev daN : List Str := ["columns", "others", "rows_apart", "column", "other"]
theorem scDa : FnScope daN ["columns", "others"] (defScope sApart) := ⟨rfl, rfl, rfl, by decide +kernel, rfl, by decide +kernel, by decide +kernel⟩
theorem nV_item {l : List Nat} {i : Nat} {x : V} (h : (l.map nV)[i]? = some x) : x = nV (l.getD i 0) ∧ l[i]? = some (l.getD i 0) := by
  rw [List.getElem?_map] at h
  cases e : l[i]? with
  | none => rw [e] at h; cases h
  | some z =>
    rw [e] at h
    rw [List.getD_eq_getElem?_getD, e]
    exact ⟨(Option.some.inj h).symm, rfl⟩
theorem ok_apart {f : Addr} {fd : FuncData} (F : Fun K "differing_rows" "differing_rows" sApart f fd) (TS : TxtS mg) : FnOk P w K mg base CX0 1 f fd ["columns", "others"] spApart := by
  refine F.ok scDa (fun vs H Q E h => ?_) (fun cdv A outer s H vs Q E hr h => ?_)
  · obtain ⟨a, b, xs, ys, L, rfl, _⟩ := h
    rfl
  · obtain ⟨a, b, xs, ys, L, rfl, ha, hb, lx, ly, k⟩ := h
    refine ⟨_, pss_cons (ps_set (i := 2) scDa.nd rfl (.inl rfl) pe_int)
      (pss_cons (ps_for PassesOwn.never rfl (pi_zip (by rfl) TS.zip (pa_cons (pv 0) (pa_cons (pv 1) pa_nil))) (pg_tup rfl (pgs_cons (pg_name (i := 3) scDa.nd rfl (.inl rfl)) (pgs_cons (pg_name (i := 4) scDa.nd rfl (.inl rfl)) pgs_nil)))
        (pss_one (ps_aug (i := 2) scDa.nd rfl (.inl rfl) (pe_op op_xorNN (pv 3) (pv 4)) ip_orNN)))
      (pss_one (ps_ret (pv 2)))), ?_⟩
    refine ⟨_, rfl, _, rfl, a, b, _, _, rfl, SqL.of ha, SqL.of hb, for_it (walk_zip (K := K) (xs := xs.map nV) (ys := ys.map nV) (n := L) (by rw [List.length_map, List.length_map, lx, ly, Nat.min_self]))
      (fun i σ H' => ∃ v3 v4, σ = [some (.ref a), some (.ref b), some (nV (apart xs ys i)), v3, v4] ∧ Same H H') ?_ ?_ ?_ ?_⟩
    · exact ⟨_, _, rfl, Same.refl _⟩
    · rintro i σ H' _ ⟨_, _, rfl, s1⟩
      exact ⟨SqL.of (s1 _ _ ha), SqL.of (s1 _ _ hb)⟩
    · rintro i v σ H1 H2 hi ⟨v3, v4, rfl, s1⟩ ⟨Tp, x, y, rfl, hT, rfl, hx, hy⟩
      obtain ⟨rfl, _⟩ := nV_item hx
      obtain ⟨rfl, _⟩ := nV_item hy
      have sT : Same H1 (upd H1 Tp (.tup [nV (xs.getD i 0), nV (ys.getD i 0)])) := Same.upd_own hT
      refine ⟨Tp, _, rfl, SqT.of upd_same, rfl, _, _, rfl, _, _, rfl, rfl, ?_⟩
      refine ⟨_, rfl, _, rfl, _, rfl, _, _, rfl, rfl, _, _, rfl, rfl, ?_⟩
      exact ⟨_, _, rfl, s1.trans sT⟩
    · rintro σ H1 ⟨v3, v4, rfl, s1⟩
      exact ⟨_, rfl, k H1 s1⟩
/-! ### lowest_place -/
def spLow : Sp := fun vs H Q _ => ∃ k a : Nat, vs = [nV (2 ^ k * (2 * a + 1))] ∧ Q (nV k) H
theorem scLw : FnScope ["number"] ["number"] (defScope sLow) := ⟨rfl, rfl, rfl, by decide +kernel, rfl, by decide +kernel, by decide +kernel⟩
theorem bits_pow (k : Nat) : Builtin.Int.intBits ((2 ^ k : Nat) : Int) = k + 1 := by
  have h : (2 ^ k : Nat) ≠ 0 := Nat.ne_of_gt (Nat.two_pow_pos k)
  unfold Builtin.Int.intBits
  rw [if_neg]
  · rw [Int.natAbs_natCast, Nat.log2_two_pow]
  · intro z
    have : ((2 ^ k : Nat) : Int) = 0 := by simpa using z
    omega
theorem low_and (k a : Nat) : Builtin.bitAnd ((2 ^ k * (2 * a + 1) : Nat) : Int) (-((2 ^ k * (2 * a + 1) : Nat) : Int)) = ((2 ^ k : Nat) : Int) := by
  have e : ((2 ^ k * (2 * a + 1) : Nat) : Int) = 2 ^ k * (2 * (a : Int) + 1) := by
    rw [Int.natCast_mul, PySem.W.kbt_cast]
    congr 1
  rw [e, PySem.W.kbt_low, PySem.W.kbt_cast]
theorem ok_low {f : Addr} {fd : FuncData} (F : Fun K "lowest_place" "lowest_place" sLow f fd) : FnOk P w K mg base CX0 1 f fd ["number"] spLow := by
  refine F.ok scLw (fun vs H Q E h => ?_) (fun cdv A outer s H vs Q E hr h => ?_)
  · obtain ⟨k, a, rfl, _⟩ := h
    rfl
  · obtain ⟨k, a, rfl, q⟩ := h
    refine ⟨_, pss_one (ps_ret (pe_op op_sub (pe_bits (pe_op op_and (pv 0) (pe_un un_neg (pv 0)))) pe_int)), ?_⟩
    refine ⟨_, rfl, _, rfl, _, rfl, _, _, rfl, rfl, _, rfl, _, _, rfl, rfl, ?_⟩
    show Q (.int (((Builtin.Int.intBits (Builtin.bitAnd ((2 ^ k * (2 * a + 1) : Nat) : Int) (-((2 ^ k * (2 * a + 1) : Nat) : Int))) : Nat) : Int) - 1)) H
    rw [low_and, bits_pow]
    have e : ((k + 1 : Nat) : Int) - 1 = (k : Int) := by omega
    rw [e]
    exact q
end
end GN
namespace GN
open PySem PySem.Spec PyProof.Rows L2
section
variable {P : Program} {w : World} {K : PySem.W.Frag} {mg : Str → Option Value} {base : Heap} {CF CG CN CM dk rg db : Addr}
theorem item_of {α : Type} {f : α → V} {l : List α} {i : Nat} {x : V} (h : (l.map f)[i]? = some x) : ∃ z, l[i]? = some z ∧ x = f z := by
  rw [List.getElem?_map] at h
  cases e : l[i]? with
  | none => rw [e] at h; cases h
  | some z => rw [e] at h; exact ⟨z, rfl, (Option.some.inj h).symm⟩
/-! ### gate_column -/
def spGateC (K : PySem.W.Frag) : Sp := fun vs H Q _ => ∃ (kt : Addr) (tab : List Bool) (a b c full : Nat), vs = [.ref kt, nV a, nV b, nV c, nV full] ∧ (∀ H : Hp, SqT K H kt (bl tab)) ∧ tab.length ≤ 8 ∧ ∀ H' : Hp, Same H H' → Q (nV (gcol tab full a b c tab.length)) H'
abbrev gcN : List Str := ["given", "first", "second", "third", "full", "firsts", "seconds", "thirds", "column", "bits", "bit"]
theorem scGc : FnScope gcN ["given", "first", "second", "third", "full"] (defScope sGateC) := ⟨rfl, rfl, rfl, by decide +kernel, rfl, by decide +kernel, by decide +kernel⟩
theorem pick_at (full a j : Nat) (h : j < 2) : atI [nV (full ^^^ a), nV a] (j : Int) = some (nV (pick j full a)) := by
  refine atI_nat ?_
  match j, h with
  | 0, _ => rfl
  | 1, _ => rfl
theorem ok_gateC {f : Addr} {fd : FuncData} (F : Fun K "gate_column" "gate_column" sGateC f fd) (TM : TxtM K mg CM) : FnOk P w K mg base CX0 1 f fd ["given", "first", "second", "third", "full"] (spGateC K) := by
  refine F.ok scGc (fun vs H Q E h => ?_) (fun cdv A outer s H vs Q E hr h => ?_)
  · obtain ⟨kt, tab, a, b, c, full, rfl, _⟩ := h
    rfl
  · obtain ⟨kt, tab, a, b, c, full, rfl, hkt, htl, k⟩ := h
    refine ⟨_, pss_cons (ps_set (i := 5) scGc.nd rfl (.inl rfl) (pe_tup (pa_cons (pe_op op_xorNN (pv 4) (pv 1)) (pa_cons (pv 1) pa_nil))))
      (pss_cons (ps_set (i := 6) scGc.nd rfl (.inl rfl) (pe_tup (pa_cons (pe_op op_xorNN (pv 4) (pv 2)) (pa_cons (pv 2) pa_nil))))
      (pss_cons (ps_set (i := 7) scGc.nd rfl (.inl rfl) (pe_tup (pa_cons (pe_op op_xorNN (pv 4) (pv 3)) (pa_cons (pv 3) pa_nil))))
      (pss_cons (ps_set (i := 8) scGc.nd rfl (.inl rfl) pe_int)
      (pss_cons (ps_for PassesOwn.never rfl (GNe.pi_enumT (by rfl) TM.enum (pa_cons (pv 0) pa_nil)) (pg_tup rfl (pgs_cons (pg_name (i := 9) scGc.nd rfl (.inl rfl)) (pgs_cons (pg_name (i := 10) scGc.nd rfl (.inl rfl)) pgs_nil)))
        (pss_one (ps_if (pt_cmpR op_eq (pv 10) pe_int (nomark _))
          (pss_one (ps_aug (i := 8) scGc.nd rfl (.inl rfl) (pe_op op_andNN (pe_op op_andNN (pe_ix ix_tup (pv 5) (pe_op op_shrNN (pv 9) pe_int) (fun _ _ => rfl)) (pe_ix ix_tup (pv 6) (pe_op op_oddN (pe_op op_shrNN (pv 9) pe_int) pe_int) (fun _ _ => rfl)))
            (pe_ix ix_tup (pv 7) (pe_op op_oddN (pv 9) pe_int) (fun _ _ => rfl))) ip_orNN)) pss_nil)))
      (pss_one (ps_ret (pv 8))))))), ?_⟩
    -- firsts, seconds, thirds
    refine ⟨_, rfl, _, rfl, _, _, rfl, rfl, _, rfl, (by show 2 ≤ sizeLine; decide), fun t1 ht1 => ?_⟩
    have s1 : Same H (upd H t1 (.tup [nV (full ^^^ a), nV a])) := Same.upd_own ht1
    have h1 : (upd H t1 (.tup [nV (full ^^^ a), nV a])) t1 = some (.tup [nV (full ^^^ a), nV a]) := upd_same
    generalize upd H t1 (.tup [nV (full ^^^ a), nV a]) = H1 at s1 h1 ⊢
    refine ⟨_, rfl, _, rfl, _, _, rfl, rfl, _, rfl, (by show 2 ≤ sizeLine; decide), fun t2 ht2 => ?_⟩
    have s2 : Same H1 (upd H1 t2 (.tup [nV (full ^^^ b), nV b])) := Same.upd_own ht2
    have h2 : (upd H1 t2 (.tup [nV (full ^^^ b), nV b])) t2 = some (.tup [nV (full ^^^ b), nV b]) := upd_same
    generalize upd H1 t2 (.tup [nV (full ^^^ b), nV b]) = H2 at s2 h2 ⊢
    refine ⟨_, rfl, _, rfl, _, _, rfl, rfl, _, rfl, (by show 2 ≤ sizeLine; decide), fun t3 ht3 => ?_⟩
    have s3 : Same H2 (upd H2 t3 (.tup [nV (full ^^^ c), nV c])) := Same.upd_own ht3
    have h3 : (upd H2 t3 (.tup [nV (full ^^^ c), nV c])) t3 = some (.tup [nV (full ^^^ c), nV c]) := upd_same
    generalize upd H2 t3 (.tup [nV (full ^^^ c), nV c]) = H3 at s3 h3 ⊢
    -- for bits, bit in enumerate(given)
    refine ⟨_, rfl, kt, _, rfl, hkt H3, for_it (GNe.walk_enumT (K := K) (xs := bl tab))
      (fun i σ H' => ∃ v9 v10, σ = [some (.ref kt), some (nV a), some (nV b), some (nV c), some (nV full), some (.ref t1), some (.ref t2), some (.ref t3), some (nV (gcol tab full a b c i)), v9, v10] ∧ Same H3 H') ?_ ?_ ?_ ?_⟩
    · exact ⟨_, _, rfl, Same.refl _⟩
    · rintro i σ H' _ ⟨_, _, rfl, _⟩
      exact hkt H'
    · rintro i v σ H4 H5 hi ⟨v9, v10, rfl, s4⟩ ⟨Tp, x, y, rfl, hT, rfl, hx, hy⟩
      cases hx
      have hil : i < tab.length := by
        have := hi
        rw [bl_len] at this
        exact this
      have hy2 : (bl tab)[i]? = some y := hy
      rw [bl_get hil] at hy2
      cases hy2
      have sT : Same H4 (upd H4 Tp (.tup [.int (i : Nat), vB (bAt tab i)])) := Same.upd_own hT
      have hs3 := s4.trans sT
      refine ⟨Tp, _, rfl, SqT.of upd_same, rfl, _, _, rfl, _, _, rfl, rfl, ?_⟩
      generalize upd H4 Tp (.tup [.int (i : Nat), vB (bAt tab i)]) = H6 at hs3 ⊢
      refine ⟨_, rfl, rfl, _, rfl, ?_⟩
      by_cases hb : bAt tab i = true
      · refine if_t (by rw [hb]; rfl) ?_
        refine ⟨_, rfl, _, rfl, _, rfl, i, 2, rfl, rfl, t1, _, _, _, rfl, rfl, SqT.of (hs3 _ _ (s3 _ _ (s2 _ _ h1))), pick_at full a (i / 2 ^ 2) (by omega), ?_⟩
        refine ⟨_, rfl, _, rfl, i, 1, rfl, rfl, _, rfl, rfl, t2, _, _, _, rfl, rfl, SqT.of (hs3 _ _ (s3 _ _ h2)), pick_at full b (i / 2 ^ 1 % 2) (by omega), _, _, rfl, rfl, ?_⟩
        refine ⟨_, rfl, _, rfl, i, rfl, rfl, t3, _, _, _, rfl, rfl, SqT.of (hs3 _ _ h3), pick_at full c (i % 2) (by omega), _, _, rfl, rfl, _, _, rfl, rfl, ?_⟩
        refine ⟨some (.int (i : Nat)), some (vB (bAt tab i)), ?_, hs3⟩
        have e : gcol tab full a b c (i + 1) = gcol tab full a b c i ||| (pick (i / 2 ^ 2) full a &&& pick (i / 2 ^ 1 % 2) full b &&& pick (i % 2) full c) := by
          show (if bAt tab i = true then gcol tab full a b c i ||| term full a b c i else gcol tab full a b c i) = _
          rw [if_pos hb]
          rfl
        rw [e]
        rfl
      · have hb' : bAt tab i = false := by simpa using hb
        refine if_f (by rw [hb']; rfl) ⟨some (.int (i : Nat)), some (vB (bAt tab i)), ?_, hs3⟩
        have e : gcol tab full a b c (i + 1) = gcol tab full a b c i := by
          show (if bAt tab i = true then gcol tab full a b c i ||| term full a b c i else gcol tab full a b c i) = _
          rw [if_neg hb]
        rw [e]
        rfl
    · rintro σ H4 ⟨v9, v10, rfl, s4⟩
      refine ⟨_, rfl, ?_⟩
      rw [bl_len]
      exact k H4 (s1.trans (s2.trans (s3.trans s4)))
/-! ### output_columns -/
def StFit (p : PN) (sts : List SR) : Prop := ∀ q ∈ sts, q.pg.src.length ≤ 3 ∧ q.pg.name ∈ nmsP p ∧ ∀ s ∈ q.pg.src, s ∈ nmsP p
def spOutC (K : PySem.W.Frag) (CM : Addr) : Sp := fun vs H Q _ => ∃ (M : MAd) (p : PN) (sts : List SR) (mvs : List MR) (B : List Bool) (li : Addr) (ic : List Nat) (full : Nat), vs = [.ref M.a, .ref li, nV full] ∧ MOk K CM H M p sts mvs B ∧ B.length = (nmsP p).length + 1 ∧ (nmsP p).length ≤ 1024 ∧
  H li = some (.lst (ic.map nV)) ∧ ic.length = p.ins.length ∧ StFit p sts ∧ (∀ z ∈ p.outs, z ∈ nmsP p) ∧ p.outs.length ≤ 64 ∧
  ∀ (H' : Hp) (l : Addr), Same H H' → H' l = some (.lst ((outN p (sts.map SR.pg) full ic).map nV)) → Q (.ref l) H'
abbrev ocN : List Str := ["machine", "inputs", "full", "columns", "place", "column", "given", "first", "second", "third"]
theorem scOc : FnScope ocN ["machine", "inputs", "full"] (defScope sOutC) := ⟨rfl, rfl, rfl, by decide +kernel, rfl, by decide +kernel, by decide +kernel⟩
theorem nV_get {C : List Nat} {i : Nat} (h : i < C.length) : atI (C.map nV) (i : Int) = some (nV (C.getD i 0)) := by
  refine atI_nat ?_
  rw [List.getElem?_map, List.getD_eq_getElem?_getD, List.getElem?_eq_getElem h]
  rfl
theorem nV_set (C : List Nat) (i c : Nat) : (C.map nV).set i (nV c) = (C.set i c).map nV := List.map_set.symm
theorem rep_nV (k : Nat) : List.replicate k (V.int 0) = (List.replicate k 0).map nV := by
  rw [List.map_replicate]
  rfl
theorem ok_outC {f fG : Addr} {fd fdG : FuncData} (F : Fun K "output_columns" "output_columns" sOutC f fd) (T : Txt K mg CF CG CN) (TM : TxtM K mg CM) (TS : TxtS mg)
    (GG : FnOk P w K mg base CX0 1 fG fdG ["given", "first", "second", "third", "full"] (spGateC K)) (kG : PySem.W.keepIn K (.ref fG) = true) (bG : Binds K fdG ["given", "first", "second", "third", "full"] []) (mG : mg "gate_column" = some (.ref fG)) :
    FnOk P w K mg base CX0 2 f fd ["machine", "inputs", "full"] (spOutC K CM) := by
  refine F.ok scOc (fun vs H Q E h => ?_) (fun cdv A outer s H vs Q E hr h => ?_)
  · obtain ⟨M, p, sts, mvs, B, li, ic, full, rfl, _⟩ := h
    rfl
  · obtain ⟨M, p, sts, mvs, B, li, ic, full, rfl, m, hB, hlen, hli, hil, hst, ho, hol, k⟩ := h
    refine ⟨_, pss_cons (ps_set (i := 3) scOc.nd rfl (.inr rfl) (pe_op op_rep (pe_lst (pa_cons pe_int pa_nil)) (pe_callB call_len_seq (by rfl) T.len PySem.boot_len (pa_cons (pe_fld (pv 0) rfl) pa_nil))))
      (pss_cons (ps_for PassesOwn.never rfl (pi_zip (by rfl) TS.zip (pa_cons (pe_fld (pv 0) rfl) (pa_cons (pv 1) pa_nil))) (pg_tup rfl (pgs_cons (pg_name (i := 4) scOc.nd rfl (.inl rfl)) (pgs_cons (pg_name (i := 5) scOc.nd rfl (.inl rfl)) pgs_nil)))
        (pss_one (ps_asg (pv 5) (pg_sub (pv 3) (pv 4) set_list))))
      (pss_cons (ps_for PassesOwn.never rfl (pi_list (pe_fld (pv 0) rfl)) (pg_tup rfl (pgs_cons (pg_name (i := 4) scOc.nd rfl (.inl rfl)) (pgs_cons (pg_name (i := 6) scOc.nd rfl (.inl rfl)) (pgs_cons (pg_name (i := 7) scOc.nd rfl (.inl rfl))
          (pgs_cons (pg_name (i := 8) scOc.nd rfl (.inl rfl)) (pgs_cons (pg_name (i := 9) scOc.nd rfl (.inl rfl)) pgs_nil))))))
        (pss_one (ps_asg (pe_call GG hr rfl mG kG bG .nil pass0 (pa_cons (pv 6) (pa_cons (pe_ix ix_list (pv 3) (pv 7) (fun _ _ => rfl)) (pa_cons (pe_ix ix_list (pv 3) (pv 8) (fun _ _ => rfl)) (pa_cons (pe_ix ix_list (pv 3) (pv 9) (fun _ _ => rfl)) (pa_cons (pv 2) pa_nil))))))
          (pg_sub (pv 3) (pv 4) set_list))))
      (pss_one (ps_ret (pe_lc (own := [("place", 4)]) (g := gName 4) (tt := tYes) (te := tOp (rIxL K) (tVar 3) (tVar 4)) (by rfl) scOc.nd (pi_list (pe_fld (pv 0) rfl))
        (blkOk_by (own := [("place", 4)]) (N := ocN) (sc := defScope sOutC) (by decide +kernel)) (fun _ _ _ _ _ => pg_name (i := 4) scOc.nd rfl (Or.inl rfl)) (fun _ _ _ _ _ => pts_nil)
        (fun _ _ _ _ _ => pe_ix ix_list (pv 3) (pv 4) (fun _ _ => rfl))))))), ?_⟩
    generalize hN : nmsP p = nms at *
    -- columns = [0] * len(machine.bits)
    refine ⟨(by show 1 ≤ sizeLine; decide), fun l0 hl0 => ?_⟩
    have sA : Same H (upd H l0 (.lst [.int 0])) := Same.upd_own hl0
    have hA0 : (upd H l0 (.lst [.int 0])) l0 = some (.lst [.int 0]) := upd_same
    generalize upd H l0 (.lst [.int 0]) = HA at sA hA0 ⊢
    have mA := m.same sA
    refine ⟨_, rfl, M.a, CM, M.dx, _, _, rfl, mA.ob, TM.cM, TM.nB, mF_bits M, M.lb, _, rfl, .inl (SqL.of mA.bits), l0, _, _, rfl, rfl, hA0, ?_, ?_, ?_, fun l hl => ?_⟩
    · rw [bl_len, hB]; omega
    · rw [bl_len, hB]; omega
    · rw [bl_len, hB]
      refine Nat.le_trans (m := 1025) ?_ (by decide)
      simp only [List.length_cons, List.length_nil]
      omega
    have hlist : (List.replicate (((bl B).length : Int).toNat) [V.int 0]).flatten = (List.replicate (nms.length + 1) 0).map nV := by
      rw [flat_rep, bl_len, hB, show ((nms.length + 1 : Nat) : Int).toNat = nms.length + 1 by omega, rep_nV]
    rw [hlist]
    have hlH : H l = none := by
      cases q : H l with
      | none => rfl
      | some o => rw [sA _ _ q] at hl; cases hl
    have s1 : Same H (upd HA l (.lst ((List.replicate (nms.length + 1) 0).map nV))) := sA.trans (Same.upd_own hl)
    have h1 : (upd HA l (.lst ((List.replicate (nms.length + 1) 0).map nV))) l = some (.lst ((List.replicate (nms.length + 1) 0).map nV)) := upd_same
    generalize upd HA l (.lst ((List.replicate (nms.length + 1) 0).map nV)) = H1 at s1 h1 ⊢
    have m1 := m.same s1
    -- for place, column in zip(machine.input_places, inputs)
    refine ⟨_, rfl, M.a, CM, M.dx, _, _, rfl, m1.ob, TM.cM, TM.nI, mF_in M, _, rfl, M.li, li, _, _, rfl, SqL.of m1.ip, SqL.of (s1 _ _ hli), for_it (walk_zip (K := K) (xs := p.ins.map (plV (nmsP p))) (ys := ic.map nV) (n := p.ins.length) (by rw [List.length_map, List.length_map, hil, Nat.min_self]))
      (fun i σ H' => ∃ v4 v5 v6 v7 v8 v9, σ = [some (.ref M.a), some (.ref li), some (nV full), some (.ref l), v4, v5, v6, v7, v8, v9] ∧ Same H H' ∧ H' l = some (.lst ((setsN nms ((p.ins.zip ic).take i) (List.replicate (nms.length + 1) 0)).map nV))) ?_ ?_ ?_ ?_⟩
    · exact ⟨_, _, _, _, _, _, rfl, s1, h1⟩
    · rintro i σ H' _ ⟨_, _, _, _, _, _, rfl, s2, _⟩
      exact ⟨SqL.of (s2 _ _ m.ip), SqL.of (s2 _ _ hli)⟩
    · rintro i v σ H2 H3 hi ⟨v4, v5, v6, v7, v8, v9, rfl, s2, h2⟩ ⟨Tp, x, y, rfl, hT, rfl, hx, hy⟩
      obtain ⟨z, hz, rfl⟩ := item_of hx
      obtain ⟨rfl, hc⟩ := nV_item hy
      have hzm : z ∈ nms := by rw [← hN]; exact List.mem_append_left _ (List.mem_of_getElem? hz)
      have sT : Same H2 (upd H2 Tp (.tup [plV (nmsP p) z, nV (ic.getD i 0)])) := Same.upd_own hT
      refine ⟨Tp, _, rfl, SqT.of upd_same, rfl, _, _, rfl, _, _, rfl, rfl, ?_⟩
      have hlt : pl nms z < ((setsN nms ((p.ins.zip ic).take i) (List.replicate (nms.length + 1) 0)).map nV).length := by
        rw [List.length_map, setsN_len, List.length_replicate]
        exact Nat.lt_succ_of_lt (pl_lt hzm)
      rw [hN] at sT ⊢
      refine ⟨_, rfl, _, rfl, _, rfl, l, _, _, _, rfl, rfl, sT _ _ h2, ixN_nat hlt, ?_⟩
      refine ⟨_, _, _, _, _, _, rfl, Same.upd_new (s2.trans sT) hlH, ?_⟩
      have hzip : (p.ins.zip ic)[i]? = some (z, ic.getD i 0) := by
        rw [List.getElem?_zip_eq_some]
        exact ⟨hz, hc⟩
      rw [upd_same, take_more hzip, setsN_snoc, nV_set]
    rintro σ H2 ⟨v4, v5, v6, v7, v8, v9, rfl, s2, h2⟩
    have htake : (p.ins.zip ic).take p.ins.length = p.ins.zip ic := List.take_of_length_le (by rw [List.length_zip]; omega)
    rw [htake] at h2
    have m2 := m.same s2
    -- for place, given, first, second, third in machine.steps
    refine ⟨_, rfl, M.a, CM, M.dx, _, _, rfl, m2.ob, TM.cM, TM.nS, mF_steps M, M.ls, rfl, ⟨_, SqL.of m2.st⟩, for_list (K := K) (a := M.ls) (xs := sts.map fun q => V.ref q.t)
      (fun i σ H' => ∃ v4 v5 v6 v7 v8 v9, σ = [some (.ref M.a), some (.ref li), some (nV full), some (.ref l), v4, v5, v6, v7, v8, v9] ∧ Same H H' ∧ H' l = some (.lst ((gatesN nms full ((sts.map SR.pg).take i) (setsN nms (p.ins.zip ic) (List.replicate (nms.length + 1) 0))).map nV))) ?_ ?_ ?_ ?_⟩
    · exact ⟨_, _, _, _, _, _, rfl, s2, h2⟩
    · rintro i σ H' _ ⟨_, _, _, _, _, _, rfl, s3, _⟩
      exact SqL.of (s3 _ _ m.st)
    · rintro i v σ H3 hi ⟨v4, v5, v6, v7, v8, v9, rfl, s3, h3⟩
      obtain ⟨q, hq, rfl⟩ := item_of hi
      have hqm : q ∈ sts := List.mem_of_getElem? hq
      obtain ⟨q1, q2, q3⟩ := hst q hqm
      rw [hN] at q2 q3
      have m3 := m.same s3
      have hpg : (sts.map SR.pg)[i]? = some q.pg := by rw [List.getElem?_map, hq]; rfl
      generalize hC : gatesN nms full ((sts.map SR.pg).take i) (setsN nms (p.ins.zip ic) (List.replicate (nms.length + 1) 0)) = C at h3
      have hCl : C.length = nms.length + 1 := by rw [← hC, gatesN_len, setsN_len, List.length_replicate]
      have hs : ∀ j, j < 3 → (sidx nms q.pg).getD j 0 < C.length := by
        intro j hj
        rcases sidx_mem (nms := nms) q1 hj with e | ⟨y, hy, e⟩
        · rw [e, hCl]; exact Nat.lt_succ_self _
        · rw [e, hCl]; exact Nat.lt_succ_of_lt (pl_lt (q3 y hy))
      have htup := (m3.sts q hqm).tup
      rw [hN] at htup
      refine ⟨q.t, _, rfl, SqT.of htup, rfl, _, _, rfl, _, _, rfl, _, _, rfl, _, _, rfl, _, _, rfl, rfl, ?_⟩
      refine ⟨_, rfl, _, rfl, _, rfl, l, _, _, _, rfl, rfl, SqL.of h3, nV_get (hs 0 (by decide)), _, rfl, _, rfl, l, _, _, _, rfl, rfl, SqL.of h3, nV_get (hs 1 (by decide)), _, rfl, _, rfl, l, _, _, _, rfl, rfl, SqL.of h3, nV_get (hs 2 (by decide)), _, rfl,
        q.kt, tabK q.pg.kind, _, _, _, full, rfl, (m3.sts q hqm).tab, tabK_len _, fun H4 s4 => ?_⟩
      have hlt : pl nms q.pg.name < (C.map nV).length := by
        rw [List.length_map, hCl]
        exact Nat.lt_succ_of_lt (pl_lt q2)
      refine ⟨_, rfl, _, rfl, l, _, _, _, rfl, rfl, s4 _ _ h3, ixN_nat hlt, ?_⟩
      refine ⟨_, _, _, _, _, _, rfl, Same.upd_new (s3.trans s4) hlH, ?_⟩
      rw [upd_same, take_more hpg, gatesN_snoc, hC, nV_set]
      rfl
    rintro σ H3 ⟨v4, v5, v6, v7, v8, v9, rfl, s3, h3⟩
    rw [List.length_map, List.take_of_length_le (by simp)] at h3
    have m3 := m.same s3
    have hcol : gatesN nms full (sts.map SR.pg) (setsN nms (p.ins.zip ic) (List.replicate (nms.length + 1) 0)) = colsN p (sts.map SR.pg) full ic := by
      unfold colsN
      rw [hN]
    rw [hcol] at h3
    have hCl : (colsN p (sts.map SR.pg) full ic).length = nms.length + 1 := by rw [← hcol, gatesN_len, setsN_len, List.length_replicate]
    -- return [columns[place] for place in machine.output_places]
    refine ⟨_, rfl, M.a, CM, M.dx, _, _, rfl, m3.ob, TM.cM, TM.nO, mF_out M, M.lo, rfl, ⟨_, SqL.of m3.op⟩, fun D hD => lc_list (K := K) (a := M.lo) (xs := p.outs.map (plV (nmsP p)))
      (fun i H' => Same H3 H' ∧ H' D = some (.lst (((outN p (sts.map SR.pg) full ic).take i).map nV))) ?_ ?_ ?_ ?_⟩
    · exact ⟨Same.upd_own hD, upd_same⟩
    · rintro i H' _ ⟨s4, _⟩
      exact SqL.of (s4 _ _ m3.op)
    · rintro i x H4 hi ⟨s4, h4⟩
      obtain ⟨z, hz, rfl⟩ := item_of hi
      have hzm := ho z (List.mem_of_getElem? hz)
      have hio : i < p.outs.length := (List.getElem?_eq_some_iff.mp hz).1
      have hlt : pl (nmsP p) z < (colsN p (sts.map SR.pg) full ic).length := by
        rw [hCl, hN]
        exact Nat.lt_succ_of_lt (pl_lt hzm)
      refine ⟨rfl, _, rfl, _, rfl, l, _, _, _, rfl, rfl, SqL.of (s4 _ _ h3), nV_get hlt, _, h4, ?_, Same.upd_new s4 hD, ?_⟩
      · rw [List.length_map, List.length_take]
        exact Nat.lt_of_le_of_lt (show _ ≤ 64 by omega) (by decide)
      · have hoz : (outN p (sts.map SR.pg) full ic)[i]? = some ((colsN p (sts.map SR.pg) full ic).getD (pl (nmsP p) z) 0) := by
          unfold outN
          rw [List.getElem?_map, hz]
          rfl
        rw [upd_same, take_more hoz, List.map_append]
        rfl
    · rintro H4 ⟨s4, h4⟩
      have hol2 : (outN p (sts.map SR.pg) full ic).length = p.outs.length := by unfold outN; rw [List.length_map]
      rw [List.length_map, ← hol2, List.take_length] at h4
      exact k H4 D (s3.trans s4) h4
end
end GN
namespace GN
open PySem PySem.Spec PyProof.Rows L2
/-- a machine of a network without registers -/
structure MachOk (K : PySem.W.Frag) (CM : Addr) (H : Hp) (M : MAd) (n : Sf33.Net) (m : Nat) (order : List Str) : Prop where
  pl : Plain n m order
  ok : ∃ (sts : List SR) (mvs : List MR) (B : List Bool), MOk K CM H M (encN n) sts mvs B ∧ B.length = (nmsP (encN n)).length + 1 ∧ sts.map SR.pg = rowOf (encN n) order
theorem MachOk.same {K : PySem.W.Frag} {CM : Addr} {H H' : Hp} {M : MAd} {n : Sf33.Net} {m : Nat} {order : List Str} (h : MachOk K CM H M n m order) (s : Same H H') : MachOk K CM H' M n m order := by
  obtain ⟨p, sts, mvs, B, h1, h2, h3⟩ := h
  exact ⟨p, sts, mvs, B, h1.same s, h2, h3⟩
theorem steps_fit {n : Sf33.Net} {m : Nat} {order : List Str} (p : Plain n m order) {sts : List SR} (h : sts.map SR.pg = rowOf (encN n) order) : StFit (encN n) sts := by
  obtain ⟨wf, k⟩ := p.kinv
  obtain ⟨R, _⟩ := row_ok p.good k
  intro q hq
  have hm : q.pg ∈ rowOf (encN n) order := by rw [← h]; exact List.mem_map.mpr ⟨q, hq, rfl⟩
  exact ⟨R.few q.pg hm, R.nm q.pg hm, R.src q.pg hm⟩
def ansV : Option Nat → V
  | none => .non
  | some x => nV x
theorem within_min (m : Nat) : V.int (if (11 : Int) < (m : Int) then 11 else (m : Int)) = nV (within m) := by
  unfold within
  congr 1
  split <;> omega
theorem nat_lo (x : Nat) : -(2 ^ 62) ≤ (x : Int) := by omega
theorem nat_hi {x : Nat} (h : x ≤ 65536) : (x : Int) < 2 ^ 62 := by omega
theorem rows_le (m : Nat) : 2 ^ within m ≤ 2048 := Nat.le_trans (Nat.pow_le_pow_right (by decide) (within_11 m)) (by decide)
theorem blocks_le {m : Nat} (h : m ≤ 16) : 2 ^ (m - within m) ≤ 65536 := Nat.le_trans (Nat.pow_le_pow_right (by decide) (show m - within m ≤ 16 by omega)) (by decide)
section
variable {P : Program} {w : World} {K : PySem.W.Frag} {mg : Str → Option Value} {base : Heap} {CF CG CN CM dk rg db : Addr}
/-! ### least_difference -/
def spLeast (K : PySem.W.Frag) (CM : Addr) : Sp := fun vs H Q _ => ∃ (M N : MAd) (a b : Sf33.Net) (m : Nat) (oa ob : List Str), vs = [.ref M.a, .ref N.a] ∧ MachOk K CM H M a m oa ∧ MachOk K CM H N b m ob ∧ m ≤ 16 ∧ a.outs.length = b.outs.length ∧
  ∀ H' : Hp, Same H H' → Q (ansV (Sf33.differ a.ready b.ready m)) H'
abbrev ldN : List Str := ["one", "other", "how_many", "within", "rows", "full", "index", "counting", "block", "inputs", "rows_apart"]
theorem scLd : FnScope ldN ["one", "other"] (defScope sLeast) := ⟨rfl, rfl, rfl, by decide +kernel, rfl, by decide +kernel, by decide +kernel⟩
theorem ok_least {f fC fO fA fL : Addr} {fd fdC fdO fdA fdL : FuncData} (F : Fun K "least_difference" "least_difference" sLeast f fd) (T : Txt K mg CF CG CN) (TM : TxtM K mg CM) (TS : TxtS mg)
    (GC : FnOk P w K mg base CX0 1 fC fdC ["index", "rows"] spCount) (kC : PySem.W.keepIn K (.ref fC) = true) (bC : Binds K fdC ["index", "rows"] []) (mC : mg "counting_column" = some (.ref fC))
    (GO : FnOk P w K mg base CX0 2 fO fdO ["machine", "inputs", "full"] (spOutC K CM)) (kO : PySem.W.keepIn K (.ref fO) = true) (bO : Binds K fdO ["machine", "inputs", "full"] []) (mO : mg "output_columns" = some (.ref fO))
    (GA : FnOk P w K mg base CX0 1 fA fdA ["columns", "others"] spApart) (kA : PySem.W.keepIn K (.ref fA) = true) (bA : Binds K fdA ["columns", "others"] []) (mA : mg "differing_rows" = some (.ref fA))
    (GL : FnOk P w K mg base CX0 1 fL fdL ["number"] spLow) (kL : PySem.W.keepIn K (.ref fL) = true) (bL : Binds K fdL ["number"] []) (mL : mg "lowest_place" = some (.ref fL)) :
    FnOk P w K mg base CX0 3 f fd ["one", "other"] (spLeast K CM) := by
  obtain ⟨t1, m1⟩ := TS.mBlock
  refine F.ok scLd (fun vs H Q E h => ?_) (fun cdv A outer s H vs Q E hr h => ?_)
  · obtain ⟨M, N, a, b, m, oa, ob, rfl, _⟩ := h
    rfl
  · obtain ⟨M, N, a, b, m, oa, ob, rfl, hM, hN, hm, hout, k⟩ := h
    have hr1 : Room 1 _ := hr.mono (by decide)
    refine ⟨_, pss_cons (ps_set (i := 2) scLd.nd rfl (.inl rfl) (pe_callB call_len_seq (by rfl) T.len PySem.boot_len (pa_cons (pe_fld (pv 0) rfl) pa_nil)))
      (pss_cons (ps_set (i := 3) scLd.nd rfl (.inl rfl) (pe_callB (call_min2 rfl) (by rfl) TS.min (by decide +kernel) (pa_cons (pv 2) (pa_cons (pe_glob rfl m1 (v := .int 11) ⟨_, rfl⟩) pa_nil))))
      (pss_cons (ps_set (i := 4) scLd.nd rfl (.inr rfl) (pe_op op_oneShlN pe_int (pv 3)))
      (pss_cons (ps_set (i := 5) scLd.nd rfl (.inr rfl) (pe_op op_subN (pe_op op_oneShlN pe_int (pv 4)) pe_int))
      (pss_cons (ps_setLc (i := 7) (own := [("index", 6)]) (g := gName 6) (tt := tYes) (by rfl) scLd.nd rfl rfl (sw_true rfl rfl rfl (by decide +kernel)) (pi_range1 (by rfl) TS.range (pa_cons (pv 3) pa_nil))
        (blkOk_by (own := [("index", 6)]) (N := ldN) (sc := defScope sLeast) (by decide +kernel)) (fun _ _ _ _ _ => pg_name (i := 6) scLd.nd rfl (Or.inl rfl)) (fun _ _ _ _ _ => pts_nil)
        (fun _ _ _ _ _ => pe_call GC hr1 rfl mC kC bC .nil pass0 (pa_cons (pv 6) (pa_cons (pv 4) pa_nil))))
      (pss_cons (ps_for PassesOwn.never rfl (pi_range1 (by rfl) TS.range (pa_cons (pe_op op_oneShlN pe_int (pe_op op_subN (pv 2) (pv 3))) pa_nil)) (pg_name (i := 8) scLd.nd rfl (.inr rfl))
        (pss_cons (ps_set (i := 9) scLd.nd rfl (.inl rfl) (pe_op op_cat (pv 7) (pe_lc (own := [("index", 6)]) (g := gName 6) (tt := tYes) (by rfl) scLd.nd (pi_range1 (by rfl) TS.range (pa_cons (pe_op op_subN (pv 2) (pv 3)) pa_nil))
          (blkOk_by (own := [("index", 6)]) (N := ldN) (sc := defScope sLeast) (by decide +kernel)) (fun _ _ _ _ _ => pg_name (i := 6) scLd.nd rfl (Or.inl rfl)) (fun _ _ _ _ _ => pts_nil)
          (fun _ _ _ _ _ => pe_op op_mulX (pv 5) (pe_op op_oddN (pe_op op_shrNN (pv 8) (pv 6)) pe_int)))))
        (pss_cons (ps_set (i := 10) scLd.nd rfl (.inl rfl) (pe_call GA hr1 rfl mA kA bA .nil pass0 (pa_cons (pe_call GO hr rfl mO kO bO .nil pass0 (pa_cons (pv 0) (pa_cons (pv 9) (pa_cons (pv 5) pa_nil))))
          (pa_cons (pe_call GO hr rfl mO kO bO .nil pass0 (pa_cons (pv 1) (pa_cons (pv 9) (pa_cons (pv 5) pa_nil)))) pa_nil))))
        (pss_one (ps_if (pt_cmpR op_ne (pv 10) pe_int (nomark _)) (pss_one (ps_ret (pe_op op_addN (pe_op op_mulN (pv 8) (pv 4)) (pe_call GL hr1 rfl mL kL bL .nil pass0 (pa_cons (pv 10) pa_nil))))) pss_nil)))))
      (pss_one (ps_ret pe_non))))))), ?_⟩
    have hwl := within_le m
    have hw11 := within_11 m
    have hrl := rows_le m
    have hbl := blocks_le hm
    obtain ⟨sts, mvs, B, mok, hB, hst⟩ := hM.ok
    obtain ⟨sts2, mvs2, B2_, mok2, hB2, hst2⟩ := hN.ok
    have insl : (encN a).ins.length = m := by rw [← hM.pl.ins]; exact List.length_map ..
    have insl2 : (encN b).ins.length = m := by rw [← hN.pl.ins]; exact List.length_map ..
    -- how_many, within, rows, full
    refine ⟨_, rfl, M.a, CM, M.dx, _, _, rfl, mok.ob, TM.cM, TM.nI, mF_in M, M.li, _, rfl, .inl (SqL.of mok.ip), ?_⟩
    rw [List.length_map, insl]
    refine ⟨_, rfl, _, _, rfl, ?_⟩
    rw [within_min]
    refine ⟨_, rfl, within m, rfl, rfl, by omega, ?_⟩
    refine ⟨_, rfl, 2 ^ within m, rfl, rfl, by omega, _, 1, rfl, rfl, Nat.two_pow_pos _, ?_⟩
    generalize hfull : 2 ^ 2 ^ within m - 1 = full at *
    -- counting = [counting_column(index, rows) for index in range(within)]
    refine ⟨_, rfl, ((within m : Nat) : Int), rfl, (by omega), (by omega), fun D hD => lc_it walk_range
      (fun i H' => Same H H' ∧ H' D = some (.lst (((List.range i).map (countC (2 ^ within m))).map nV))) ?_ (fun _ _ _ _ => trivial) ?_ ?_⟩
    · exact ⟨Same.upd_own hD, upd_same⟩
    · rintro i x H2 H3 hi ⟨s1, hd⟩ ⟨rfl, rfl⟩
      have hil : i < within m := by
        have : i < ((within m : Nat) : Int).toNat := hi
        omega
      refine ⟨rfl, _, rfl, _, rfl, i, 2 ^ within m, congrArg (fun v => [v, nV (2 ^ within m)]) (nV_turn i), hrl, fun H4 s4 => ⟨_, s4 _ _ hd, ?_, Same.upd_new (s1.trans s4) hD, ?_⟩⟩
      · rw [List.length_map, List.length_map, List.length_range]
        exact Nat.lt_of_le_of_lt (show _ ≤ 11 by omega) (by decide)
      · rw [upd_same, List.range_succ, List.map_append, List.map_append]
        rfl
    rintro H1 ⟨s1, hc1⟩
    have e1 : ((within m : Nat) : Int).toNat = within m := by omega
    rw [e1] at hc1
    -- for block in range(1 << how_many - within)
    refine ⟨_, rfl, _, rfl, m, within m, rfl, rfl, hwl, m - within m, rfl, rfl, (by omega), ((2 ^ (m - within m) : Nat) : Int), rfl, nat_lo _, nat_hi hbl, for_it walk_range
      (fun i σ H' => ∃ v6 v8 v9 v10, σ = [some (.ref M.a), some (.ref N.a), some (nV m), some (nV (within m)), some (nV (2 ^ within m)), some (nV full), v6, some (.ref D), v8, v9, v10] ∧ Same H1 H' ∧ ∀ y, y < i * 2 ^ within m → ¬ Tells a b y) ?_ (fun _ _ _ _ _ => trivial) ?_ ?_⟩
    · refine ⟨_, _, _, _, rfl, Same.refl _, fun y hy => ?_⟩
      rw [Nat.zero_mul] at hy
      omega
    · rintro i x σ H2 H3 hi ⟨v6, v8, v9, v10, rfl, s2, h0⟩ ⟨rfl, rfl⟩
      have hil : i < 2 ^ (m - within m) := by
        have : i < ((2 ^ (m - within m) : Nat) : Int).toNat := hi
        rw [Int.toNat_natCast] at this
        exact this
      -- inputs = counting + [full * (block >> index & 1) for index in range(how_many - within)]
      refine ⟨_, rfl, _, rfl, _, rfl, m, within m, rfl, rfl, hwl, ((m - within m : Nat) : Int), rfl, (by omega), (by omega), fun D2 hD2 => lc_it walk_range
        (fun j H' => Same H3 H' ∧ H' D2 = some (.lst (((List.range j).map fun j => full * b2n (i.testBit j)).map nV))) ?_ (fun _ _ _ _ => trivial) ?_ ?_⟩
      · exact ⟨Same.upd_own hD2, upd_same⟩
      · rintro j x H4 H5 hj ⟨s4, h4⟩ ⟨rfl, rfl⟩
        have hjl : j < m - within m := by
          have : j < ((m - within m : Nat) : Int).toNat := hj
          omega
        have hmx : CMulX (full : Int) ((i / 2 ^ j % 2 : Nat) : Int) := by
          refine mulx_ok (a := 2 ^ within m) (b := 1) ?_ ?_ (by omega)
          · rw [Int.natAbs_natCast, ← hfull]
            exact full_lt _
          · rw [Int.natAbs_natCast]
            omega
        refine ⟨rfl, _, rfl, _, rfl, _, rfl, i, j, nV_turn i, nV_turn j, i / 2 ^ j, rfl, rfl, (full : Int), _, rfl, rfl, hmx, _, h4, ?_, Same.upd_new s4 hD2, ?_⟩
        · rw [List.length_map, List.length_map, List.length_range]
          exact Nat.lt_of_le_of_lt (show _ ≤ 16 by omega) (by decide)
        · rw [upd_same, List.range_succ, List.map_append, List.map_append]
          have e : V.int ((full : Int) * ((i / 2 ^ j % 2 : Nat) : Int)) = nV (full * b2n (i.testBit j)) := by
            rw [b2n_div, ← Int.natCast_mul]
          exact congrArg (fun v => some (HO.lst ((((List.range j).map fun j => full * b2n (i.testBit j)).map nV) ++ [v]))) e
      rintro H4 ⟨s4, h4⟩
      have e2 : ((m - within m : Nat) : Int).toNat = m - within m := by omega
      rw [e2] at h4
      refine ⟨D, D2, _, _, rfl, rfl, s4 _ _ (s2 _ _ hc1), h4, ?_, fun li hli => ?_⟩
      · rw [List.length_map, List.length_map, List.length_map, List.length_map, List.length_range, List.length_range]
        exact Nat.le_trans (show _ ≤ 16 by omega) (by decide)
      have hinC : ((List.range (within m)).map (countC (2 ^ within m))).map nV ++ ((List.range (m - within m)).map fun j => full * b2n (i.testBit j)).map nV = (inC m i).map nV := by
        unfold inC
        rw [List.map_append, hfull]
      rw [hinC]
      have s5 : Same H4 (upd H4 li (.lst ((inC m i).map nV))) := Same.upd_own hli
      have h5 : (upd H4 li (.lst ((inC m i).map nV))) li = some (.lst ((inC m i).map nV)) := upd_same
      generalize upd H4 li (.lst ((inC m i).map nV)) = H5 at s5 h5 ⊢
      have sH5 : Same H H5 := s1.trans (s2.trans (s4.trans s5))
      -- rows_apart = differing_rows(output_columns(..), output_columns(..))
      refine ⟨_, rfl, _, rfl, _, rfl, M, encN a, sts, mvs, B, li, inC m i, full, rfl, mok.same sH5, hB, hM.pl.good.len, h5, (by rw [inC_len, insl]), steps_fit hM.pl hst, hM.pl.good.outs, hM.pl.good.p.outL, fun H6 l6 s6 h6 => ?_⟩
      refine ⟨_, rfl, _, rfl, _, rfl, N, encN b, sts2, mvs2, B2_, li, inC m i, full, rfl, mok2.same (sH5.trans s6), hB2, hN.pl.good.len, s6 _ _ h5, (by rw [inC_len, insl2]), steps_fit hN.pl hst2, hN.pl.good.outs, hN.pl.good.p.outL, fun H7 l7 s7 h7 => ?_⟩
      rw [hst] at h6
      rw [hst2] at h7
      have ea : outN (encN a) (rowOf (encN a) oa) full (inC m i) = outC a oa m i := by unfold outC; rw [hfull]
      have eb : outN (encN b) (rowOf (encN b) ob) full (inC m i) = outC b ob m i := by unfold outC; rw [hfull]
      rw [ea] at h6
      rw [eb] at h7
      refine ⟨l6, l7, _, _, a.outs.length, rfl, s7 _ _ h6, h7, outC_len .., (by rw [outC_len, hout]), fun H8 s8 => ?_⟩
      have sH8 : Same H1 H8 := s2.trans (s4.trans (s5.trans (s6.trans (s7.trans s8))))
      generalize hap : apart (outC a oa m i) (outC b ob m i) a.outs.length = ap
      -- if rows_apart != 0
      refine ⟨_, rfl, rfl, _, rfl, ?_⟩
      by_cases hz : ap = 0
      · subst hz
        refine if_f (by simp) ⟨_, _, _, _, rfl, sH8, block_zero hM.pl hN.pl rfl hout.symm hap h0⟩
      · refine if_t ?_ ?_
        · have : nV ap ≠ nV 0 := fun z => hz (nV_inj.mp z)
          simpa using this
        · obtain ⟨kk, v, ek⟩ := low_bit ap hz
          rw [ek] at hap
          refine ⟨_, rfl, _, rfl, i, 2 ^ within m, nV_turn i, rfl, (by omega), _, rfl, kk, v, (by rw [ek]; rfl), _, _, rfl, rfl, ?_⟩
          have hd := block_some hM.pl hN.pl rfl hout.symm hap h0 hil
          have := k H8 (s1.trans sH8)
          rw [hd] at this
          exact this
    · rintro σ H2 ⟨v6, v8, v9, v10, rfl, s2, h0⟩
      have e3 : ((2 ^ (m - within m) : Nat) : Int).toNat = 2 ^ (m - within m) := Int.toNat_natCast _
      rw [e3] at h0
      have hd := block_none h0
      have := k H2 (s1.trans s2)
      rw [hd] at this
      exact this
/-! ### same -/
def spSame (K : PySem.W.Frag) : Sp := fun vs H Q _ => ∃ (x y : Addr) (ns ms : List Int), vs = [.ref x, .ref y] ∧ SqL K H x (ns.map V.int) ∧ SqL K H y (ms.map V.int) ∧ ns.length ≤ 65536 ∧ (∀ n ∈ ns, 0 ≤ n ∧ n ≤ 255) ∧ ms.length ≤ 65536 ∧ (∀ n ∈ ms, 0 ≤ n ∧ n ≤ 255) ∧
  ∀ (H' : Hp) (p : Addr), H' p = some (.lst ((PySf33.same ns ms).map V.int)) → Q (.ref p) H'
theorem same_eq (ns ms : List Int) : PySf33.same ns ms = Sf33Neutral.listOf (match Sf33.network (ns.length : Int) (Sf33Neutral.bytesOf ns), Sf33.network (ms.length : Int) (Sf33Neutral.bytesOf ms) with
    | some x, some y => if Sf33.fair x y = true then (match Sf33.differ x.ready y.ready x.ins.length with
        | some i => ⟨0, [i]⟩
        | none => Sf33.only 1) else Sf33.only (-2)
    | _, _ => Sf33.only (-1)) := rfl
theorem same_none1 {ns ms : List Int} (h : Sf33.network (ns.length : Int) (Sf33Neutral.bytesOf ns) = none) : PySf33.same ns ms = [-1] := by
  rw [same_eq, h]
  rfl
theorem same_none2 {ns ms : List Int} {x : Sf33.Net} (hx : Sf33.network (ns.length : Int) (Sf33Neutral.bytesOf ns) = some x) (h : Sf33.network (ms.length : Int) (Sf33Neutral.bytesOf ms) = none) : PySf33.same ns ms = [-1] := by
  rw [same_eq, hx, h]
  rfl
theorem same_some {ns ms : List Int} {x y : Sf33.Net} (hx : Sf33.network (ns.length : Int) (Sf33Neutral.bytesOf ns) = some x) (hy : Sf33.network (ms.length : Int) (Sf33Neutral.bytesOf ms) = some y) :
    PySf33.same ns ms = if Sf33.fair x y = true then (match Sf33.differ x.ready y.ready x.ins.length with
      | some i => [0, ((i : Nat) : Int)]
      | none => [1]) else [-2] := by
  rw [same_eq, hx, hy]
  show Sf33Neutral.listOf (if Sf33.fair x y = true then (match Sf33.differ x.ready y.ready x.ins.length with
        | some i => ⟨0, [i]⟩
        | none => Sf33.only 1) else Sf33.only (-2)) = _
  by_cases h : Sf33.fair x y = true
  · rw [if_pos h, if_pos h]
    cases Sf33.differ x.ready y.ready x.ins.length with
    | none => rfl
    | some i => rfl
  · rw [if_neg h, if_neg h]
    rfl
theorem anyReg_enc (n : Sf33.Net) : anyReg (encN n) = !decide (n.regs = []) := by
  have e : anyReg (encN n) = n.gates.any fun g => g.kind.isReg := by
    unfold anyReg
    show (n.gates.map encG).any _ = _
    rw [List.any_map]
    congr 1
    funext g
    exact isReg_kw g.kind
  rw [e, Bool.eq_iff_iff]
  unfold Sf33.Net.regs
  simp [List.filter_eq_nil_iff]
theorem fair_enc (x y : Sf33.Net) : fairP (encN x) (encN y) = Sf33.fair x y := by
  unfold fairP Sf33.fair
  rw [anyReg_enc, anyReg_enc]
  have l1 : (encN x).ins.length = x.ins.length := List.length_map ..
  have l2 : (encN y).ins.length = y.ins.length := List.length_map ..
  have l3 : (encN x).outs.length = x.outs.length := List.length_map ..
  have l4 : (encN y).outs.length = y.outs.length := List.length_map ..
  rw [l1, l2, l3, l4, Bool.not_or, Bool.not_not, Bool.not_not, Bool.and_assoc]
theorem gates_1024 {n : Sf33.Net} (G : Good n) : (encN n).gates.length ≤ 1024 := by
  have h1 : (nmsP (encN n)).length = (encN n).ins.length + (encN n).gn.length := by unfold nmsP; rw [List.length_append]
  have h2 : (encN n).gn.length = (encN n).gates.length := by unfold PN.gn; rw [List.length_map]
  have := G.len
  omega
theorem B0_len (p : PN) : (B0 p).length = (nmsP p).length + 1 := by
  unfold B0
  rw [sets_len, List.length_replicate]
theorem scSa : FnScope ["a", "b", "one", "other", "number"] ["a", "b"] (defScope sSame) := ⟨rfl, rfl, rfl, by decide +kernel, rfl, by decide +kernel, by decide +kernel⟩
theorem ok_same {f fR fI fD fQ : Addr} {fd fdR fdI fdD fdQ : FuncData} (F : Fun K "same" "same" sSame f fd) (T : Txt K mg CF CG CN) (TM : TxtM K mg CM)
    (GR_ : FnOk P w K mg base (L2.CX P w) 5 fR fdR ["text"] (spRead K CF CN CG)) (kR : PySem.W.keepIn K (.ref fR) = true) (bR : Binds K fdR ["text"] []) (mR : mg "read_network" = some (.ref fR))
    (MM : Mk K CM fI) (GI : FnOk P w K mg base CX0 4 fI fdI ["self", "network"] (spMach K CM CN CG)) (bI : Binds K fdI ["self", "network"] [])
    (GQ : FnOk P w K mg base CX0 2 fQ fdQ ["one", "other"] (spComp CN CG)) (kQ : PySem.W.keepIn K (.ref fQ) = true) (bQ : Binds K fdQ ["one", "other"] []) (mQ : mg "are_comparable" = some (.ref fQ))
    (GD : FnOk P w K mg base CX0 3 fD fdD ["one", "other"] (spLeast K CM)) (kD : PySem.W.keepIn K (.ref fD) = true) (bD : Binds K fdD ["one", "other"] []) (mD : mg "least_difference" = some (.ref fD)) :
    FnOk P w K mg base CX0 6 f fd ["a", "b"] (spSame K) := by
  refine F.ok scSa (fun vs H Q E h => ?_) (fun cdv A outer s H vs Q E hr h => ?_)
  · obtain ⟨x, y, ns, ms, rfl, _⟩ := h
    rfl
  · obtain ⟨x, y, ns, ms, rfl, hx, hy, hn, hnb, hm, hmb, q⟩ := h
    have hr2 : Room 2 _ := hr.mono (by decide)
    have hr3 : Room 3 _ := hr.mono (by decide)
    refine ⟨_, pss_cons (ps_try_only (tb := fun W => tSeq (tAsg (tCallS (spRead K CF CN CG) (WE W) (tCons (tVar 0) tNil)) (gName 2)) (tAsg (tCallS (spRead K CF CN CG) (WE W) (tCons (tVar 1) tNil)) (gName 3))) (ts := fun _ _ _ => tRet (tLst (tCons (tUn (rU fun i => .int (-i)) (tC (.int 1))) tNil))) (Wout := fun _ _ _ _ => False) rfl rfl ⟨rfl, by decide, Or.inl T.gF⟩ takes0
        (fun W pn xe tk _ => pss_cons (ps_set (i := 2) scSa.nd rfl (.inl rfl) (pe_callS GR_ hr rfl mR kR bR (fun σ => passAt tk σ) (by exact (pa_cons (pv 0) pa_nil)))) (pss_one (ps_set (i := 3) scSa.nd rfl (.inl rfl) (pe_callS GR_ hr rfl mR kR bR (fun σ => passAt tk σ) (by exact (pa_cons (pv 1) pa_nil))))))
        (fun _ _ _ _ _ _ _ => pss_one (ps_ret (pe_lst (pa_cons (pe_un un_neg pe_int) pa_nil)))))
      (pss_cons (ps_if (pt_not (pt_val (pe_call GQ hr2 rfl mQ kQ bQ .nil pass0 (pa_cons (pv 2) (pa_cons (pv 3) pa_nil))))) (pss_one (ps_ret (pe_lst (pa_cons (pe_un un_neg pe_int) pa_nil)))) pss_nil)
      (pss_cons (ps_set (i := 4) scSa.nd rfl (.inl rfl) (pe_call GD hr3 rfl mD kD bD .nil pass0 (pa_cons (pe_make MM GI hr rfl TM.gM bI .nil pass0 (pa_cons (pv 2) pa_nil)) (pa_cons (pe_make MM GI hr rfl TM.gM bI .nil pass0 (pa_cons (pv 3) pa_nil)) pa_nil))))
      (pss_cons (ps_if (pt_cmpR op_isN (pv 4) pe_non (nomark _)) (pss_one (ps_ret (pe_lst (pa_cons pe_int pa_nil)))) pss_nil)
      (pss_one (ps_ret (pe_lst (pa_cons pe_int (pa_cons (pv 4) pa_nil)))))))), ?_⟩
    have hbl : (Sf33Neutral.bytesOf ns).length = ns.length := by simp [Sf33Neutral.bytesOf]
    have hbm : (Sf33Neutral.bytesOf ms).length = ms.length := by simp [Sf33Neutral.bytesOf]
    -- one = read_network(a)
    refine ⟨_, rfl, x, ns, rfl, hx, hn, hnb, fun e H1 => ?_, fun a e H1 Ad tb n1 s1 => ?_⟩
    · refine ⟨true, T.eF, fun _ a0 _ => ?_, fun z => Bool.noConfusion z⟩
      refine ⟨_, rfl, (by show 1 ≤ sizeLine; decide), fun p hp => q _ p ?_⟩
      rw [upd_same, same_none1 e]
      rfl
    have Ga : Good a := good_of (b := Sf33Neutral.bytesOf ns) (by rw [hbl]; exact hn) (by rw [hbl]; exact e)
    -- other = read_network(b)
    refine ⟨_, rfl, y, ms, rfl, s1.seq hy, hm, hmb, fun e2 H2 => ?_, fun b e2 H2 Bd tc n2 s2 => ?_⟩
    · refine ⟨true, T.eF, fun _ a0 _ => ?_, fun z => Bool.noConfusion z⟩
      refine ⟨_, rfl, (by show 1 ≤ sizeLine; decide), fun p hp => q _ p ?_⟩
      rw [upd_same, same_none2 e e2]
      rfl
    have Gb : Good b := good_of (b := Sf33Neutral.bytesOf ms) (by rw [hbm]; exact hm) (by rw [hbm]; exact e2)
    have hsame := same_some e e2
    have n12 := n1.same s2
    -- if not are_comparable(one, other)
    refine ⟨_, rfl, _, rfl, Ad, Bd, encN a, encN b, tb, tc, rfl, n12, n2, gates_1024 Ga, gates_1024 Gb, fun H3 s3 => ⟨_, rfl, ?_⟩⟩
    rw [fair_enc]
    cases hf : Sf33.fair a b with
    | false =>
      rw [hf, if_neg Bool.false_ne_true] at hsame
      refine if_t rfl ?_
      refine ⟨_, rfl, (by show 1 ≤ sizeLine; decide), fun p hp => q _ p ?_⟩
      rw [upd_same, hsame]
      rfl
    | true =>
      rw [hf, if_pos rfl] at hsame
      refine if_f rfl ?_
      have hf2 := hf
      unfold Sf33.fair at hf2
      simp only [Bool.and_eq_true, decide_eq_true_eq] at hf2
      obtain ⟨f1, f2, f3, f4, f5⟩ := hf2
      have na := n12.same s3
      have nb := n2.same s3
      -- Machine(one)
      refine ⟨_, rfl, fun x1 dx1 nx1 nd1 ne1 => ?_⟩
      have t3 : Same H3 (upd (upd H3 dx1 (.own x1)) x1 (.ins CM dx1 [])) := fun b o e => by
        rw [upd_ne (ne_of_none e nx1), upd_ne (ne_of_none e nd1)]
        exact e
      refine ⟨x1, dx1, Ad, encN a, tb, rfl, upd_same, na.same t3, Ga.p, fun H4 M oa wa sts mvs ea edx ka hst hmv mok hlb kp => ⟨rfl, ?_⟩⟩
      have s4 : Same H3 H4 := Same.made nx1 nd1 kp
      subst ea
      have mM : MachOk K CM H4 M a a.ins.length oa := ⟨⟨Ga, f1, rfl, wa, ka⟩, sts, mvs, _, mok, B0_len _, hst⟩
      -- Machine(other)
      refine ⟨_, rfl, fun x2 dx2 nx2 nd2 ne2 => ?_⟩
      have t4 : Same H4 (upd (upd H4 dx2 (.own x2)) x2 (.ins CM dx2 [])) := fun b o e => by
        rw [upd_ne (ne_of_none e nx2), upd_ne (ne_of_none e nd2)]
        exact e
      refine ⟨x2, dx2, Bd, encN b, tc, rfl, upd_same, (nb.same s4).same t4, Gb.p, fun H5 N ob wb sts2 mvs2 eb edx2 kb hst2 hmv2 mok2 hlb2 kp2 => ⟨rfl, ?_⟩⟩
      have s5 : Same H4 H5 := Same.made nx2 nd2 kp2
      subst eb
      have mN : MachOk K CM H5 N b a.ins.length ob := ⟨⟨Gb, f2, f3.symm, wb, kb⟩, sts2, mvs2, _, mok2, B0_len _, hst2⟩
      -- least_difference
      refine ⟨M, N, a, b, a.ins.length, oa, ob, rfl, mM.same s5, mN, f5, f4, fun H6 s6 => ?_⟩
      cases hd : Sf33.differ a.ready b.ready a.ins.length with
      | none =>
        rw [hd] at hsame
        refine ⟨_, rfl, rfl, _, rfl, if_t rfl ?_⟩
        refine ⟨(by show 1 ≤ sizeLine; decide), fun p hp => q _ p ?_⟩
        rw [upd_same, hsame]
        rfl
      | some i =>
        rw [hd] at hsame
        refine ⟨_, rfl, rfl, _, rfl, if_f rfl ?_⟩
        refine ⟨_, rfl, (by show 2 ≤ sizeLine; decide), fun p hp => q _ p ?_⟩
        rw [upd_same, hsame]
        rfl
end
end GN
namespace GN
open PySem PySem.Spec PyProof.Rows L2
/-! ### the dicts of the top -/
def kindTbl : List (Str × Nat) := [(kZero, 0), (kOne, 0), (kNot, 1), (kBuf, 1), (kReg, 1), (kReg1, 1), (kAnd, 2), (kOr, 2), (kXor, 2), (kNand, 2), (kNor, 2), (kXnor, 2), (kMaj, 3), (kMux, 3)]
def regTbl : List (Str × Nat) := [(kReg, 0), (kReg1, 1)]
theorem look_cons {α : Type} (z a : Str) (b : α) (r : List (Str × α)) : List.lookup z ((a, b) :: r) = if z = a then some b else List.lookup z r := by
  by_cases h : z = a
  · subst h
    rw [if_pos rfl]
    simp [List.lookup]
  · have e : (z == a) = false := by simpa using h
    rw [if_neg h]
    simp only [List.lookup, e]
theorem kc_tbl (z : Str) : kc z = kindTbl.lookup z := by
  unfold kc kindTbl
  simp only [look_cons, List.lookup_nil]
theorem rc_tbl (z : Str) : rc z = regTbl.lookup z := by
  unfold rc regTbl
  simp only [look_cons, List.lookup_nil]
def Shape : List DictEntry → List (Str × Nat) → Prop
  | [], [] => True
  | e :: es, q :: qs => (∃ t, e.key = .str q.1 t) ∧ (∃ t, e.val = .int (q.2 : Nat) t) ∧ Shape es qs
  | _, _ => False
theorem shape_find (z : Str) : ∀ (es : List DictEntry) (qs : List (Str × Nat)), Shape es qs → (match qs.lookup z with
    | some c => ∃ e t, es.find? (·.key.isStr z) = some e ∧ e.val = .int (c : Nat) t
    | none => es.find? (·.key.isStr z) = none) ∧ es.any (·.refKey) = false
  | [], [], _ => ⟨rfl, rfl⟩
  | [], _ :: _, h => by cases h
  | _ :: _, [], h => by cases h
  | e :: es, q :: qs, h => by
    obtain ⟨⟨t, hk⟩, ⟨u, hv⟩, h⟩ := h
    obtain ⟨ih1, ih2⟩ := shape_find z es qs h
    have er : e.refKey = false := by unfold DictEntry.refKey; rw [hk]
    have ei : e.key.isStr z = (q.1 == z) := by rw [hk]; rfl
    refine ⟨?_, by rw [List.any_cons, er, ih2]; rfl⟩
    obtain ⟨a, b⟩ := q
    rw [look_cons]
    by_cases hz : z = a
    · rw [if_pos hz]
      refine ⟨e, u, ?_, hv⟩
      rw [List.find?_cons, ei]
      subst hz
      simp
    · rw [if_neg hz]
      have en0 : (a == z) = false := by simpa using fun w => hz w.symm
      have ef : (e :: es).find? (·.key.isStr z) = es.find? (·.key.isStr z) := by rw [List.find?_cons, ei]; show (match (a == z) with | true => some e | false => _) = _; rw [en0]
      rw [ef]
      exact ih1
theorem ns_of {K : PySem.W.Frag} {d : Addr} {es : Array DictEntry} {n : Nat} {tbl : List (Str × Nat)} (l : K.lookup d = some ⟨.type "dict", none, .dict es n, #[]⟩) (h : Shape es.toList tbl) (z : Str) :
    ∃ r, PySem.W.nsIn K d z = some r ∧ (match tbl.lookup z with | some c => ∃ t, r = some (.int (c : Nat) t) | none => r = none) := by
  obtain ⟨h1, h2⟩ := shape_find z es.toList tbl h
  unfold PySem.W.nsIn
  rw [l]
  dsimp only
  cases hk : tbl.lookup z with
  | none =>
    rw [hk] at h1
    have h1' : es.toList.find? (·.key.isStr z) = none := h1
    rw [h1', h2]
    exact ⟨none, rfl, rfl⟩
  | some c =>
    rw [hk] at h1
    obtain ⟨e, t, e1, e2⟩ := h1
    rw [e1]
    exact ⟨some e.val, rfl, t, by rw [e2]⟩
/-- an error of a class is caught by that class -/
theorem caught {K : PySem.W.Frag} {S : Addr} (h1 : PySem.W.subIn K (.ref S) (.type "BaseException") = some true) (h2 : PySem.W.isClsIn K S = true) (h3 : PySem.W.typeIn K (.ref S) = some (.type "type")) (h4 : PySem.W.subIn K (.ref S) (.ref S) = some true) :
    PySem.W.exmOne K (.ref S) (.ref S) = some true := by
  unfold PySem.W.isClsIn at h2
  unfold PySem.W.exmOne PySem.W.kitCls
  simp only [h1, h2, h3, h4, BEq.rfl, Bool.and_self, if_true]
end GN
namespace GN
open PySem PySem.Spec PyProof.Rows L2
theorem all_mk {P : Program} {w : World} {K : PySem.W.Frag} {h : Heap} {mg : Str → Option Value} {fa CF CG CN dk rg CM db xazero xaone xanot xabuf xaand xaor xaxor xanand xanor xaxnor xamaj xamux f1 f2 f3 f4 f5 f6 f7 f8 f9 f10 f11 f12 f13 f14 f15 f18 f19 f20 f21 f30 f31 f32 f33 f34 f35 f36 f37 f16 f17 f27 : Addr} (X : K.In h) (G : h.Ns mainGlobals mg) (hfa : mg "same" = some (.ref fa))
    {od1 an1 od2 an2 od3 an3 od4 an4 od5 an5 od6 an6 od7 an7 od8 an8 od9 an9 od10 an10 od11 an11 od12 an12 od13 an13 od14 an14 od15 an15 od18 an18 od19 an19 od20 an20 od21 an21 od30 an30 od31 an31 od32 an32 od33 an33 od34 an34 od35 an35 od36 an36 od37 an37 od16 an16 od17 an17 od27 an27 xozero xoone xonot xobuf xoand xoor xoxor xonand xonor xoxnor xomaj xomux : Option Addr} {sl1 sl2 sl3 sl4 sl5 sl6 sl7 sl8 sl9 sl10 sl11 sl12 sl13 sl14 sl15 sl18 sl19 sl20 sl21 sl30 sl31 sl32 sl33 sl34 sl35 sl36 sl37 sl16 sl17 sl27 xszero xsone xsnot xsbuf xsand xsor xsxor xsnand xsnor xsxnor xsmaj xsmux : Array (Option Value)} {oc1 kV1 dc1 pm1 cd1 ct1 oc2 kV2 dc2 pm2 cd2 ct2 oc3 kV3 dc3 pm3 cd3 ct3 oc4 kV4 dc4 pm4 cd4 ct4 oc5 kV5 dc5 pm5 cd5 ct5 oc6 kV6 dc6 pm6 cd6 ct6 oc7 kV7 dc7 pm7 cd7 ct7 oc8 kV8 dc8 pm8 cd8 ct8 oc9 kV9 dc9 pm9 cd9 ct9 oc10 kV10 dc10 pm10 cd10 ct10 oc11 kV11 dc11 pm11 cd11 ct11 oc12 kV12 dc12 pm12 cd12 ct12 oc13 kV13 dc13 pm13 cd13 ct13 oc14 kV14 dc14 pm14 cd14 ct14 oc15 kV15 dc15 pm15 cd15 ct15 oc18 kV18 dc18 pm18 cd18 ct18 oc19 kV19 dc19 pm19 cd19 ct19 oc20 kV20 dc20 pm20 cd20 ct20 oc21 kV21 dc21 pm21 cd21 ct21 oc30 kV30 dc30 pm30 cd30 ct30 oc31 kV31 dc31 pm31 cd31 ct31 oc32 kV32 dc32 pm32 cd32 ct32 oc33 kV33 dc33 pm33 cd33 ct33 oc34 kV34 dc34 pm34 cd34 ct34 oc35 kV35 dc35 pm35 cd35 ct35 oc36 kV36 dc36 pm36 cd36 ct36 oc37 kV37 dc37 pm37 cd37 ct37 oc16 kV16 dc16 pm16 cd16 ct16 oc17 kV17 dc17 pm17 cd17 ct17 oc27 kV27 dc27 pm27 cd27 ct27 : Value}
    {esD esR esB : Array DictEntry} {nD nR nB xnzero xnone xnnot xnbuf xnand xnor xnxor xnnand xnnor xnxnor xnmaj xnmux : Nat} {xizero xione xinot xibuf xiand xior xixor xinand xinor xixnor ximaj ximux : Array Value} {k1 k2 k3 k4 k5 k6 k7 k8 k9 k11 k12 k13 : Tok}
    (aF : PySem.W.nsIn K mainGlobals "NoNetwork" = some (some (.ref CF)))
    (aG : PySem.W.nsIn K mainGlobals "Gate" = some (some (.ref CG)))
    (aN : PySem.W.nsIn K mainGlobals "Network" = some (some (.ref CN)))
    (aM : PySem.W.nsIn K mainGlobals "Machine" = some (some (.ref CM)))
    (a1 : PySem.W.nsIn K mainGlobals "same" = some (some (.ref f1)))
    (l1 : K.lookup f1 = some ⟨oc1, od1, .func (PySem.W.fnOf "same" "same" (defArgs sSame) (defBody sSame) (defScope sSame) .none kV1 dc1 pm1 an1 cd1 ct1), sl1⟩)
    (c1 : PySem.W.codeIn K cd1 "same" = true)
    (q1 : PySem.W.keepIn K (.ref f1) = true)
    (a2 : PySem.W.nsIn K mainGlobals "read_network" = some (some (.ref f2)))
    (l2 : K.lookup f2 = some ⟨oc2, od2, .func (PySem.W.fnOf "read_network" "read_network" (defArgs sRead) (defBody sRead) (defScope sRead) .none kV2 dc2 pm2 an2 cd2 ct2), sl2⟩)
    (c2 : PySem.W.codeIn K cd2 "read_network" = true)
    (q2 : PySem.W.keepIn K (.ref f2) = true)
    (a3 : PySem.W.nsIn K mainGlobals "spell" = some (some (.ref f3)))
    (l3 : K.lookup f3 = some ⟨oc3, od3, .func (PySem.W.fnOf "spell" "spell" (defArgs sSpell) (defBody sSpell) (defScope sSpell) .none kV3 dc3 pm3 an3 cd3 ct3), sl3⟩)
    (c3 : PySem.W.codeIn K cd3 "spell" = true)
    (q3 : PySem.W.keepIn K (.ref f3) = true)
    (a4 : PySem.W.nsIn K mainGlobals "read_line" = some (some (.ref f4)))
    (l4 : K.lookup f4 = some ⟨oc4, od4, .func (PySem.W.fnOf "read_line" "read_line" (defArgs sLine) (defBody sLine) (defScope sLine) .none kV4 dc4 pm4 an4 cd4 ct4), sl4⟩)
    (c4 : PySem.W.codeIn K cd4 "read_line" = true)
    (q4 : PySem.W.keepIn K (.ref f4) = true)
    (a5 : PySem.W.nsIn K mainGlobals "add_inputs" = some (some (.ref f5)))
    (l5 : K.lookup f5 = some ⟨oc5, od5, .func (PySem.W.fnOf "add_inputs" "add_inputs" (defArgs sAddIn) (defBody sAddIn) (defScope sAddIn) .none kV5 dc5 pm5 an5 cd5 ct5), sl5⟩)
    (c5 : PySem.W.codeIn K cd5 "add_inputs" = true)
    (q5 : PySem.W.keepIn K (.ref f5) = true)
    (a6 : PySem.W.nsIn K mainGlobals "add_outputs" = some (some (.ref f6)))
    (l6 : K.lookup f6 = some ⟨oc6, od6, .func (PySem.W.fnOf "add_outputs" "add_outputs" (defArgs sAddOut) (defBody sAddOut) (defScope sAddOut) .none kV6 dc6 pm6 an6 cd6 ct6), sl6⟩)
    (c6 : PySem.W.codeIn K cd6 "add_outputs" = true)
    (q6 : PySem.W.keepIn K (.ref f6) = true)
    (a7 : PySem.W.nsIn K mainGlobals "add_gate" = some (some (.ref f7)))
    (l7 : K.lookup f7 = some ⟨oc7, od7, .func (PySem.W.fnOf "add_gate" "add_gate" (defArgs sAddGate) (defBody sAddGate) (defScope sAddGate) .none kV7 dc7 pm7 an7 cd7 ct7), sl7⟩)
    (c7 : PySem.W.codeIn K cd7 "add_gate" = true)
    (q7 : PySem.W.keepIn K (.ref f7) = true)
    (a8 : PySem.W.nsIn K mainGlobals "is_name" = some (some (.ref f8)))
    (l8 : K.lookup f8 = some ⟨oc8, od8, .func (PySem.W.fnOf "is_name" "is_name" (defArgs sIsName) (defBody sIsName) (defScope sIsName) .none kV8 dc8 pm8 an8 cd8 ct8), sl8⟩)
    (c8 : PySem.W.codeIn K cd8 "is_name" = true)
    (q8 : PySem.W.keepIn K (.ref f8) = true)
    (a9 : PySem.W.nsIn K mainGlobals "is_given" = some (some (.ref f9)))
    (l9 : K.lookup f9 = some ⟨oc9, od9, .func (PySem.W.fnOf "is_given" "is_given" (defArgs sIsGiven) (defBody sIsGiven) (defScope sIsGiven) .none kV9 dc9 pm9 an9 cd9 ct9), sl9⟩)
    (c9 : PySem.W.codeIn K cd9 "is_given" = true)
    (q9 : PySem.W.keepIn K (.ref f9) = true)
    (a10 : PySem.W.nsIn K mainGlobals "refuse_as_new" = some (some (.ref f10)))
    (l10 : K.lookup f10 = some ⟨oc10, od10, .func (PySem.W.fnOf "refuse_as_new" "refuse_as_new" (defArgs sNew) (defBody sNew) (defScope sNew) .none kV10 dc10 pm10 an10 cd10 ct10), sl10⟩)
    (c10 : PySem.W.codeIn K cd10 "refuse_as_new" = true)
    (q10 : PySem.W.keepIn K (.ref f10) = true)
    (a11 : PySem.W.nsIn K mainGlobals "refuse_too_many" = some (some (.ref f11)))
    (l11 : K.lookup f11 = some ⟨oc11, od11, .func (PySem.W.fnOf "refuse_too_many" "refuse_too_many" (defArgs sMany) (defBody sMany) (defScope sMany) .none kV11 dc11 pm11 an11 cd11 ct11), sl11⟩)
    (c11 : PySem.W.codeIn K cd11 "refuse_too_many" = true)
    (q11 : PySem.W.keepIn K (.ref f11) = true)
    (a12 : PySem.W.nsIn K mainGlobals "refuse_unknown_names" = some (some (.ref f12)))
    (l12 : K.lookup f12 = some ⟨oc12, od12, .func (PySem.W.fnOf "refuse_unknown_names" "refuse_unknown_names" (defArgs sUnknown) (defBody sUnknown) (defScope sUnknown) .none kV12 dc12 pm12 an12 cd12 ct12), sl12⟩)
    (c12 : PySem.W.codeIn K cd12 "refuse_unknown_names" = true)
    (q12 : PySem.W.keepIn K (.ref f12) = true)
    (a13 : PySem.W.nsIn K mainGlobals "refuse_loops" = some (some (.ref f13)))
    (l13 : K.lookup f13 = some ⟨oc13, od13, .func (PySem.W.fnOf "refuse_loops" "refuse_loops" (defArgs sLoops) (defBody sLoops) (defScope sLoops) .none kV13 dc13 pm13 an13 cd13 ct13), sl13⟩)
    (c13 : PySem.W.codeIn K cd13 "refuse_loops" = true)
    (q13 : PySem.W.keepIn K (.ref f13) = true)
    (a14 : PySem.W.nsIn K mainGlobals "sources_at_once" = some (some (.ref f14)))
    (l14 : K.lookup f14 = some ⟨oc14, od14, .func (PySem.W.fnOf "sources_at_once" "sources_at_once" (defArgs sAtOnce) (defBody sAtOnce) (defScope sAtOnce) .none kV14 dc14 pm14 an14 cd14 ct14), sl14⟩)
    (c14 : PySem.W.codeIn K cd14 "sources_at_once" = true)
    (q14 : PySem.W.keepIn K (.ref f14) = true)
    (a15 : PySem.W.nsIn K mainGlobals "order_gates" = some (some (.ref f15)))
    (l15 : K.lookup f15 = some ⟨oc15, od15, .func (PySem.W.fnOf "order_gates" "order_gates" (defArgs sOrder) (defBody sOrder) (defScope sOrder) .none kV15 dc15 pm15 an15 cd15 ct15), sl15⟩)
    (c15 : PySem.W.codeIn K cd15 "order_gates" = true)
    (q15 : PySem.W.keepIn K (.ref f15) = true)
    (a18 : PySem.W.nsIn K mainGlobals "place_names" = some (some (.ref f18)))
    (l18 : K.lookup f18 = some ⟨oc18, od18, .func (PySem.W.fnOf "place_names" "place_names" (defArgs sPlace) (defBody sPlace) (defScope sPlace) .none kV18 dc18 pm18 an18 cd18 ct18), sl18⟩)
    (c18 : PySem.W.codeIn K cd18 "place_names" = true)
    (q18 : PySem.W.keepIn K (.ref f18) = true)
    (a19 : PySem.W.nsIn K mainGlobals "first_bits" = some (some (.ref f19)))
    (l19 : K.lookup f19 = some ⟨oc19, od19, .func (PySem.W.fnOf "first_bits" "first_bits" (defArgs sFirst) (defBody sFirst) (defScope sFirst) .none kV19 dc19 pm19 an19 cd19 ct19), sl19⟩)
    (c19 : PySem.W.codeIn K cd19 "first_bits" = true)
    (q19 : PySem.W.keepIn K (.ref f19) = true)
    (a20 : PySem.W.nsIn K mainGlobals "list_steps" = some (some (.ref f20)))
    (l20 : K.lookup f20 = some ⟨oc20, od20, .func (PySem.W.fnOf "list_steps" "list_steps" (defArgs sSteps) (defBody sSteps) (defScope sSteps) .none kV20 dc20 pm20 an20 cd20 ct20), sl20⟩)
    (c20 : PySem.W.codeIn K cd20 "list_steps" = true)
    (q20 : PySem.W.keepIn K (.ref f20) = true)
    (a21 : PySem.W.nsIn K mainGlobals "list_moves" = some (some (.ref f21)))
    (l21 : K.lookup f21 = some ⟨oc21, od21, .func (PySem.W.fnOf "list_moves" "list_moves" (defArgs sMoves) (defBody sMoves) (defScope sMoves) .none kV21 dc21 pm21 an21 cd21 ct21), sl21⟩)
    (c21 : PySem.W.codeIn K cd21 "list_moves" = true)
    (q21 : PySem.W.keepIn K (.ref f21) = true)
    (a30 : PySem.W.nsIn K mainGlobals "are_comparable" = some (some (.ref f30)))
    (l30 : K.lookup f30 = some ⟨oc30, od30, .func (PySem.W.fnOf "are_comparable" "are_comparable" (defArgs sComp) (defBody sComp) (defScope sComp) .none kV30 dc30 pm30 an30 cd30 ct30), sl30⟩)
    (c30 : PySem.W.codeIn K cd30 "are_comparable" = true)
    (q30 : PySem.W.keepIn K (.ref f30) = true)
    (a31 : PySem.W.nsIn K mainGlobals "has_registers" = some (some (.ref f31)))
    (l31 : K.lookup f31 = some ⟨oc31, od31, .func (PySem.W.fnOf "has_registers" "has_registers" (defArgs sHasR) (defBody sHasR) (defScope sHasR) .none kV31 dc31 pm31 an31 cd31 ct31), sl31⟩)
    (c31 : PySem.W.codeIn K cd31 "has_registers" = true)
    (q31 : PySem.W.keepIn K (.ref f31) = true)
    (a32 : PySem.W.nsIn K mainGlobals "least_difference" = some (some (.ref f32)))
    (l32 : K.lookup f32 = some ⟨oc32, od32, .func (PySem.W.fnOf "least_difference" "least_difference" (defArgs sLeast) (defBody sLeast) (defScope sLeast) .none kV32 dc32 pm32 an32 cd32 ct32), sl32⟩)
    (c32 : PySem.W.codeIn K cd32 "least_difference" = true)
    (q32 : PySem.W.keepIn K (.ref f32) = true)
    (a33 : PySem.W.nsIn K mainGlobals "counting_column" = some (some (.ref f33)))
    (l33 : K.lookup f33 = some ⟨oc33, od33, .func (PySem.W.fnOf "counting_column" "counting_column" (defArgs sCount) (defBody sCount) (defScope sCount) .none kV33 dc33 pm33 an33 cd33 ct33), sl33⟩)
    (c33 : PySem.W.codeIn K cd33 "counting_column" = true)
    (q33 : PySem.W.keepIn K (.ref f33) = true)
    (a34 : PySem.W.nsIn K mainGlobals "output_columns" = some (some (.ref f34)))
    (l34 : K.lookup f34 = some ⟨oc34, od34, .func (PySem.W.fnOf "output_columns" "output_columns" (defArgs sOutC) (defBody sOutC) (defScope sOutC) .none kV34 dc34 pm34 an34 cd34 ct34), sl34⟩)
    (c34 : PySem.W.codeIn K cd34 "output_columns" = true)
    (q34 : PySem.W.keepIn K (.ref f34) = true)
    (a35 : PySem.W.nsIn K mainGlobals "gate_column" = some (some (.ref f35)))
    (l35 : K.lookup f35 = some ⟨oc35, od35, .func (PySem.W.fnOf "gate_column" "gate_column" (defArgs sGateC) (defBody sGateC) (defScope sGateC) .none kV35 dc35 pm35 an35 cd35 ct35), sl35⟩)
    (c35 : PySem.W.codeIn K cd35 "gate_column" = true)
    (q35 : PySem.W.keepIn K (.ref f35) = true)
    (a36 : PySem.W.nsIn K mainGlobals "differing_rows" = some (some (.ref f36)))
    (l36 : K.lookup f36 = some ⟨oc36, od36, .func (PySem.W.fnOf "differing_rows" "differing_rows" (defArgs sApart) (defBody sApart) (defScope sApart) .none kV36 dc36 pm36 an36 cd36 ct36), sl36⟩)
    (c36 : PySem.W.codeIn K cd36 "differing_rows" = true)
    (q36 : PySem.W.keepIn K (.ref f36) = true)
    (a37 : PySem.W.nsIn K mainGlobals "lowest_place" = some (some (.ref f37)))
    (l37 : K.lookup f37 = some ⟨oc37, od37, .func (PySem.W.fnOf "lowest_place" "lowest_place" (defArgs sLow) (defBody sLow) (defScope sLow) .none kV37 dc37 pm37 an37 cd37 ct37), sl37⟩)
    (c37 : PySem.W.codeIn K cd37 "lowest_place" = true)
    (q37 : PySem.W.keepIn K (.ref f37) = true)
    (a16 : PySem.W.findIn K (.ref CG) "__init__" = some (some (.ref f16)))
    (i16 : PySem.W.isFn K (.ref f16) = true)
    (l16 : K.lookup f16 = some ⟨oc16, od16, .func (PySem.W.fnOf "__init__" "Gate.__init__" (defArgs sGateInit) (defBody sGateInit) (defScope sGateInit) .none kV16 dc16 pm16 an16 cd16 ct16), sl16⟩)
    (c16 : PySem.W.codeIn K cd16 "Gate.__init__" = true)
    (q16 : PySem.W.keepIn K (.ref f16) = true)
    (a17 : PySem.W.findIn K (.ref CN) "__init__" = some (some (.ref f17)))
    (i17 : PySem.W.isFn K (.ref f17) = true)
    (l17 : K.lookup f17 = some ⟨oc17, od17, .func (PySem.W.fnOf "__init__" "Network.__init__" (defArgs sNetInit) (defBody sNetInit) (defScope sNetInit) .none kV17 dc17 pm17 an17 cd17 ct17), sl17⟩)
    (c17 : PySem.W.codeIn K cd17 "Network.__init__" = true)
    (q17 : PySem.W.keepIn K (.ref f17) = true)
    (a27 : PySem.W.findIn K (.ref CM) "__init__" = some (some (.ref f27)))
    (i27 : PySem.W.isFn K (.ref f27) = true)
    (l27 : K.lookup f27 = some ⟨oc27, od27, .func (PySem.W.fnOf "__init__" "Machine.__init__" (defArgs sMachInit) (defBody sMachInit) (defScope sMachInit) .none kV27 dc27 pm27 an27 cd27 ct27), sl27⟩)
    (c27 : PySem.W.codeIn K cd27 "Machine.__init__" = true)
    (q27 : PySem.W.keepIn K (.ref f27) = true)
    (pgG : PySem.W.plainGet K CG Str.empty = true)
    (hdG : PySem.W.hasDictIn K CG = true)
    (poG : PySem.W.plainOver K CG = true)
    (saG : PySem.W.findIn K (.ref CG) "__setattr__" = some (some (.builtin "object.__setattr__")))
    (mkG : PySem.W.makesIn K CG = true)
    (kcG : PySem.W.keepIn K (.ref CG) = true)
    (pgN : PySem.W.plainGet K CN Str.empty = true)
    (hdN : PySem.W.hasDictIn K CN = true)
    (poN : PySem.W.plainOver K CN = true)
    (saN : PySem.W.findIn K (.ref CN) "__setattr__" = some (some (.builtin "object.__setattr__")))
    (mkN : PySem.W.makesIn K CN = true)
    (kcN : PySem.W.keepIn K (.ref CN) = true)
    (pgM : PySem.W.plainGet K CM Str.empty = true)
    (hdM : PySem.W.hasDictIn K CM = true)
    (poM : PySem.W.plainOver K CM = true)
    (saM : PySem.W.findIn K (.ref CM) "__setattr__" = some (some (.builtin "object.__setattr__")))
    (mkM : PySem.W.makesIn K CM = true)
    (kcM : PySem.W.keepIn K (.ref CM) = true)
    (nK : PySem.W.findIn K (.ref CG) "kind" = some none)
    (nS : PySem.W.findIn K (.ref CG) "sources" = some none)
    (nI : PySem.W.findIn K (.ref CN) "inputs" = some none)
    (nO : PySem.W.findIn K (.ref CN) "outputs" = some none)
    (nG : PySem.W.findIn K (.ref CN) "gates" = some none)
    (mb : PySem.W.findIn K (.ref CM) "bits" = some none)
    (mi : PySem.W.findIn K (.ref CM) "input_places" = some none)
    (mo : PySem.W.findIn K (.ref CM) "output_places" = some none)
    (ms : PySem.W.findIn K (.ref CM) "steps" = some none)
    (mm : PySem.W.findIn K (.ref CM) "moves" = some none)
    (xF : PySem.W.excIn K CF [.type "ValueError", .type "Exception", .type "BaseException", .type "object"] "ValueError.__new__" = true)
    (kF : PySem.W.keepIn K (.ref CF) = true)
    (bF : PySem.W.subIn K (.ref CF) (.type "BaseException") = some true)
    (tF : PySem.W.typeIn K (.ref CF) = some (.type "type"))
    (iF : PySem.W.isClsIn K CF = true)
    (sF : PySem.W.subIn K (.ref CF) (.ref CF) = some true)
    (zl : PySem.W.nsIn K mainGlobals "len" = some none)
    (zo : PySem.W.nsIn K mainGlobals "ord" = some none)
    (za : PySem.W.nsIn K mainGlobals "all" = some none)
    (zy : PySem.W.nsIn K mainGlobals "any" = some none)
    (zi : PySem.W.nsIn K mainGlobals "min" = some none)
    (zr : PySem.W.nsIn K mainGlobals "range" = some none)
    (zs : PySem.W.nsIn K mainGlobals "sum" = some none)
    (zz : PySem.W.nsIn K mainGlobals "zip" = some none)
    (zd : PySem.W.nsIn K mainGlobals "dict" = some none)
    (ze : PySem.W.nsIn K mainGlobals "enumerate" = some none)
    (v1 : PySem.W.nsIn K mainGlobals "MOST_BYTES" = some (some (.int 65536 k1)))
    (v2 : PySem.W.nsIn K mainGlobals "MOST_NAMES" = some (some (.int 1024 k2)))
    (v3 : PySem.W.nsIn K mainGlobals "MOST_INPUTS" = some (some (.int 64 k3)))
    (v4 : PySem.W.nsIn K mainGlobals "MOST_OUTPUTS" = some (some (.int 64 k4)))
    (v5 : PySem.W.nsIn K mainGlobals "LONGEST_NAME" = some (some (.int 15 k5)))
    (v6 : PySem.W.nsIn K mainGlobals "LETTERS" = some (some (.str "abcdefghijklmnopqrstuvwxyz" k6)))
    (v7 : PySem.W.nsIn K mainGlobals "NAME_SIGNS" = some (some (.str "abcdefghijklmnopqrstuvwxyz0123456789_" k7)))
    (v8 : PySem.W.nsIn K mainGlobals "KNOWN_SIGNS" = some (some (.str "\n\t #=abcdefghijklmnopqrstuvwxyz0123456789_" k8)))
    (v9 : PySem.W.nsIn K mainGlobals "STRANGE_SIGN" = some (some (.str "?" k9)))
    (v11 : PySem.W.nsIn K mainGlobals "MOST_SOURCES" = some (some (.int 3 k11)))
    (v12 : PySem.W.nsIn K mainGlobals "MOST_COMPARED_INPUTS" = some (some (.int 16 k12)))
    (v13 : PySem.W.nsIn K mainGlobals "INPUTS_IN_BLOCK" = some (some (.int 11 k13)))
    (aD : PySem.W.nsIn K mainGlobals "SOURCES_OF_KIND" = some (some (.ref dk)))
    (lD : K.lookup dk = some ⟨.type "dict", none, .dict esD nD, #[]⟩)
    (yD : PySem.W.KeysLit w.params esD.toList)
    (oD : (dk == sysModules) = false)
    (hD : Shape esD.toList kindTbl)
    (aR : PySem.W.nsIn K mainGlobals "FIRST_BIT_OF_REGISTER" = some (some (.ref rg)))
    (lR : K.lookup rg = some ⟨.type "dict", none, .dict esR nR, #[]⟩)
    (yR : PySem.W.KeysLit w.params esR.toList)
    (oR : (rg == sysModules) = false)
    (hR : Shape esR.toList regTbl)
    (aB : PySem.W.nsIn K mainGlobals "BITS_OF_KIND" = some (some (.ref db)))
    (lB : K.lookup db = some ⟨.type "dict", none, .dict esB nB, #[]⟩)
    (yB : PySem.W.KeysLit w.params esB.toList)
    (oB : (db == sysModules) = false)
    (hB : ShapeA esB.toList [(kZero, xazero), (kOne, xaone), (kNot, xanot), (kBuf, xabuf), (kAnd, xaand), (kOr, xaor), (kXor, xaxor), (kNand, xanand), (kNor, xanor), (kXnor, xaxnor), (kMaj, xamaj), (kMux, xamux)])
    (xlzero : K.lookup xazero = some ⟨.type "tuple", xozero, .seq xizero xnzero, xszero⟩)
    (xvzero : Vals [.int 0] xizero.toList)
    (xlone : K.lookup xaone = some ⟨.type "tuple", xoone, .seq xione xnone, xsone⟩)
    (xvone : Vals [.int 1] xione.toList)
    (xlnot : K.lookup xanot = some ⟨.type "tuple", xonot, .seq xinot xnnot, xsnot⟩)
    (xvnot : Vals [.int 1, .int 0] xinot.toList)
    (xlbuf : K.lookup xabuf = some ⟨.type "tuple", xobuf, .seq xibuf xnbuf, xsbuf⟩)
    (xvbuf : Vals [.int 0, .int 1] xibuf.toList)
    (xland : K.lookup xaand = some ⟨.type "tuple", xoand, .seq xiand xnand, xsand⟩)
    (xvand : Vals [.int 0, .int 0, .int 0, .int 1] xiand.toList)
    (xlor : K.lookup xaor = some ⟨.type "tuple", xoor, .seq xior xnor, xsor⟩)
    (xvor : Vals [.int 0, .int 1, .int 1, .int 1] xior.toList)
    (xlxor : K.lookup xaxor = some ⟨.type "tuple", xoxor, .seq xixor xnxor, xsxor⟩)
    (xvxor : Vals [.int 0, .int 1, .int 1, .int 0] xixor.toList)
    (xlnand : K.lookup xanand = some ⟨.type "tuple", xonand, .seq xinand xnnand, xsnand⟩)
    (xvnand : Vals [.int 1, .int 1, .int 1, .int 0] xinand.toList)
    (xlnor : K.lookup xanor = some ⟨.type "tuple", xonor, .seq xinor xnnor, xsnor⟩)
    (xvnor : Vals [.int 1, .int 0, .int 0, .int 0] xinor.toList)
    (xlxnor : K.lookup xaxnor = some ⟨.type "tuple", xoxnor, .seq xixnor xnxnor, xsxnor⟩)
    (xvxnor : Vals [.int 1, .int 0, .int 0, .int 1] xixnor.toList)
    (xlmaj : K.lookup xamaj = some ⟨.type "tuple", xomaj, .seq ximaj xnmaj, xsmaj⟩)
    (xvmaj : Vals [.int 0, .int 0, .int 0, .int 1, .int 0, .int 1, .int 1, .int 1] ximaj.toList)
    (xlmux : K.lookup xamux = some ⟨.type "tuple", xomux, .seq ximux xnmux, xsmux⟩)
    (xvmux : Vals [.int 0, .int 1, .int 0, .int 1, .int 0, .int 0, .int 1, .int 1] ximux.toList) :
    ∃ fd : FuncData, (∀ (s : Shared) (us : List Value), us.length = (["a", "b"] : List Str).length → BindsTo s fd ⟨us, []⟩ ((["a", "b"] : List Str).zip us)) ∧ ∀ base : Heap, K.In base → base.Ns mainGlobals mg → FnOk P w K mg base CX0 6 fa fd ["a", "b"] (spSame K) := by
  have e := hfa.symm.trans (PySem.W.mg_of X G a1)
  cases e
  have T : Txt K mg CF CG CN := ⟨⟨pgG, hdG, poG, saG⟩, ⟨pgN, hdN, poN, saN⟩, nK, nS, nI, nO, nG, PySem.W.mg_of X G aF, PySem.W.mg_of X G aG, PySem.W.mg_of X G aN, xF, kF, bF, tF, caught bF iF tF sF,
    PySem.W.mg_none_of X G zl, PySem.W.mg_none_of X G zo, PySem.W.mg_none_of X G za, ⟨_, PySem.W.mg_of X G v1⟩, ⟨_, PySem.W.mg_of X G v2⟩, ⟨_, PySem.W.mg_of X G v3⟩, ⟨_, PySem.W.mg_of X G v4⟩, ⟨_, PySem.W.mg_of X G v5⟩,
    ⟨_, PySem.W.mg_of X G v6⟩, ⟨_, PySem.W.mg_of X G v7⟩, ⟨_, PySem.W.mg_of X G v8⟩, ⟨_, PySem.W.mg_of X G v9⟩⟩
  have T2 : Txt2 K mg w dk rg := ⟨PySem.W.mg_of X G aD, ⟨esD, nD, ⟨lD, yD, oD⟩⟩, fun z => by rw [kc_tbl]; exact ns_of lD hD z, PySem.W.mg_of X G aR, ⟨esR, nR, ⟨lR, yR, oR⟩⟩, fun z => by rw [rc_tbl]; exact ns_of lR hR z⟩
  have TM : TxtM K mg CM := ⟨⟨pgM, hdM, poM, saM⟩, mb, mi, mo, ms, mm, PySem.W.mg_of X G aM, PySem.W.mg_none_of X G zd, PySem.W.mg_none_of X G ze, ⟨_, PySem.W.mg_of X G v11⟩⟩
  have TB : TxtB K mg w db := ⟨PySem.W.mg_of X G aB, ⟨esB, nB, ⟨lB, yB, oB⟩⟩, fun z l hz => tab_of lB hB (bTbl := bitTbl) (.cons rfl (tup_of xlzero xvzero) (.cons rfl (tup_of xlone xvone) (.cons rfl (tup_of xlnot xvnot) (.cons rfl (tup_of xlbuf xvbuf) (.cons rfl (tup_of xland xvand) (.cons rfl (tup_of xlor xvor) (.cons rfl (tup_of xlxor xvxor) (.cons rfl (tup_of xlnand xvnand) (.cons rfl (tup_of xlnor xvnor) (.cons rfl (tup_of xlxnor xvxnor) (.cons rfl (tup_of xlmaj xvmaj) (.cons rfl (tup_of xlmux xvmux) (.nil))))))))))))) z l hz⟩
  have F1 := fun_mk (st := sSame) l1 c1 q1
  have b1 := F1.binds (ps := ["a", "b"]) fun _ _ _ _ _ _ us hl => match us, hl with | [_, _], _ => rfl
  have F2 := fun_mk (st := sRead) l2 c2 q2
  have b2 := F2.binds (ps := ["text"]) fun _ _ _ _ _ _ us hl => match us, hl with | [_], _ => rfl
  have F3 := fun_mk (st := sSpell) l3 c3 q3
  have b3 := F3.binds (ps := ["text"]) fun _ _ _ _ _ _ us hl => match us, hl with | [_], _ => rfl
  have F4 := fun_mk (st := sLine) l4 c4 q4
  have b4 := F4.binds (ps := ["network", "words"]) fun _ _ _ _ _ _ us hl => match us, hl with | [_, _], _ => rfl
  have F5 := fun_mk (st := sAddIn) l5 c5 q5
  have b5 := F5.binds (ps := ["network", "names"]) fun _ _ _ _ _ _ us hl => match us, hl with | [_, _], _ => rfl
  have F6 := fun_mk (st := sAddOut) l6 c6 q6
  have b6 := F6.binds (ps := ["network", "names"]) fun _ _ _ _ _ _ us hl => match us, hl with | [_, _], _ => rfl
  have F7 := fun_mk (st := sAddGate) l7 c7 q7
  have b7 := F7.binds (ps := ["network", "words"]) fun _ _ _ _ _ _ us hl => match us, hl with | [_, _], _ => rfl
  have F8 := fun_mk (st := sIsName) l8 c8 q8
  have b8 := F8.binds (ps := ["word"]) fun _ _ _ _ _ _ us hl => match us, hl with | [_], _ => rfl
  have F9 := fun_mk (st := sIsGiven) l9 c9 q9
  have b9 := F9.binds (ps := ["network", "name"]) fun _ _ _ _ _ _ us hl => match us, hl with | [_, _], _ => rfl
  have F10 := fun_mk (st := sNew) l10 c10 q10
  have b10 := F10.binds (ps := ["network", "word"]) fun _ _ _ _ _ _ us hl => match us, hl with | [_, _], _ => rfl
  have F11 := fun_mk (st := sMany) l11 c11 q11
  have b11 := F11.binds (ps := ["network"]) fun _ _ _ _ _ _ us hl => match us, hl with | [_], _ => rfl
  have F12 := fun_mk (st := sUnknown) l12 c12 q12
  have b12 := F12.binds (ps := ["network"]) fun _ _ _ _ _ _ us hl => match us, hl with | [_], _ => rfl
  have F13 := fun_mk (st := sLoops) l13 c13 q13
  have b13 := F13.binds (ps := ["network"]) fun _ _ _ _ _ _ us hl => match us, hl with | [_], _ => rfl
  have F14 := fun_mk (st := sAtOnce) l14 c14 q14
  have b14 := F14.binds (ps := ["gate"]) fun _ _ _ _ _ _ us hl => match us, hl with | [_], _ => rfl
  have F15 := fun_mk (st := sOrder) l15 c15 q15
  have b15 := F15.binds (ps := ["gates"]) fun _ _ _ _ _ _ us hl => match us, hl with | [_], _ => rfl
  have F18 := fun_mk (st := sPlace) l18 c18 q18
  have b18 := F18.binds (ps := ["network"]) fun _ _ _ _ _ _ us hl => match us, hl with | [_], _ => rfl
  have F19 := fun_mk (st := sFirst) l19 c19 q19
  have b19 := F19.binds (ps := ["network", "places"]) fun _ _ _ _ _ _ us hl => match us, hl with | [_, _], _ => rfl
  have F20 := fun_mk (st := sSteps) l20 c20 q20
  have b20 := F20.binds (ps := ["network", "places"]) fun _ _ _ _ _ _ us hl => match us, hl with | [_, _], _ => rfl
  have F21 := fun_mk (st := sMoves) l21 c21 q21
  have b21 := F21.binds (ps := ["network", "places"]) fun _ _ _ _ _ _ us hl => match us, hl with | [_, _], _ => rfl
  have F30 := fun_mk (st := sComp) l30 c30 q30
  have b30 := F30.binds (ps := ["one", "other"]) fun _ _ _ _ _ _ us hl => match us, hl with | [_, _], _ => rfl
  have F31 := fun_mk (st := sHasR) l31 c31 q31
  have b31 := F31.binds (ps := ["network"]) fun _ _ _ _ _ _ us hl => match us, hl with | [_], _ => rfl
  have F32 := fun_mk (st := sLeast) l32 c32 q32
  have b32 := F32.binds (ps := ["one", "other"]) fun _ _ _ _ _ _ us hl => match us, hl with | [_, _], _ => rfl
  have F33 := fun_mk (st := sCount) l33 c33 q33
  have b33 := F33.binds (ps := ["index", "rows"]) fun _ _ _ _ _ _ us hl => match us, hl with | [_, _], _ => rfl
  have F34 := fun_mk (st := sOutC) l34 c34 q34
  have b34 := F34.binds (ps := ["machine", "inputs", "full"]) fun _ _ _ _ _ _ us hl => match us, hl with | [_, _, _], _ => rfl
  have F35 := fun_mk (st := sGateC) l35 c35 q35
  have b35 := F35.binds (ps := ["given", "first", "second", "third", "full"]) fun _ _ _ _ _ _ us hl => match us, hl with | [_, _, _, _, _], _ => rfl
  have F36 := fun_mk (st := sApart) l36 c36 q36
  have b36 := F36.binds (ps := ["columns", "others"]) fun _ _ _ _ _ _ us hl => match us, hl with | [_, _], _ => rfl
  have F37 := fun_mk (st := sLow) l37 c37 q37
  have b37 := F37.binds (ps := ["number"]) fun _ _ _ _ _ _ us hl => match us, hl with | [_], _ => rfl
  have F16 := fun_mk (st := sGateInit) l16 c16 q16
  have b16 := F16.binds (ps := ["self", "kind", "sources"]) fun _ _ _ _ _ _ us hl => match us, hl with | [_, _, _], _ => rfl
  have F17 := fun_mk (st := sNetInit) l17 c17 q17
  have b17 := F17.binds (ps := ["self"]) fun _ _ _ _ _ _ us hl => match us, hl with | [_], _ => rfl
  have F27 := fun_mk (st := sMachInit) l27 c27 q27
  have b27 := F27.binds (ps := ["self", "network"]) fun _ _ _ _ _ _ us hl => match us, hl with | [_, _], _ => rfl
  have m := fun {n : Str} {v : Value} (e : PySem.W.nsIn K mainGlobals n = some (some v)) => PySem.W.mg_of X G e
  refine ⟨PySem.W.fnOf "same" "same" (defArgs sSame) (defBody sSame) (defScope sSame) .none kV1 dc1 pm1 an1 cd1 ct1, fun s us hu => match us, hu with | [_, _], _ => .of_eq rfl, fun base _ _ => ?_⟩
  have GNew : FnOk P w K mg base (L2.CX P w) 2 f10 _ ["network", "word"] (spNew CF CN CG) := ok_new F10 T F8 b8 (m a8) F9 b9 (m a9)
  have GIn : FnOk P w K mg base (L2.CX P w) 3 f5 _ ["network", "names"] (spAddIn CF CN CG) := ok_addIn F5 T GNew F10.kp b10 (m a10)
  have GOut : FnOk P w K mg base (L2.CX P w) 1 f6 _ ["network", "names"] (spAddOut CF CN CG) := ok_addOut F6 T
  have GGate : FnOk P w K mg base (L2.CX P w) 3 f7 _ ["network", "words"] (spAddGate CF CN CG) := ok_addGate F7 T T2 GNew F10.kp b10 (m a10) ⟨mkG, a16, i16, kcG⟩ F16 b16
  have GLine : FnOk P w K mg base (L2.CX P w) 4 f4 _ ["network", "words"] (spLine CF CN CG) := ok_line F4 GIn F5.kp b5 (m a5) GOut F6.kp b6 (m a6) GGate F7.kp b7 (m a7)
  have GSpell : FnOk P w K mg base CX0 1 f3 _ ["text"] (spSpell K) := ok_spell F3 T
  have GMany : FnOk P w K mg base (L2.CX P w) 1 f11 _ ["network"] (spMany CF CN CG) := ok_many F11 T
  have GUnk : FnOk P w K mg base (L2.CX P w) 2 f12 _ ["network"] (spUnknown CF CN CG) := ok_unknown F12 T F9 b9 (m a9)
  have GOrd : FnOk P w K mg base CX0 2 f15 _ ["gates"] (spOrder CG) := ok_order F15 T T2 F14 b14 (m a14)
  have GLoop : FnOk P w K mg base (L2.CX P w) 3 f13 _ ["network"] (spLoops CF CN CG) := ok_loops F13 T GOrd F15.kp b15 (m a15)
  have GRead : FnOk P w K mg base (L2.CX P w) 5 f2 _ ["text"] (spRead K CF CN CG) := ok_read F2 T ⟨mkN, a17, i17, kcN⟩ F17 b17 GSpell F3.kp b3 (m a3) GLine F4.kp b4 (m a4) GMany F11.kp b11 (m a11) GUnk F12.kp b12 (m a12) GLoop F13.kp b13 (m a13)
  have GPl : FnOk P w K mg base CX0 1 f18 _ ["network"] (spPlace CN CG) := ok_place F18 T TM
  have GFi : FnOk P w K mg base CX0 1 f19 _ ["network", "places"] (spFirst CN CG) := ok_first F19 T T2
  have GSt : FnOk P w K mg base CX0 3 f20 _ ["network", "places"] (spSteps K CN CG) := ok_steps F20 T T2 TM TB GOrd F15.kp b15 (m a15)
  have GMo : FnOk P w K mg base CX0 1 f21 _ ["network", "places"] (spMoves CN CG) := ok_moves F21 T T2
  have GMi : FnOk P w K mg base CX0 4 f27 _ ["self", "network"] (spMach K CM CN CG) := ok_mach F27 T TM GPl F18.kp b18 (m a18) GFi F19.kp b19 (m a19) GSt F20.kp b20 (m a20) GMo F21.kp b21 (m a21)
  have TS : TxtS mg := ⟨PySem.W.mg_none_of X G zy, PySem.W.mg_none_of X G zi, PySem.W.mg_none_of X G zr, PySem.W.mg_none_of X G zs, PySem.W.mg_none_of X G zz, ⟨_, PySem.W.mg_of X G v12⟩, ⟨_, PySem.W.mg_of X G v13⟩⟩
  have GHa : FnOk P w K mg base CX0 1 f31 _ ["network"] (spHasR CN CG) := ok_hasR F31 T T2 TS
  have GCo : FnOk P w K mg base CX0 2 f30 _ ["one", "other"] (spComp CN CG) := ok_comp F30 T TS GHa F31.kp b31 (m a31)
  have GCc : FnOk P w K mg base CX0 1 f33 _ ["index", "rows"] spCount := ok_count F33 TS
  have GGc : FnOk P w K mg base CX0 1 f35 _ ["given", "first", "second", "third", "full"] (spGateC K) := ok_gateC F35 TM
  have GOc : FnOk P w K mg base CX0 2 f34 _ ["machine", "inputs", "full"] (spOutC K CM) := ok_outC F34 T TM TS GGc F35.kp b35 (m a35)
  have GDr : FnOk P w K mg base CX0 1 f36 _ ["columns", "others"] spApart := ok_apart F36 TS
  have GLp : FnOk P w K mg base CX0 1 f37 _ ["number"] spLow := ok_low F37
  have GLd : FnOk P w K mg base CX0 3 f32 _ ["one", "other"] (spLeast K CM) := ok_least F32 T TM TS GCc F33.kp b33 (m a33) GOc F34.kp b34 (m a34) GDr F36.kp b36 (m a36) GLp F37.kp b37 (m a37)
  exact ok_same F1 T TM GRead F2.kp b2 (m a2) ⟨mkM, a27, i27, kcM⟩ GMi b27 GCo F30.kp b30 (m a30) GLd F32.kp b32 (m a32)
end GN
open PySem PySem.W PyProof.Rows
set_option maxRecDepth 100000 in
set_option maxHeartbeats 8000000 in
theorem PySem.Challenge.cw_gatenets_s03_same_holds : PySem.Challenge.rw_gatenets_s03_same.Holds := by
  w_on; k_headS; (case hw => exact ⟨[.list [], .list []], by decide +kernel, by decide +kernel⟩)
  k_fillS
  refine L2.walk_specK (r := PySem.Challenge.rw_gatenets_s03_same) (k := 6) (CX := L2.CX0) (ps := ["a", "b"]) (sp := GN.spSame) (by decide +kernel) rfl rfl ⟨rfl, by decide, by decide⟩ (fun w h Y => PySem.W.kIn_of Y) ?F ?S (fun _ _ _ _ z => z)
  case F =>
    intro w mg fa h Y KX G hmg
    refine' GN.all_mk KX G hmg ?aF ?aG ?aN ?aM ?a1 ?l1 ?c1 ?q1 ?a2 ?l2 ?c2 ?q2 ?a3 ?l3 ?c3 ?q3 ?a4 ?l4 ?c4 ?q4 ?a5 ?l5 ?c5 ?q5 ?a6 ?l6 ?c6 ?q6 ?a7 ?l7 ?c7 ?q7 ?a8 ?l8 ?c8 ?q8 ?a9 ?l9 ?c9 ?q9 ?a10 ?l10 ?c10 ?q10 ?a11 ?l11 ?c11 ?q11 ?a12 ?l12 ?c12 ?q12 ?a13 ?l13 ?c13 ?q13 ?a14 ?l14 ?c14 ?q14 ?a15 ?l15 ?c15 ?q15 ?a18 ?l18 ?c18 ?q18 ?a19 ?l19 ?c19 ?q19 ?a20 ?l20 ?c20 ?q20 ?a21 ?l21 ?c21 ?q21 ?a30 ?l30 ?c30 ?q30 ?a31 ?l31 ?c31 ?q31 ?a32 ?l32 ?c32 ?q32 ?a33 ?l33 ?c33 ?q33 ?a34 ?l34 ?c34 ?q34 ?a35 ?l35 ?c35 ?q35 ?a36 ?l36 ?c36 ?q36 ?a37 ?l37 ?c37 ?q37 ?a16 ?i16 ?l16 ?c16 ?q16 ?a17 ?i17 ?l17 ?c17 ?q17 ?a27 ?i27 ?l27 ?c27 ?q27 ?pgG ?hdG ?poG ?saG ?mkG ?kcG ?pgN ?hdN ?poN ?saN ?mkN ?kcN ?pgM ?hdM ?poM ?saM ?mkM ?kcM ?nK ?nS ?nI ?nO ?nG ?mb ?mi ?mo ?ms ?mm ?xF ?kF ?bF ?tF ?iF ?sF ?zl ?zo ?za ?zy ?zi ?zr ?zs ?zz ?zd ?ze ?v1 ?v2 ?v3 ?v4 ?v5 ?v6 ?v7 ?v8 ?v9 ?v11 ?v12 ?v13 ?aD ?lD ?yD ?oD ?hD ?aR ?lR ?yR ?oR ?hR ?aB ?lB ?yB ?oB ?hB ?xlzero ?xvzero ?xlone ?xvone ?xlnot ?xvnot ?xlbuf ?xvbuf ?xland ?xvand ?xlor ?xvor ?xlxor ?xvxor ?xlnand ?xvnand ?xlnor ?xvnor ?xlxnor ?xvxnor ?xlmaj ?xvmaj ?xlmux ?xvmux
    (case aF => k_is)
    (case aG => k_is)
    (case aN => k_is)
    (case aM => k_is)
    (case a1 => k_is)
    (case l1 => k_is)
    (case c1 => k_is)
    (case q1 => k_is)
    (case a2 => k_is)
    (case l2 => k_is)
    (case c2 => k_is)
    (case q2 => k_is)
    (case a3 => k_is)
    (case l3 => k_is)
    (case c3 => k_is)
    (case q3 => k_is)
    (case a4 => k_is)
    (case l4 => k_is)
    (case c4 => k_is)
    (case q4 => k_is)
    (case a5 => k_is)
    (case l5 => k_is)
    (case c5 => k_is)
    (case q5 => k_is)
    (case a6 => k_is)
    (case l6 => k_is)
    (case c6 => k_is)
    (case q6 => k_is)
    (case a7 => k_is)
    (case l7 => k_is)
    (case c7 => k_is)
    (case q7 => k_is)
    (case a8 => k_is)
    (case l8 => k_is)
    (case c8 => k_is)
    (case q8 => k_is)
    (case a9 => k_is)
    (case l9 => k_is)
    (case c9 => k_is)
    (case q9 => k_is)
    (case a10 => k_is)
    (case l10 => k_is)
    (case c10 => k_is)
    (case q10 => k_is)
    (case a11 => k_is)
    (case l11 => k_is)
    (case c11 => k_is)
    (case q11 => k_is)
    (case a12 => k_is)
    (case l12 => k_is)
    (case c12 => k_is)
    (case q12 => k_is)
    (case a13 => k_is)
    (case l13 => k_is)
    (case c13 => k_is)
    (case q13 => k_is)
    (case a14 => k_is)
    (case l14 => k_is)
    (case c14 => k_is)
    (case q14 => k_is)
    (case a15 => k_is)
    (case l15 => k_is)
    (case c15 => k_is)
    (case q15 => k_is)
    (case a18 => k_is)
    (case l18 => k_is)
    (case c18 => k_is)
    (case q18 => k_is)
    (case a19 => k_is)
    (case l19 => k_is)
    (case c19 => k_is)
    (case q19 => k_is)
    (case a20 => k_is)
    (case l20 => k_is)
    (case c20 => k_is)
    (case q20 => k_is)
    (case a21 => k_is)
    (case l21 => k_is)
    (case c21 => k_is)
    (case q21 => k_is)
    (case a30 => k_is)
    (case l30 => k_is)
    (case c30 => k_is)
    (case q30 => k_is)
    (case a31 => k_is)
    (case l31 => k_is)
    (case c31 => k_is)
    (case q31 => k_is)
    (case a32 => k_is)
    (case l32 => k_is)
    (case c32 => k_is)
    (case q32 => k_is)
    (case a33 => k_is)
    (case l33 => k_is)
    (case c33 => k_is)
    (case q33 => k_is)
    (case a34 => k_is)
    (case l34 => k_is)
    (case c34 => k_is)
    (case q34 => k_is)
    (case a35 => k_is)
    (case l35 => k_is)
    (case c35 => k_is)
    (case q35 => k_is)
    (case a36 => k_is)
    (case l36 => k_is)
    (case c36 => k_is)
    (case q36 => k_is)
    (case a37 => k_is)
    (case l37 => k_is)
    (case c37 => k_is)
    (case q37 => k_is)
    (case a16 => k_is)
    (case i16 => k_is)
    (case l16 => k_is)
    (case c16 => k_is)
    (case q16 => k_is)
    (case a17 => k_is)
    (case i17 => k_is)
    (case l17 => k_is)
    (case c17 => k_is)
    (case q17 => k_is)
    (case a27 => k_is)
    (case i27 => k_is)
    (case l27 => k_is)
    (case c27 => k_is)
    (case q27 => k_is)
    (case pgG => k_is)
    (case hdG => k_is)
    (case poG => k_is)
    (case saG => k_is)
    (case mkG => k_is)
    (case kcG => k_is)
    (case pgN => k_is)
    (case hdN => k_is)
    (case poN => k_is)
    (case saN => k_is)
    (case mkN => k_is)
    (case kcN => k_is)
    (case pgM => k_is)
    (case hdM => k_is)
    (case poM => k_is)
    (case saM => k_is)
    (case mkM => k_is)
    (case kcM => k_is)
    (case nK => k_is)
    (case nS => k_is)
    (case nI => k_is)
    (case nO => k_is)
    (case nG => k_is)
    (case mb => k_is)
    (case mi => k_is)
    (case mo => k_is)
    (case ms => k_is)
    (case mm => k_is)
    (case xF => k_exc)
    (case kF => k_is)
    (case bF => k_is)
    (case tF => k_is)
    (case iF => k_is)
    (case sF => first | rfl | k_is)
    (case zl => k_is)
    (case zo => k_is)
    (case za => k_is)
    (case zy => k_is)
    (case zi => k_is)
    (case zr => k_is)
    (case zs => k_is)
    (case zz => k_is)
    (case zd => k_is)
    (case ze => k_is)
    (case v1 => k_is)
    (case v2 => k_is)
    (case v3 => k_is)
    (case v4 => k_is)
    (case v5 => k_is)
    (case v6 => k_is)
    (case v7 => k_is)
    (case v8 => k_is)
    (case v9 => k_is)
    (case v11 => k_is)
    (case v12 => k_is)
    (case v13 => k_is)
    (case aD => k_is)
    (case lD => k_is)
    (case yD => k_keys)
    (case oD => decide)
    (case hD => repeat (first | exact True.intro | refine ⟨⟨_, rfl⟩, ⟨_, rfl⟩, ?_⟩))
    (case aR => k_is)
    (case lR => k_is)
    (case yR => k_keys)
    (case oR => decide)
    (case hR => repeat (first | exact True.intro | refine ⟨⟨_, rfl⟩, ⟨_, rfl⟩, ?_⟩))
    (case aB => k_is)
    (case lB => k_is)
    (case yB => k_keys)
    (case oB => decide)
    (case hB => repeat (first | exact True.intro | refine ⟨⟨_, rfl⟩, rfl, ?_⟩))
    (case xlzero => k_is)
    (case xvzero => exact .cons ⟨_, rfl⟩ (.nil))
    (case xlone => k_is)
    (case xvone => exact .cons ⟨_, rfl⟩ (.nil))
    (case xlnot => k_is)
    (case xvnot => exact .cons ⟨_, rfl⟩ (.cons ⟨_, rfl⟩ (.nil)))
    (case xlbuf => k_is)
    (case xvbuf => exact .cons ⟨_, rfl⟩ (.cons ⟨_, rfl⟩ (.nil)))
    (case xland => k_is)
    (case xvand => exact .cons ⟨_, rfl⟩ (.cons ⟨_, rfl⟩ (.cons ⟨_, rfl⟩ (.cons ⟨_, rfl⟩ (.nil)))))
    (case xlor => k_is)
    (case xvor => exact .cons ⟨_, rfl⟩ (.cons ⟨_, rfl⟩ (.cons ⟨_, rfl⟩ (.cons ⟨_, rfl⟩ (.nil)))))
    (case xlxor => k_is)
    (case xvxor => exact .cons ⟨_, rfl⟩ (.cons ⟨_, rfl⟩ (.cons ⟨_, rfl⟩ (.cons ⟨_, rfl⟩ (.nil)))))
    (case xlnand => k_is)
    (case xvnand => exact .cons ⟨_, rfl⟩ (.cons ⟨_, rfl⟩ (.cons ⟨_, rfl⟩ (.cons ⟨_, rfl⟩ (.nil)))))
    (case xlnor => k_is)
    (case xvnor => exact .cons ⟨_, rfl⟩ (.cons ⟨_, rfl⟩ (.cons ⟨_, rfl⟩ (.cons ⟨_, rfl⟩ (.nil)))))
    (case xlxnor => k_is)
    (case xvxnor => exact .cons ⟨_, rfl⟩ (.cons ⟨_, rfl⟩ (.cons ⟨_, rfl⟩ (.cons ⟨_, rfl⟩ (.nil)))))
    (case xlmaj => k_is)
    (case xvmaj => exact .cons ⟨_, rfl⟩ (.cons ⟨_, rfl⟩ (.cons ⟨_, rfl⟩ (.cons ⟨_, rfl⟩ (.cons ⟨_, rfl⟩ (.cons ⟨_, rfl⟩ (.cons ⟨_, rfl⟩ (.cons ⟨_, rfl⟩ (.nil)))))))))
    (case xlmux => k_is)
    (case xvmux => exact .cons ⟨_, rfl⟩ (.cons ⟨_, rfl⟩ (.cons ⟨_, rfl⟩ (.cons ⟨_, rfl⟩ (.cons ⟨_, rfl⟩ (.cons ⟨_, rfl⟩ (.cons ⟨_, rfl⟩ (.cons ⟨_, rfl⟩ (.nil)))))))))
  case S =>
    intro K H xs a hO hwi hask hx
    cases hx with
    | cons h1 h2 =>
      cases h2 with
      | cons h2 h3 =>
        cases h3
        cases h1 with
        | lst hs ha =>
          cases h2 with
          | lst ht hb =>
            have e := L2.ints_dw a.1 _ ha
            subst e
            have e := L2.ints_dw a.2.1 _ hb
            subst e
            have q : ((Codec.inLen 0 65536 a.1 && a.1.all (Codec.inInt 0 255)) && ((Codec.inLen 0 65536 a.2.1 && a.2.1.all (Codec.inInt 0 255)) && true)) = true := hwi
            rw [Bool.and_eq_true, Bool.and_eq_true, Bool.and_eq_true, Bool.and_eq_true] at q
            refine ⟨_, _, a.1, a.2.1, rfl, hs, ht, (Codec.inNat_iff.mp q.1.1).2, fun n hn => ?_, (Codec.inNat_iff.mp q.2.1.1).2, fun n hn => ?_, fun H' p hp => .lst (L2.SqL.of hp) (L2.dw_ints _)⟩
            · exact Codec.inInt_iff.mp (List.all_eq_true.mp q.1.2 n hn)
            · exact Codec.inInt_iff.mp (List.all_eq_true.mp q.2.1.2 n hn)
#print axioms PySem.Challenge.cw_gatenets_s03_same_holds
