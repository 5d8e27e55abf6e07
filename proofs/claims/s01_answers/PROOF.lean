import PyProof.Rows.All
import Wide.All
import OpenK.AllK
import Wide.FinOn
import Ge11Spec
import Open.SpecLaws
import KE.OsGo
import HandS.ForSpec
import HandS.ForMost
import HandS.More
import HandS.Walk
import HandS.Steps
import PyProof.MaxThree
import PyGe11
import PyFlatLaws
import PyProof.WalkInts
import PyProof.MinMaxWalk
import PySem.Challenge.RW_losingnet_s01_answers
set_option Elab.async false
set_option maxHeartbeats 1000000
/-! Plain lists: keyed lists, sorted by rising keys; what is put and dropped in a dict's order and in the sorted order. -/
namespace NM
section
variable {α : Type} (key : α → Nat)
/-- put into the sorted list -/
def ins (x : α) : List α → List α
  | [] => [x]
  | y :: l => if key x < key y then x :: y :: l else if key x = key y then x :: l else y :: ins x l
/-- put as a dict does: in place, or behind -/
def putE (x : α) : List α → List α
  | [] => [x]
  | y :: l => if key y = key x then x :: l else y :: putE x l
def Srt (l : List α) : Prop := l.Pairwise fun a b => key a < key b
def Nd (l : List α) : Prop := (l.map key).Nodup
/-- all but that key -/
def but (n : Nat) (l : List α) : List α := l.filter fun y => !(key y == n)
variable {key}
theorem Srt.nd {l : List α} (h : Srt key l) : Nd key l := by
  unfold Nd List.Nodup
  rw [List.pairwise_map]
  exact h.imp fun q => Nat.ne_of_lt q
theorem nd_perm {l m : List α} (p : l.Perm m) : Nd key l ↔ Nd key m := (p.map key).nodup_iff
theorem nd_cons {y : α} {l : List α} : Nd key (y :: l) ↔ (∀ z ∈ l, key z ≠ key y) ∧ Nd key l := by
  unfold Nd
  rw [List.map_cons, List.nodup_cons]
  constructor
  · intro ⟨h1, h2⟩
    exact ⟨fun z hz e => h1 (List.mem_map.mpr ⟨z, hz, e⟩), h2⟩
  · intro ⟨h1, h2⟩
    refine ⟨fun m => ?_, h2⟩
    obtain ⟨z, hz, e⟩ := List.mem_map.mp m
    exact h1 z hz e
theorem but_no {n : Nat} {l : List α} (h : ∀ z ∈ l, key z ≠ n) : but key n l = l := by
  unfold but
  rw [List.filter_eq_self]
  intro z hz
  simp [h z hz]
theorem but_cons_eq {n : Nat} {y : α} {l : List α} (e : key y = n) : but key n (y :: l) = but key n l := by
  unfold but
  rw [List.filter_cons, if_neg (by simp [e])]
theorem but_cons_ne {n : Nat} {y : α} {l : List α} (e : key y ≠ n) : but key n (y :: l) = y :: but key n l := by
  unfold but
  rw [List.filter_cons, if_pos (by simp [e])]
theorem putE_perm : ∀ {l : List α} {x : α}, Nd key l → (putE key x l).Perm (x :: but key (key x) l)
  | [], _, _ => List.Perm.refl _
  | y :: l, x, h => by
    obtain ⟨h1, h2⟩ := nd_cons.mp h
    by_cases e : key y = key x
    · rw [but_cons_eq e, but_no (fun z hz => by rw [← e]; exact h1 z hz)]
      unfold putE
      rw [if_pos e]
    · rw [but_cons_ne e]
      unfold putE
      rw [if_neg e]
      exact ((putE_perm h2).cons y).trans (List.Perm.swap x y _)
theorem Srt.tail {y : α} {l : List α} (h : Srt key (y :: l)) : Srt key l := (List.pairwise_cons.mp h).2
theorem Srt.head {y : α} {l : List α} (h : Srt key (y :: l)) : ∀ z ∈ l, key y < key z := (List.pairwise_cons.mp h).1
theorem ins_perm : ∀ {l : List α} {x : α}, Srt key l → (ins key x l).Perm (x :: but key (key x) l)
  | [], _, _ => List.Perm.refl _
  | y :: l, x, h => by
    unfold ins
    by_cases c : key x < key y
    · rw [if_pos c, but_no]
      intro z hz
      rcases List.mem_cons.mp hz with rfl | hz
      · exact fun e => by omega
      · have := h.head z hz
        exact fun e => by omega
    · rw [if_neg c]
      by_cases e : key x = key y
      · rw [if_pos e, but_cons_eq e.symm, but_no]
        intro z hz q
        have := h.head z hz
        omega
      · rw [if_neg e, but_cons_ne (fun q => e q.symm)]
        exact ((ins_perm h.tail).cons y).trans (List.Perm.swap x y _)
theorem mem_ins {l : List α} {x z : α} (h : Srt key l) : z ∈ ins key x l ↔ z = x ∨ (z ∈ l ∧ key z ≠ key x) := by
  rw [(ins_perm h).mem_iff, List.mem_cons]
  unfold but
  simp [List.mem_filter]
theorem ins_srt : ∀ {l : List α} {x : α}, Srt key l → Srt key (ins key x l)
  | [], x, _ => List.pairwise_singleton _ _
  | y :: l, x, h => by
    unfold ins
    by_cases c : key x < key y
    · rw [if_pos c]
      refine List.pairwise_cons.mpr ⟨fun z hz => ?_, h⟩
      rcases List.mem_cons.mp hz with rfl | hz
      · exact c
      · have := h.head z hz
        omega
    · rw [if_neg c]
      by_cases e : key x = key y
      · rw [if_pos e]
        exact List.pairwise_cons.mpr ⟨fun z hz => by have := h.head z hz; omega, h.tail⟩
      · rw [if_neg e]
        refine List.pairwise_cons.mpr ⟨fun z hz => ?_, ins_srt h.tail⟩
        rcases (mem_ins h.tail).mp hz with rfl | ⟨hz, _⟩
        · omega
        · exact h.head z hz
theorem put_ins {es l : List α} (x : α) (p : es.Perm l) (h : Srt key l) : (putE key x es).Perm (ins key x l) :=
  (putE_perm ((nd_perm p).mpr h.nd)).trans (((p.filter _).cons x).trans (ins_perm h).symm)
theorem puts_ins : ∀ (xs : List α) {es l : List α}, es.Perm l → Srt key l → (xs.foldl (fun v x => putE key x v) es).Perm (xs.foldl (fun v x => ins key x v) l) ∧ Srt key (xs.foldl (fun v x => ins key x v) l)
  | [], _, _, p, h => ⟨p, h⟩
  | x :: xs, _, _, p, h => puts_ins xs (put_ins x p h) (ins_srt h)
theorem Srt.filter {l : List α} (p : α → Bool) (h : Srt key l) : Srt key (l.filter p) := List.Pairwise.filter p h
theorem srt_ext {l m : List α} (hl : Srt key l) (hm : Srt key m) (p : l.Perm m) : l = m :=
  List.Perm.eq_of_pairwise (le := fun a b => key a < key b) (fun a b _ _ x y => by omega) hl hm p
theorem nodup_of_srt {l : List α} (h : Srt key l) : l.Nodup := h.imp fun {a b} q e => by rw [e] at q; exact Nat.lt_irrefl _ q
theorem perm_of_mem : ∀ {l m : List α}, l.Nodup → m.Nodup → (∀ x, x ∈ l ↔ x ∈ m) → l.Perm m
  | [], [], _, _, _ => List.Perm.refl _
  | [], y :: m, _, _, h => absurd ((h y).mpr (List.mem_cons.mpr (.inl rfl))) (by simp)
  | x :: l, m, hl, hm, h => by
    obtain ⟨s, t, rfl⟩ := List.append_of_mem ((h x).mp (List.mem_cons.mpr (.inl rfl)))
    have pm : (s ++ x :: t).Perm (x :: (s ++ t)) := List.perm_middle
    have hm' := pm.nodup_iff.mp hm
    obtain ⟨n1, n2⟩ := List.nodup_cons.mp hl
    obtain ⟨n3, n4⟩ := List.nodup_cons.mp hm'
    refine ((perm_of_mem n2 n4 fun z => ?_).cons x).trans pm.symm
    have q := (h z).trans pm.mem_iff
    rw [List.mem_cons, List.mem_cons] at q
    constructor
    · intro hz
      rcases q.mp (.inr hz) with rfl | k
      · exact absurd hz n1
      · exact k
    · intro hz
      rcases q.mpr (.inr hz) with rfl | k
      · exact absurd hz n3
      · exact k
theorem srt_mem {l m : List α} (hl : Srt key l) (hm : Srt key m) (h : ∀ x, x ∈ l ↔ x ∈ m) : l = m := srt_ext hl hm (perm_of_mem (nodup_of_srt hl) (nodup_of_srt hm) h)
theorem mem_fold : ∀ (xs : List α) {l : List α}, Srt key l → Nd key xs → ∀ z, z ∈ xs.foldl (fun v x => ins key x v) l ↔ z ∈ xs ∨ (z ∈ l ∧ ∀ y ∈ xs, key y ≠ key z)
  | [], l, _, _, z => by simp
  | x :: xs, l, h, hn, z => by
    obtain ⟨n1, n2⟩ := nd_cons.mp hn
    rw [List.foldl_cons, mem_fold xs (ins_srt h) n2 z, mem_ins h, List.mem_cons]
    constructor
    · rintro (a | ⟨rfl | ⟨b, c⟩, d⟩)
      · exact .inl (.inr a)
      · exact .inl (.inl rfl)
      · refine .inr ⟨b, fun y hy => ?_⟩
        rcases List.mem_cons.mp hy with rfl | hy
        · exact fun e => c e.symm
        · exact d y hy
    · rintro ((rfl | a) | ⟨b, c⟩)
      · exact .inr ⟨.inl rfl, n1⟩
      · exact .inl a
      · exact .inr ⟨.inr ⟨b, fun e => c x (List.mem_cons.mpr (.inl rfl)) e.symm⟩, fun y hy => c y (List.mem_cons.mpr (.inr hy))⟩
theorem srt_inj {l : List α} (h : Srt key l) {x y : α} (hx : x ∈ l) (hy : y ∈ l) (e : key x = key y) : x = y := by
  induction l with
  | nil => cases hx
  | cons a l ih =>
    rcases List.mem_cons.mp hx with rfl | hx'
    · rcases List.mem_cons.mp hy with e' | hy'
      · exact e'.symm
      · have := h.head y hy'
        omega
    · rcases List.mem_cons.mp hy with e' | hy'
      · have := h.head x hx'
        rw [e'] at e
        omega
      · exact ih h.tail hx' hy'
/-- the sorted list of the keys, by any sort -/
theorem keys_sorted {es l : List α} {ys : List Int} (p : es.Perm l) (h : Srt key l) (q : ys.Perm (es.map fun x => (key x : Int))) (s : ys.Pairwise (· ≤ ·)) : ys = l.map fun x => (key x : Int) := by
  refine List.Perm.eq_of_pairwise (le := (· ≤ ·)) (fun a b _ _ x y => Int.le_antisymm x y) s ?_ (q.trans (p.map _))
  rw [List.pairwise_map]
  exact h.imp fun q => by omega
/-- found by its key -/
theorem find_key {l : List α} (h : Nd key l) {x : α} (hx : x ∈ l) : l.find? (fun y => key y == key x) = some x := by
  induction l with
  | nil => cases hx
  | cons a l ih =>
    obtain ⟨n1, n2⟩ := nd_cons.mp h
    rcases List.mem_cons.mp hx with rfl | hx
    · rw [List.find?_cons_of_pos (by simp)]
    · rw [List.find?_cons_of_neg (by simp; exact fun e => n1 x hx e.symm)]
      exact ih n2 hx
end
open Ge11
theorem insertThing_is (t : Thing) : ∀ w : World, insertThing t w = ins Thing.number t w
  | [] => rfl
  | u :: l => by
    unfold insertThing ins
    rw [insertThing_is t l]
abbrev vk : Nat × Nat × Nat × Nat → Nat := fun x => x.1
theorem insertSeen_is (x : Nat × Nat × Nat × Nat) : ∀ v : View, insertSeen x v = ins vk x v
  | [] => rfl
  | u :: l => by
    unfold insertSeen ins
    rw [insertSeen_is x l]
theorem patch_is (a : View) (d : Delta) : patch a d = d.put.foldl (fun v x => ins vk x v) (a.filter fun x => !d.gone.contains x.1) := by
  unfold patch
  congr 1
  funext v x
  exact insertSeen_is x v
theorem viewOf_srt {w : World} (h : Srt Thing.number w) (own far : Nat) : Srt vk (viewOf w own far) := by
  unfold viewOf
  split
  · exact List.Pairwise.nil
  · unfold Srt
    rw [List.pairwise_map]
    exact (h.filter _)
theorem viewOf_len (w : World) (own far : Nat) : (viewOf w own far).length ≤ w.length := by
  unfold viewOf
  split
  · exact Nat.zero_le _
  · rw [List.length_map]
    exact List.length_filter_le _ _
/-- what changed, put to the view that it is since, is the view now -/
theorem patch_delta {a b : View} (ha : Srt vk a) (hb : Srt vk b) : patch a (delta a b) = b := by
  rw [patch_is]
  have sb : Srt vk (b.filter fun x => !a.contains x) := hb.filter _
  have sa : Srt vk (a.filter fun x => !(delta a b).gone.contains x.1) := ha.filter _
  refine srt_mem (puts_ins _ (List.Perm.refl _) sa).2 hb fun z => ?_
  rw [show (delta a b).put = b.filter fun x => !a.contains x from rfl, mem_fold _ sa sb.nd z, List.mem_filter, List.mem_filter]
  have hg : ∀ x, x ∈ a → ((delta a b).gone.contains x.1 = true ↔ ∀ y ∈ b, y.1 ≠ x.1) := by
    intro x hx
    rw [List.contains_iff_mem]
    show x.1 ∈ (a.filter fun x => !(b.any fun y => y.1 == x.1)).map (fun x => x.1) ↔ _
    rw [List.mem_map]
    constructor
    · rintro ⟨u, hu, e⟩ y hy q
      obtain ⟨hu1, hu2⟩ := List.mem_filter.mp hu
      rw [Bool.not_eq_true', List.any_eq_false] at hu2
      exact hu2 y hy (by simp [q, e])
    · intro k
      refine ⟨x, List.mem_filter.mpr ⟨hx, ?_⟩, rfl⟩
      rw [Bool.not_eq_true', List.any_eq_false]
      intro y hy
      simp [k y hy]
  constructor
  · rintro (⟨h1, _⟩ | ⟨⟨h1, h2⟩, h3⟩)
    · exact h1
    · have h2' : ¬ (delta a b).gone.contains z.1 = true := by
        intro q
        rw [q] at h2
        exact absurd h2 (by decide)
      rw [hg z h1] at h2'
      have ⟨y, hy⟩ : ∃ y, y ∈ b ∧ y.1 = z.1 := by
        refine Classical.byContradiction fun n => h2' fun y hy e => n ⟨y, hy, e⟩
      by_cases c : y ∈ a
      · have e := srt_inj (key := vk) ha c h1 hy.2
        rw [← e]
        exact hy.1
      · exact absurd hy.2 (h3 y (List.mem_filter.mpr ⟨hy.1, by simp [c]⟩))
  · intro hz
    by_cases c : z ∈ a
    · refine .inr ⟨⟨c, ?_⟩, fun y hy e => ?_⟩
      · have : ¬ (delta a b).gone.contains z.1 = true := by
          rw [hg z c]
          exact fun k => k z hz rfl
        simp only [Bool.not_eq_true] at this
        rw [this]
        rfl
      · obtain ⟨hy1, hy2⟩ := List.mem_filter.mp hy
        have e2 := srt_inj (key := vk) hb hy1 hz e
        rw [e2] at hy2
        simp [c] at hy2
    · exact .inl ⟨hz, by simp [c]⟩
end NM

set_option Elab.async false
set_option linter.all false
set_option maxHeartbeats 1000000
/-! What holds of the state between two calls; hs: of each player all views that were sent to it, oldest first. -/
namespace NM
open Ge11
abbrev tk : Nat × View → Nat := fun p => p.1
structure GoodP (T : Nat) (p : Player) (h : List (Nat × View)) : Prop where
  srt : Srt tk h
  lo : ∀ x ∈ h, 1 ≤ x.1 ∧ x.1 < T
  vw : ∀ x ∈ h, Srt vk x.2 ∧ x.2.length ≤ 20
  known : p.known ∈ (0, []) :: h
  sent : p.sent = (h.filter fun x => decide (p.known.1 < x.1)).reverse
  has : ∀ x ∈ p.has, x ∈ h
  hd : p.has.Pairwise fun a b => b.1 < a.1
structure GoodL (h : List (Nat × View)) (l : Letter) : Prop where
  ex : ∃ a b, (l.since, a) ∈ (0, []) :: h ∧ (l.tick, b) ∈ h ∧ l.delta = delta a b ∧ l.since < l.tick
structure Good (hs : List (List (Nat × View))) (g : St) (n : Nat) : Prop where
  srt : Srt Thing.number g.world
  len : g.world.length ≤ 20
  t1 : 1 ≤ g.tick
  t60 : g.tick ≤ 60
  hl : hs.length = g.players.length
  p4 : g.players.length ≤ 4
  pl : ∀ (i : Nat) p h, g.players[i]? = some p → hs[i]? = some h → GoodP g.tick p h
  l30 : g.letters.length ≤ 30
  lt : ∀ x ∈ g.letters, ∃ h, hs[x.1]? = some h ∧ GoodL h x.2
  an : g.acks.length ≤ n
  ak : ∀ x ∈ g.acks, ∃ h, hs[x.1]? = some h ∧ ∃ v, (x.2, v) ∈ h
theorem good_init : Good [] Ge11.init 0 := by
  refine ⟨List.Pairwise.nil, Nat.zero_le _, Nat.le_refl _, by decide, rfl, Nat.zero_le _, ?_, Nat.zero_le _, ?_, Nat.le_refl _, ?_⟩
  · intro i p h e
    cases e
  · intro x hx
    cases hx
  · intro x hx
    cases hx
variable {hs : List (List (Nat × View))} {g : St} {n : Nat}
theorem Good.succ (G : Good hs g n) : Good hs g (n + 1) := { G with an := Nat.le_succ_of_le G.an }
theorem Good.at {i : Nat} (G : Good hs g n) {h : List (Nat × View)} (e : hs[i]? = some h) : ∃ p, g.players[i]? = some p := by
  have lt := (List.getElem?_eq_some_iff.mp e).1
  rw [G.hl] at lt
  exact ⟨_, List.getElem?_eq_some_iff.mpr ⟨lt, rfl⟩⟩
theorem Good.at' {i : Nat} (G : Good hs g n) {p : Player} (e : g.players[i]? = some p) : ∃ h, hs[i]? = some h := by
  have lt := (List.getElem?_eq_some_iff.mp e).1
  rw [← G.hl] at lt
  exact ⟨_, List.getElem?_eq_some_iff.mpr ⟨lt, rfl⟩⟩
/-! ### thing, gone -/
theorem ins_len {α : Type} {key : α → Nat} {x : α} {l : List α} (h : Srt key l) : (ins key x l).length = (but key (key x) l).length + 1 := by
  rw [(ins_perm h).length_eq, List.length_cons]
theorem but_lt {α : Type} {key : α → Nat} : ∀ {l : List α} {n : Nat}, (∃ y ∈ l, key y = n) → (but key n l).length < l.length
  | [], _, h => by
    obtain ⟨y, hy, _⟩ := h
    cases hy
  | a :: l, n, h => by
    by_cases e : key a = n
    · rw [but_cons_eq e]
      exact Nat.lt_succ_of_le (List.length_filter_le _ _)
    · rw [but_cons_ne e, List.length_cons, List.length_cons]
      obtain ⟨y, hy, ey⟩ := h
      rcases List.mem_cons.mp hy with rfl | hy
      · exact absurd ey e
      · exact Nat.succ_lt_succ (but_lt ⟨y, hy, ey⟩)
theorem insertThing_len {t : Thing} {w : World} (h : Srt Thing.number w) (hl : w.length ≤ 20) (c : ¬ ((thingOf w t.number).isNone = true ∧ 20 ≤ w.length)) : (insertThing t w).length ≤ 20 := by
  rw [insertThing_is, ins_len h]
  by_cases e : ∃ y ∈ w, y.number = t.number
  · have := but_lt e
    omega
  · have hb : (but Thing.number t.number w).length ≤ w.length := List.length_filter_le _ _
    have hn : (thingOf w t.number).isNone = true := by
      unfold thingOf
      rw [Option.isNone_iff_eq_none, List.find?_eq_none]
      intro y hy q
      exact e ⟨y, hy, by simpa using q⟩
    have : ¬ 20 ≤ w.length := fun q => c ⟨hn, q⟩
    omega
theorem Good.world (G : Good hs g n) {w : World} (h1 : Srt Thing.number w) (h2 : w.length ≤ 20) : Good hs { g with world := w } (n + 1) := by
  have G' := G.succ
  exact ⟨h1, h2, G'.t1, G'.t60, G'.hl, G'.p4, G'.pl, G'.l30, G'.lt, G'.an, G'.ak⟩
/-! ### player -/
theorem Good.player (G : Good hs g n) (o f : Nat) (h4 : ¬ 4 ≤ g.players.length) : Good (hs ++ [[]]) { g with players := g.players ++ [⟨o, f, [], (0, []), []⟩] } (n + 1) := by
  refine ⟨G.srt, G.len, G.t1, G.t60, ?_, ?_, ?_, G.l30, ?_, Nat.le_succ_of_le G.an, ?_⟩
  · show (hs ++ [[]]).length = (g.players ++ [_]).length
    rw [List.length_append, List.length_append, G.hl]
    rfl
  · show (g.players ++ [_]).length ≤ 4
    rw [List.length_append]
    show g.players.length + 1 ≤ 4
    omega
  · intro i p h e1 e2
    have e1 : (g.players ++ [⟨o, f, [], (0, []), []⟩])[i]? = some p := e1
    by_cases c : i < g.players.length
    · rw [List.getElem?_append_left c] at e1
      rw [List.getElem?_append_left (by rw [G.hl]; exact c)] at e2
      exact G.pl i p h e1 e2
    · rw [List.getElem?_append_right (Nat.le_of_not_lt c)] at e1
      rw [List.getElem?_append_right (by rw [G.hl]; exact Nat.le_of_not_lt c)] at e2
      have i0 : i - g.players.length = 0 := by
        cases q : i - g.players.length with
        | zero => rfl
        | succ m =>
          rw [q] at e1
          cases e1
      rw [i0] at e1
      rw [G.hl, i0] at e2
      cases e1
      cases e2
      exact ⟨List.Pairwise.nil, (fun _ h => nomatch h), (fun _ h => nomatch h), List.mem_cons.mpr (.inl rfl), rfl, (fun _ h => nomatch h), List.Pairwise.nil⟩
  · intro x hx
    obtain ⟨h, e, q⟩ := G.lt x hx
    exact ⟨h, by rw [List.getElem?_append_left (List.getElem?_eq_some_iff.mp e).1]; exact e, q⟩
  · intro x hx
    obtain ⟨h, e, q⟩ := G.ak x hx
    exact ⟨h, by rw [List.getElem?_append_left (List.getElem?_eq_some_iff.mp e).1]; exact e, q⟩
/-! ### letters and words that go -/
theorem mem_eraseIdx {α : Type} {l : List α} {i : Nat} {x : α} (h : x ∈ l.eraseIdx i) : x ∈ l := (List.eraseIdx_sublist l i).subset h
theorem eraseIdx_len {α : Type} (l : List α) (i : Nat) : (l.eraseIdx i).length ≤ l.length := (List.eraseIdx_sublist l i).length_le
theorem Good.lose (G : Good hs g n) (i : Nat) : Good hs { g with letters := g.letters.eraseIdx i } (n + 1) := by
  refine ⟨G.srt, G.len, G.t1, G.t60, G.hl, G.p4, G.pl, Nat.le_trans (eraseIdx_len _ _) G.l30, fun x hx => G.lt x (mem_eraseIdx hx), Nat.le_succ_of_le G.an, G.ak⟩
theorem Good.ackLose (G : Good hs g n) (i : Nat) : Good hs { g with acks := g.acks.eraseIdx i } (n + 1) :=
  ⟨G.srt, G.len, G.t1, G.t60, G.hl, G.p4, G.pl, G.l30, G.lt, Nat.le_succ_of_le (Nat.le_trans (eraseIdx_len _ _) G.an), fun x hx => G.ak x (mem_eraseIdx hx)⟩
theorem Good.set (G : Good hs g n) {i : Nat} {p' : Player} (k : ∀ h, hs[i]? = some h → GoodP g.tick p' h) : Good hs { g with players := g.players.set i p' } n := by
  refine ⟨G.srt, G.len, G.t1, G.t60, ?_, ?_, ?_, G.l30, G.lt, G.an, G.ak⟩
  · show hs.length = (g.players.set i p').length
    rw [List.length_set]
    exact G.hl
  · show (g.players.set i p').length ≤ 4
    rw [List.length_set]
    exact G.p4
  · intro j p h e1 e2
    have e1 : (g.players.set i p')[j]? = some p := e1
    rw [List.getElem?_set] at e1
    by_cases c : i = j
    · subst c
      rw [if_pos rfl] at e1
      split at e1
      · cases e1
        exact k h e2
      · cases e1
    · rw [if_neg c] at e1
      exact G.pl j p h e1 e2
/-! ### a letter comes -/
theorem GoodP.view {T : Nat} {p : Player} {h : List (Nat × View)} (G : GoodP T p h) {t : Nat} {v : View} (m : (t, v) ∈ (0, []) :: h) : Srt vk v ∧ v.length ≤ 20 := by
  rcases List.mem_cons.mp m with e | m
  · cases e
    exact ⟨List.Pairwise.nil, Nat.zero_le _⟩
  · exact G.vw _ m
theorem GoodP.same {T : Nat} {p : Player} {h : List (Nat × View)} (G : GoodP T p h) {t : Nat} {v u : View} (m : (t, v) ∈ h) (k : (t, u) ∈ h) : v = u :=
  (Prod.mk.inj (srt_inj (key := tk) G.srt m k rfl)).2
theorem GoodP.same0 {T : Nat} {p : Player} {h : List (Nat × View)} (G : GoodP T p h) {t : Nat} {v u : View} (m : (t, v) ∈ (0, []) :: h) (k : (t, u) ∈ (0, []) :: h) : v = u := by
  rcases List.mem_cons.mp m with e | m
  · cases e
    rcases List.mem_cons.mp k with e | k
    · cases e
      rfl
    · exact absurd (G.lo _ k).1 (Nat.not_succ_le_zero _)
  · rcases List.mem_cons.mp k with e | k
    · cases e
      exact absurd (G.lo _ m).1 (Nat.not_succ_le_zero _)
    · exact G.same m k
/-- the view that a letter is since, as the client has it -/
def baseOf (hs : List (Nat × View)) (l : Letter) : Option View := if l.since = 0 then some [] else (hs.find? fun x => x.1 == l.since).map fun x => x.2
def takes (hs : List (Nat × View)) (l : Letter) : Bool := (l.since == 0 || hs.any fun p => p.1 == l.since) && hs.all fun p => decide (p.1 < l.tick)
def newer (l : List (Nat × View)) (t : Nat) : Bool := match l with
      | [] => true
      | x :: _ => decide (x.1 < t)
theorem newest {l : List (Nat × View)} (hd : l.Pairwise fun a b => b.1 < a.1) (t : Nat) : newer l t = l.all fun p => decide (p.1 < t) := by
  cases l with
  | nil => rfl
  | cons x r =>
    show decide (x.1 < t) = _
    rw [List.all_cons]
    by_cases c : x.1 < t
    · rw [decide_eq_true c, Bool.true_and]
      symm
      rw [List.all_eq_true]
      intro y hy
      have := (List.pairwise_cons.mp hd).1 y hy
      exact decide_eq_true (by omega)
    · rw [decide_eq_false c, Bool.false_and]
theorem base_some {l : List (Nat × View)} {x : Letter} : (baseOf l x).isSome = (x.since == 0 || l.any fun p => p.1 == x.since) := by
  unfold baseOf
  by_cases c : x.since = 0
  · rw [if_pos c, c]
    rfl
  · rw [if_neg c, beq_false_of_ne c, Bool.false_or, Option.isSome_map, Bool.eq_iff_iff, List.find?_isSome, List.any_eq_true]
theorem comes_no {p : Player} {l : Letter} (hd : p.has.Pairwise fun a b => b.1 < a.1) (h : takes p.has l = false) : comes p l = (p, false) := by
  unfold takes at h
  rw [← base_some] at h
  unfold comes
  show (match baseOf p.has l with
    | none => (p, false)
    | some b => if newer p.has l.tick = true then ({ p with has := (l.tick, patch b l.delta) :: p.has.filter fun x => decide (l.since ≤ x.1) }, true) else (p, false)) = (p, false)
  rw [newest hd]
  cases e : baseOf p.has l with
  | none => rfl
  | some b =>
    rw [e] at h
    have h' : (p.has.all fun q => decide (q.1 < l.tick)) = false := h
    show (if (p.has.all fun q => decide (q.1 < l.tick)) = true then _ else _) = _
    rw [h', if_neg Bool.false_ne_true]
theorem comes_yes {p : Player} {l : Letter} {b : View} (hd : p.has.Pairwise fun a b => b.1 < a.1) (h : takes p.has l = true) (e : baseOf p.has l = some b) :
    comes p l = ({ p with has := (l.tick, patch b l.delta) :: p.has.filter fun x => decide (l.since ≤ x.1) }, true) := by
  unfold takes at h
  unfold comes
  show (match baseOf p.has l with
    | none => (p, false)
    | some b => if newer p.has l.tick = true then ({ p with has := (l.tick, patch b l.delta) :: p.has.filter fun x => decide (l.since ≤ x.1) }, true) else (p, false)) = _
  rw [newest hd, e]
  show (if (p.has.all fun q => decide (q.1 < l.tick)) = true then _ else _) = _
  rw [if_pos (Bool.and_eq_true_iff.mp h).2]
theorem takes_base {l : List (Nat × View)} {x : Letter} (h : takes l x = true) : ∃ b, baseOf l x = some b := by
  unfold takes at h
  have h1 := (Bool.and_eq_true_iff.mp h).1
  rw [← base_some] at h1
  exact Option.isSome_iff_exists.mp h1
theorem takes_lt {l : List (Nat × View)} {x : Letter} (h : takes l x = true) : ∀ p ∈ l, p.1 < x.tick := by
  unfold takes at h
  intro p hp
  exact of_decide_eq_true (List.all_eq_true.mp (Bool.and_eq_true_iff.mp h).2 p hp)
/-- the client's view is what the letter is since, and what comes of it is what was sent -/
theorem GoodP.base {T : Nat} {p : Player} {h : List (Nat × View)} (G : GoodP T p h) {l : Letter} (L : GoodL h l) {b : View} (e : baseOf p.has l = some b) :
    (l.since, b) ∈ (0, []) :: h ∧ (l.tick, patch b l.delta) ∈ h ∧ Srt vk b ∧ b.length ≤ 20 ∧ Srt vk l.delta.put ∧ l.delta.put.length ≤ 20 := by
  obtain ⟨a, c, m1, m2, ed, _⟩ := L.ex
  have hb : (l.since, b) ∈ (0, []) :: h := by
    unfold baseOf at e
    by_cases q : l.since = 0
    · rw [if_pos q] at e
      cases e
      rw [q]
      exact List.mem_cons.mpr (.inl rfl)
    · rw [if_neg q] at e
      obtain ⟨x, hx, rfl⟩ := Option.map_eq_some_iff.mp e
      have h1 := List.mem_of_find?_eq_some hx
      have h2 : x.1 = l.since := by simpa using List.find?_some hx
      rw [← h2]
      exact List.mem_cons.mpr (.inr (G.has _ h1))
  have eb := G.same0 hb m1
  subst eb
  obtain ⟨sb, lb⟩ := G.view hb
  obtain ⟨sc, lc⟩ := G.vw _ m2
  rw [ed, patch_delta sb sc]
  exact ⟨hb, m2, sb, lb, sc.filter _, Nat.le_trans (List.length_filter_le _ _) lc⟩
theorem GoodP.taken {T : Nat} {p : Player} {h : List (Nat × View)} (G : GoodP T p h) {l : Letter} (L : GoodL h l) {b : View} (e : baseOf p.has l = some b) (t : takes p.has l = true) :
    GoodP T { p with has := (l.tick, patch b l.delta) :: p.has.filter fun x => decide (l.since ≤ x.1) } h := by
  obtain ⟨_, m, _⟩ := G.base L e
  refine ⟨G.srt, G.lo, G.vw, G.known, G.sent, fun x hx => ?_, ?_⟩
  · rcases List.mem_cons.mp hx with rfl | hx
    · exact m
    · exact G.has x (List.mem_filter.mp hx).1
  · exact List.pairwise_cons.mpr ⟨fun y hy => takes_lt t y (List.mem_filter.mp hy).1, G.hd.filter _⟩
/-! ### word comes -/
theorem GoodP.acked {T : Nat} {p : Player} {h : List (Nat × View)} (G : GoodP T p h) {t : Nat} {v : View} (m : (t, v) ∈ h) :
    GoodP T (acked p t) h ∧ (acked p t).known.1 = max p.known.1 t ∧ (acked p t).own = p.own ∧ (acked p t).far = p.far ∧ (acked p t).has = p.has := by
  unfold Ge11.acked
  by_cases c : t ≤ p.known.1
  · rw [if_pos c]
    exact ⟨G, by omega, rfl, rfl, rfl⟩
  · rw [if_neg c]
    have ms : (t, v) ∈ p.sent := by
      rw [G.sent, List.mem_reverse, List.mem_filter]
      exact ⟨m, decide_eq_true (by show p.known.1 < t; omega)⟩
    have nd : Nd tk p.sent := by
      rw [G.sent, nd_perm (List.reverse_perm _)]
      exact (G.srt.filter _).nd
    have f := find_key nd ms
    have f' : (p.sent.find? fun x => x.1 == t) = some (t, v) := f
    rw [f']
    refine ⟨⟨G.srt, G.lo, G.vw, List.mem_cons.mpr (.inr m), ?_, G.has, G.hd⟩, ?_, rfl, rfl, rfl⟩
    · show p.sent.filter (fun y => decide (t < y.1)) = (h.filter fun x => decide (t < x.1)).reverse
      rw [G.sent, List.filter_reverse, List.filter_filter]
      congr 1
      refine List.filter_congr fun x _ => ?_
      by_cases q : t < x.1
      · rw [decide_eq_true q, Bool.true_and]
        exact decide_eq_true (by omega)
      · rw [decide_eq_false q, Bool.false_and]
    · show t = max p.known.1 t
      omega
/-! ### a tick -/
def ticked (g : St) (p : Player) : Player := { p with sent := (g.tick, viewOf g.world p.own p.far) :: p.sent }
theorem GoodP.tick {p : Player} {h : List (Nat × View)} (T : Nat) (G : GoodP T p h) (t1 : 1 ≤ T) {v : View} (sv : Srt vk v) (lv : v.length ≤ 20) :
    GoodP (T + 1) { p with sent := (T, v) :: p.sent } (h ++ [(T, v)]) := by
  refine ⟨?_, fun x hx => ?_, fun x hx => ?_, ?_, ?_, fun x hx => List.mem_append.mpr (.inl (G.has x hx)), G.hd⟩
  · refine List.pairwise_append.mpr ⟨G.srt, List.pairwise_singleton _ _, fun a ha b hb => ?_⟩
    rw [List.mem_singleton.mp hb]
    exact (G.lo a ha).2
  · rcases List.mem_append.mp hx with hx | hx
    · have := G.lo x hx
      omega
    · rw [List.mem_singleton.mp hx]
      exact ⟨t1, Nat.lt_succ_self _⟩
  · rcases List.mem_append.mp hx with hx | hx
    · exact G.vw x hx
    · rw [List.mem_singleton.mp hx]
      exact ⟨sv, lv⟩
  · rcases List.mem_cons.mp G.known with e | e
    · exact List.mem_cons.mpr (.inl e)
    · exact List.mem_cons.mpr (.inr (List.mem_append.mpr (.inl e)))
  · show (T, v) :: p.sent = ((h ++ [(T, v)]).filter fun x => decide (p.known.1 < x.1)).reverse
    have kT : p.known.1 < T := by
      rcases List.mem_cons.mp G.known with e | e
      · rw [e]
        exact t1
      · exact (G.lo _ e).2
    rw [List.filter_append, List.reverse_append, ← G.sent]
    congr 1
    rw [List.filter_cons, if_pos (decide_eq_true kT)]
    rfl
theorem letter_good {T : Nat} {p : Player} {h : List (Nat × View)} (G : GoodP T p h) (t1 : 1 ≤ T) (v : View) : GoodL (h ++ [(T, v)]) ⟨T, p.known.1, delta p.known.2 v⟩ := by
  refine ⟨p.known.2, v, ?_, List.mem_append.mpr (.inr (List.mem_singleton.mpr rfl)), rfl, ?_⟩
  · rcases List.mem_cons.mp G.known with e | e
    · exact List.mem_cons.mpr (.inl e)
    · exact List.mem_cons.mpr (.inr (List.mem_append.mpr (.inl e)))
  · rcases List.mem_cons.mp G.known with e | e
    · rw [e]
      exact t1
    · exact (G.lo _ e).2
theorem GoodL.more {h k : List (Nat × View)} {l : Letter} (L : GoodL h l) : GoodL (h ++ k) l := by
  obtain ⟨a, b, m1, m2, e, q⟩ := L.ex
  refine ⟨a, b, ?_, List.mem_append.mpr (.inl m2), e, q⟩
  rcases List.mem_cons.mp m1 with z | z
  · exact List.mem_cons.mpr (.inl z)
  · exact List.mem_cons.mpr (.inr (List.mem_append.mpr (.inl z)))
def sentNow (g : St) (q : Player × List (Nat × View)) : List (Nat × View) := q.2 ++ [(g.tick, viewOf g.world q.1.own q.1.far)]
theorem Good.ticked {L : List (Player × List (Nat × View))} (G : Good (L.map (·.2)) g n) (e : g.players = L.map (·.1)) (c1 : ¬ 60 ≤ g.tick) (c2 : ¬ 30 < g.letters.length + g.players.length) :
    Good (L.map (sentNow g)) { g with tick := g.tick + 1, players := g.players.map (NM.ticked g), letters := g.letters ++ g.players.zipIdx.map fun p => (p.2, letterFor g p.1) } (n + 1) := by
  have at_ : ∀ (i : Nat) h', (L.map (sentNow g))[i]? = some h' → ∃ q, L[i]? = some q ∧ h' = sentNow g q ∧ GoodP g.tick q.1 q.2 := by
    intro i h' q
    rw [List.getElem?_map] at q
    obtain ⟨x, hx, rfl⟩ := Option.map_eq_some_iff.mp q
    refine ⟨x, hx, rfl, G.pl i x.1 x.2 ?_ ?_⟩
    · rw [e, List.getElem?_map, hx]
      rfl
    · rw [List.getElem?_map, hx]
      rfl
  have up : ∀ (i : Nat) h, (L.map (·.2))[i]? = some h → ∃ k, (L.map (sentNow g))[i]? = some (h ++ k) := by
    intro i h q
    rw [List.getElem?_map] at q
    obtain ⟨x, hx, rfl⟩ := Option.map_eq_some_iff.mp q
    exact ⟨_, by rw [List.getElem?_map, hx]; rfl⟩
  have vok : ∀ p : Player, Srt vk (viewOf g.world p.own p.far) ∧ (viewOf g.world p.own p.far).length ≤ 20 := fun p => ⟨viewOf_srt G.srt _ _, Nat.le_trans (viewOf_len _ _ _) G.len⟩
  refine ⟨G.srt, G.len, Nat.le_succ_of_le G.t1, ?_, ?_, ?_, ?_, ?_, ?_, Nat.le_succ_of_le G.an, ?_⟩
  · show g.tick + 1 ≤ 60
    omega
  · show (L.map (sentNow g)).length = (g.players.map (NM.ticked g)).length
    rw [List.length_map, List.length_map, ← G.hl, List.length_map]
  · show (g.players.map (NM.ticked g)).length ≤ 4
    rw [List.length_map]
    exact G.p4
  · intro i p h e1 e2
    have e1 : (g.players.map (NM.ticked g))[i]? = some p := e1
    obtain ⟨q, hq, rfl, gp⟩ := at_ i h e2
    rw [e, List.map_map, List.getElem?_map, hq] at e1
    cases e1
    exact gp.tick g.tick G.t1 (vok q.1).1 (vok q.1).2
  · show (g.letters ++ _).length ≤ 30
    rw [List.length_append, List.length_map, List.length_zipIdx]
    omega
  · intro x hx
    have hx : x ∈ g.letters ++ g.players.zipIdx.map (fun p => (p.2, letterFor g p.1)) := hx
    rcases List.mem_append.mp hx with hx | hx
    · obtain ⟨h, eh, L1⟩ := G.lt x hx
      obtain ⟨k, ek⟩ := up _ _ eh
      exact ⟨_, ek, L1.more⟩
    · obtain ⟨q, hq, rfl⟩ := List.mem_map.mp hx
      obtain ⟨p, i⟩ := q
      have hp : g.players[i]? = some p := List.mem_zipIdx_iff_getElem?.mp hq
      rw [e, List.getElem?_map] at hp
      obtain ⟨y, hy, rfl⟩ := Option.map_eq_some_iff.mp hp
      have hs' : (L.map (sentNow g))[i]? = some (sentNow g y) := by rw [List.getElem?_map, hy]; rfl
      obtain ⟨z, hz, _, gp⟩ := at_ i _ hs'
      rw [hy] at hz
      cases hz
      exact ⟨_, hs', letter_good gp G.t1 _⟩
  · intro x hx
    obtain ⟨h, eh, v, m⟩ := G.ak x hx
    obtain ⟨k, ek⟩ := up _ _ eh
    exact ⟨_, ek, v, List.mem_append.mpr (.inl m)⟩
end NM

set_option Elab.async false
set_option maxRecDepth 100000
set_option maxHeartbeats 2000000
/-! Dicts keyed by numbers, told by lists; the frozen part of the heap. -/
namespace Net
open PySem PySem.Spec PyProof.Rows L2 NM
section
variable {α : Type}
theorem kinj {a b : Nat} : (Sum.inl ((a : Nat) : Int) : Key) = Sum.inl ((b : Nat) : Int) ↔ a = b :=
  ⟨fun q => Int.ofNat.inj (Sum.inl.inj q), fun e => by rw [e]⟩
/-- the pairs of a dict -/
def enc (key : α → Nat) (L : List (α × V)) : List (Key × V) := L.map fun p => (Sum.inl ((key p.1 : Nat) : Int), p.2)
/-- a dict of es, in that order, each value as R tells -/
def DOf (key : α → Nat) (R : α → V → Prop) (kvs : List (Key × V)) (es : List α) : Prop := ∃ L : List (α × V), kvs = enc key L ∧ L.map (·.1) = es ∧ ∀ p ∈ L, R p.1 p.2
variable {key : α → Nat} {R R' : α → V → Prop} {kvs : List (Key × V)} {es : List α}
theorem DOf.nil : DOf key R [] [] := ⟨[], rfl, rfl, fun _ h => nomatch h⟩
theorem DOf.mono (d : DOf key R kvs es) (h : ∀ x v, x ∈ es → R x v → R' x v) : DOf key R' kvs es := by
  obtain ⟨L, rfl, rfl, r⟩ := d
  exact ⟨L, rfl, rfl, fun p hp => h _ _ (List.mem_map.mpr ⟨p, hp, rfl⟩) (r p hp)⟩
theorem DOf.len (d : DOf key R kvs es) : kvs.length = es.length := by
  obtain ⟨L, rfl, rfl, r⟩ := d
  unfold enc
  rw [List.length_map, List.length_map]
theorem DOf.keys (d : DOf key R kvs es) : kvs.map (·.1) = (es.map fun x => ((key x : Nat) : Int)).map Sum.inl := by
  obtain ⟨L, rfl, rfl, r⟩ := d
  unfold enc
  rw [List.map_map, List.map_map, List.map_map]
  rfl
theorem DOf.nd (d : DOf key R kvs es) (h : Nd key es) : (kvs.map (·.1)).Nodup := by
  rw [d.keys]
  unfold List.Nodup
  rw [List.pairwise_map, List.pairwise_map]
  have h' : es.Pairwise fun a b => key a ≠ key b := by
    unfold Nd List.Nodup at h
    rw [List.pairwise_map] at h
    exact h
  exact h'.imp fun q e => q (Int.ofNat.inj (Sum.inl.inj e))
theorem enc_none : ∀ {L : List (α × V)} {z : Int}, valV (enc key L) (Sum.inl z) = none ↔ ∀ p ∈ L, ((key p.1 : Nat) : Int) ≠ z
  | [], z => by simp [enc, valV]
  | p :: L, z => by
    show valV ((Sum.inl ((key p.1 : Nat) : Int), p.2) :: enc key L) (Sum.inl z) = none ↔ _
    by_cases e : ((key p.1 : Nat) : Int) = z
    · rw [valV_pos (by show Sum.inl ((key p.1 : Nat) : Int) = Sum.inl z; rw [e])]
      constructor
      · intro h
        cases h
      · intro h
        exact absurd e (h p (List.mem_cons.mpr (.inl rfl)))
    · rw [valV_neg (by show ¬ Sum.inl ((key p.1 : Nat) : Int) = Sum.inl z; exact fun q => e (Sum.inl.inj q)), enc_none]
      constructor
      · intro h q hq
        rcases List.mem_cons.mp hq with rfl | hq
        · exact e
        · exact h q hq
      · exact fun h q hq => h q (List.mem_cons.mpr (.inr hq))
theorem enc_some : ∀ {L : List (α × V)} {z : Int} {v : V}, valV (enc key L) (Sum.inl z) = some v → ∃ p ∈ L, ((key p.1 : Nat) : Int) = z ∧ p.2 = v
  | [], z, v, h => by simp [enc, valV] at h
  | p :: L, z, v, h => by
    have h : valV ((Sum.inl ((key p.1 : Nat) : Int), p.2) :: enc key L) (Sum.inl z) = some v := h
    by_cases e : ((key p.1 : Nat) : Int) = z
    · rw [valV_pos (by show Sum.inl ((key p.1 : Nat) : Int) = Sum.inl z; rw [e])] at h
      exact ⟨p, List.mem_cons.mpr (.inl rfl), e, Option.some.inj h⟩
    · rw [valV_neg (by show ¬ Sum.inl ((key p.1 : Nat) : Int) = Sum.inl z; exact fun q => e (Sum.inl.inj q))] at h
      obtain ⟨q, hq, r⟩ := enc_some h
      exact ⟨q, List.mem_cons.mpr (.inr hq), r⟩
theorem DOf.none_iff (d : DOf key R kvs es) {z : Int} : valV kvs (Sum.inl z) = none ↔ ∀ x ∈ es, ((key x : Nat) : Int) ≠ z := by
  obtain ⟨L, rfl, rfl, r⟩ := d
  rw [enc_none]
  constructor
  · intro h x hx
    obtain ⟨p, hp, rfl⟩ := List.mem_map.mp hx
    exact h p hp
  · exact fun h p hp => h _ (List.mem_map.mpr ⟨p, hp, rfl⟩)
theorem DOf.some_of (d : DOf key R kvs es) {z : Int} {v : V} (h : valV kvs (Sum.inl z) = some v) : ∃ x ∈ es, ((key x : Nat) : Int) = z ∧ R x v := by
  obtain ⟨L, rfl, rfl, r⟩ := d
  obtain ⟨p, hp, e1, e2⟩ := enc_some h
  exact ⟨p.1, List.mem_map.mpr ⟨p, hp, rfl⟩, e1, e2 ▸ r p hp⟩
theorem DOf.get (d : DOf key R kvs es) (hn : Nd key es) {x : α} (hx : x ∈ es) : ∃ v, valV kvs (Sum.inl ((key x : Nat) : Int)) = some v ∧ R x v := by
  cases e : valV kvs (Sum.inl ((key x : Nat) : Int)) with
  | none => exact absurd rfl ((d.none_iff.mp e) x hx)
  | some v =>
    obtain ⟨y, hy, e1, r⟩ := d.some_of e
    refine ⟨v, rfl, ?_⟩
    have hxy : key y = key x := Int.ofNat.inj e1
    have f1 := find_key hn hx
    have f2 := find_key hn hy
    rw [hxy] at f2
    rw [f1] at f2
    rw [Option.some.inj f2]
    exact r
theorem enc_any {L : List (α × V)} {x : α} : ((enc key L).any fun kv => decide (kv.1 = Sum.inl ((key x : Nat) : Int))) = (L.any fun p => decide (key p.1 = key x)) := by
  unfold enc
  rw [List.any_map]
  congr 1
  funext p
  exact decide_eq_decide.mpr kinj
/-- put, upon the told list -/
def putL (key : α → Nat) (x : α) (v : V) : List (α × V) → List (α × V)
  | [] => [(x, v)]
  | p :: L => if key p.1 = key x then (x, v) :: L else p :: putL key x v L
theorem putL_fst {x : α} {v : V} : ∀ L : List (α × V), (putL key x v L).map (·.1) = putE key x (L.map (·.1))
  | [] => rfl
  | p :: L => by
    unfold putL
    rw [List.map_cons]
    unfold putE
    by_cases e : key p.1 = key x
    · rw [if_pos e, if_pos e]
      rfl
    · rw [if_neg e, if_neg e, List.map_cons, putL_fst L]
theorem putL_no {x : α} {v : V} : ∀ {L : List (α × V)}, (∀ p ∈ L, key p.1 ≠ key x) → putL key x v L = L ++ [(x, v)]
  | [], _ => rfl
  | p :: L, h => by
    unfold putL
    rw [if_neg (h p (List.mem_cons.mpr (.inl rfl))), putL_no fun q hq => h q (List.mem_cons.mpr (.inr hq))]
    rfl
theorem map_no {x : α} {v : V} {L : List (α × V)} (h : ∀ p ∈ L, key p.1 ≠ key x) : (enc key L).map (fun kv => if kv.1 = Sum.inl ((key x : Nat) : Int) then (kv.1, v) else kv) = enc key L := by
  unfold enc
  rw [List.map_map]
  refine List.map_congr_left fun p hp => ?_
  show (if Sum.inl ((key p.1 : Nat) : Int) = Sum.inl ((key x : Nat) : Int) then _ else _) = _
  rw [if_neg fun q => h p hp (kinj.mp q)]
theorem enc_put_in {x : α} {v : V} : ∀ {L : List (α × V)}, Nd key (L.map (·.1)) → (∃ p ∈ L, key p.1 = key x) → (enc key L).map (fun kv => if kv.1 = Sum.inl ((key x : Nat) : Int) then (kv.1, v) else kv) = enc key (putL key x v L)
  | [], _, h => by
    obtain ⟨p, hp, _⟩ := h
    cases hp
  | p :: L, hn, h => by
    have hn' : Nd key (p.1 :: L.map (·.1)) := hn
    obtain ⟨n1, n2⟩ := nd_cons.mp hn'
    show (if Sum.inl ((key p.1 : Nat) : Int) = Sum.inl ((key x : Nat) : Int) then _ else _) :: (enc key L).map _ = _
    unfold putL
    by_cases e : key p.1 = key x
    · rw [if_pos (by rw [e]), if_pos e, map_no]
      · show (Sum.inl ((key p.1 : Nat) : Int), v) :: enc key L = (Sum.inl ((key x : Nat) : Int), v) :: enc key L
        rw [e]
      · intro q hq z
        exact n1 q.1 (List.mem_map.mpr ⟨q, hq, rfl⟩) (z.trans e.symm)
    · rw [if_neg (fun q => e (kinj.mp q)), if_neg e, enc_put_in n2]
      · rfl
      · obtain ⟨q, hq, z⟩ := h
        rcases List.mem_cons.mp hq with rfl | hq
        · exact absurd z e
        · exact ⟨q, hq, z⟩
theorem enc_put {x : α} {v : V} {L : List (α × V)} (hn : Nd key (L.map (·.1))) : putK (enc key L) (Sum.inl ((key x : Nat) : Int)) v = enc key (putL key x v L) := by
  unfold putK
  rw [enc_any]
  by_cases h : ∃ p ∈ L, key p.1 = key x
  · have c : (L.any fun p => decide (key p.1 = key x)) = true := by
      obtain ⟨p, hp, e⟩ := h
      exact List.any_eq_true.mpr ⟨p, hp, decide_eq_true e⟩
    rw [if_pos c, enc_put_in hn h]
  · have h' : ∀ p ∈ L, key p.1 ≠ key x := fun p hp e => h ⟨p, hp, e⟩
    have c : ¬ (L.any fun p => decide (key p.1 = key x)) = true := by
      intro q
      obtain ⟨p, hp, e⟩ := List.any_eq_true.mp q
      exact h' p hp (of_decide_eq_true e)
    rw [if_neg c, putL_no h']
    unfold enc
    rw [List.map_append]
    rfl
theorem putL_mem {x : α} {v : V} : ∀ {L : List (α × V)} {q : α × V}, q ∈ putL key x v L → q = (x, v) ∨ q ∈ L
  | [], q, h => .inl (List.mem_singleton.mp h)
  | p :: L, q, h => by
    unfold putL at h
    by_cases e : key p.1 = key x
    · rw [if_pos e] at h
      rcases List.mem_cons.mp h with h | h
      · exact .inl h
      · exact .inr (List.mem_cons.mpr (.inr h))
    · rw [if_neg e] at h
      rcases List.mem_cons.mp h with h | h
      · exact .inr (List.mem_cons.mpr (.inl h))
      · rcases putL_mem h with h | h
        · exact .inl h
        · exact .inr (List.mem_cons.mpr (.inr h))
theorem DOf.put (d : DOf key R kvs es) (hn : Nd key es) {x : α} {v : V} (r : R x v) : DOf key R (putK kvs (Sum.inl ((key x : Nat) : Int)) v) (putE key x es) := by
  obtain ⟨L, rfl, rfl, rl⟩ := d
  refine ⟨putL key x v L, enc_put hn, putL_fst L, fun p hp => ?_⟩
  rcases putL_mem hp with rfl | hp
  · exact r
  · exact rl p hp
/-- a key that is new goes behind -/
theorem DOf.add (d : DOf key R kvs es) {x : α} {v : V} (h : ∀ y ∈ es, key y ≠ key x) (r : R x v) : DOf key R (putK kvs (Sum.inl ((key x : Nat) : Int)) v) (es ++ [x]) := by
  obtain ⟨L, rfl, rfl, rl⟩ := d
  have h' : ∀ p ∈ L, key p.1 ≠ key x := fun p hp => h _ (List.mem_map.mpr ⟨p, hp, rfl⟩)
  refine ⟨L ++ [(x, v)], ?_, by rw [List.map_append]; rfl, fun p hp => ?_⟩
  · have c : valV (enc key L) (Sum.inl ((key x : Nat) : Int)) = none := enc_none.mpr fun p hp e => h' p hp (Int.ofNat.inj e)
    rw [putK_new v c]
    unfold enc
    rw [List.map_append]
    rfl
  · rcases List.mem_append.mp hp with hp | hp
    · exact rl p hp
    · rw [List.mem_singleton.mp hp]
      exact r
theorem DOf.drop (d : DOf key R kvs es) (n : Nat) : DOf key R (dropK kvs (Sum.inl ((n : Nat) : Int))) (but key n es) := by
  obtain ⟨L, rfl, rfl, rl⟩ := d
  refine ⟨L.filter fun p => !(key p.1 == n), ?_, ?_, fun p hp => rl p (List.mem_filter.mp hp).1⟩
  · unfold dropK enc
    rw [List.filter_map]
    congr 1
    refine List.filter_congr fun p _ => ?_
    show decide (¬ Sum.inl ((key p.1 : Nat) : Int) = Sum.inl ((n : Nat) : Int)) = !(key p.1 == n)
    by_cases e : key p.1 = n
    · subst e
      simp
    · have e' : ¬ Sum.inl (β := Str) ((key p.1 : Nat) : Int) = Sum.inl ((n : Nat) : Int) := fun q => e (Int.ofNat.inj (Sum.inl.inj q))
      rw [decide_eq_true e']
      simp [e]
  · unfold but
    rw [List.filter_map]
    rfl
end
/-! ### the frozen part: F, grown by all that is new -/
/-- F, and what stands in H' that did not stand in H -/
def ext (F H H' : Hp) : Hp := fun b => if (H b).isSome = true then F b else H' b
theorem ext_old {F H H' : Hp} {b : Addr} {o : HO} (h : H b = some o) : ext F H H' b = F b := by
  unfold ext
  rw [h]
  exact if_pos rfl
theorem ext_new {F H H' : Hp} {b : Addr} (h : H b = none) : ext F H H' b = H' b := by
  unfold ext
  rw [h, if_neg (by decide)]
theorem ext_sub {F H H' : Hp} (f : Same F H) : Same F (ext F H H') := fun b o h => (ext_old (f b o h)).trans h
theorem ext_in {F H H' : Hp} (f : Same F H) (s : Same H H') : Same (ext F H H') H' := fun b o h => by
  cases e : H b with
  | none =>
    rw [ext_new e] at h
    exact h
  | some u =>
    rw [ext_old e] at h
    exact s b o (f b o h)
theorem ext_none {F H H' : Hp} {b : Addr} {o : HO} (h : H b = some o) (n : F b = none) : ext F H H' b = none := (ext_old h).trans n
theorem ext_refl {F H : Hp} (f : Same F H) : ext F H H = F := by
  funext b
  cases e : H b with
  | none =>
    rw [ext_new e, e]
    exact (f.free e).symm
  | some u => exact ext_old e
theorem ext_ext {F H H1 H2 : Hp} (s1 : Same H H1) (s2 : Same H1 H2) : ext (ext F H H1) H1 H2 = ext F H H2 := by
  funext b
  cases e : H b with
  | some u => rw [ext_old (s1 b u e), ext_old e, ext_old e]
  | none =>
    rw [ext_new (H' := H2) e]
    cases e1 : H1 b with
    | some u => rw [ext_old e1, ext_new e, e1, s2 b u e1]
    | none => exact ext_new e1
theorem ext_upd {F H : Hp} {p : Addr} {o : HO} (f : Same F H) (h : H p = none) : ext F H (upd H p o) = upd F p o := by
  funext b
  by_cases e : b = p
  · subst e
    rw [ext_new h, upd_same, upd_same]
  · rw [upd_ne e]
    cases eh : H b with
    | some u => exact ext_old eh
    | none =>
      rw [ext_new eh, upd_ne e, eh]
      exact (f.free eh).symm
theorem same_upd {H : Hp} {p : Addr} {o : HO} (h : H p = none) : Same H (upd H p o) := fun b u e => by
  rw [upd_ne (ne_of_none e h)]
  exact e
theorem same_of_upd {F H : Hp} {p : Addr} {o : HO} (f : Same F H) (h : F p = none) : Same F (upd H p o) := fun b u e => by
  rw [upd_ne (ne_of_none e h)]
  exact f b u e
end Net

set_option Elab.async false
set_option maxRecDepth 100000
set_option maxHeartbeats 2000000
/-! The text by places, what lies at an address, the promises. -/
namespace Net
open PySem PySem.Spec PyProof.Rows L2 NM
/-! ### the text -/
def top (i : Nat) : Stmt := PySem.Challenge.pw_losingnet_s01_answers.main.body.getD i (.Pass ⟨0, 0, 0, 0⟩)
abbrev sThingI : Stmt := inClass (top 23) 0
abbrev sNear : Stmt := top 24
abbrev sView : Stmt := top 25
abbrev sTold : Stmt := top 26
abbrev sPut : Stmt := top 27
abbrev sGone : Stmt := top 28
abbrev sLetI : Stmt := inClass (top 29) 0
abbrev sLetSize : Stmt := inClass (top 29) 1
abbrev sLetPut : Stmt := inClass (top 29) 2
abbrev sCliI : Stmt := inClass (top 30) 0
abbrev sCliCan : Stmt := inClass (top 30) 1
abbrev sCliTake : Stmt := inClass (top 30) 2
abbrev sPlaI : Stmt := inClass (top 31) 0
abbrev sPlaSent : Stmt := inClass (top 31) 1
abbrev sWordI : Stmt := inClass (top 32) 0
abbrev sSrvI : Stmt := inClass (top 33) 0
abbrev sSThing : Stmt := inClass (top 33) 1
abbrev sSGone : Stmt := inClass (top 33) 2
abbrev sSPlayer : Stmt := inClass (top 33) 3
abbrev sSView : Stmt := inClass (top 33) 4
abbrev sSNext : Stmt := inClass (top 33) 5
abbrev sSTick : Stmt := inClass (top 33) 6
abbrev sSArr : Stmt := inClass (top 33) 7
abbrev sSLost : Stmt := inClass (top 33) 8
abbrev sSWord : Stmt := inClass (top 33) 9
abbrev sSWLost : Stmt := inClass (top 33) 10
abbrev sSSees : Stmt := inClass (top 33) 11
abbrev sSHas : Stmt := inClass (top 33) 12
abbrev sSWay : Stmt := inClass (top 33) 13
abbrev sSWould : Stmt := inClass (top 33) 14
abbrev sSState : Stmt := inClass (top 33) 15
abbrev sAsk : Stmt := top 34
abbrev sAns1 : Stmt := top 35
abbrev sAns : Stmt := top 36
/-! ### attributes by name -/
/-- attributes: names and values -/
def fl (ns : List Str) (vs : List V) : List (Str × V) := ns.zip vs
theorem fl_look {k : Str} {v : V} : ∀ {ns : List Str} {vs : List V} (i : Nat), ns.findIdx? (fun n => k == n) = some i → vs[i]? = some v → (fl ns vs).lookup k = some v
  | [], _, i, h, _ => by cases h
  | n :: ns, [], i, h, g => by simp at g
  | n :: ns, x :: vs, i, h, g => by
    rw [List.findIdx?_cons] at h
    show List.lookup k ((n, x) :: fl ns vs) = some v
    by_cases c : (k == n) = true
    · rw [if_pos c] at h
      cases h
      simp only [List.lookup, c]
      exact g
    · rw [if_neg c] at h
      obtain ⟨j, hj, rfl⟩ := Option.map_eq_some_iff.mp h
      have c' : (k == n) = false := Bool.eq_false_iff.mpr c
      simp only [List.lookup, c']
      exact fl_look j hj g
theorem fl_no {k : Str} : ∀ {ns : List Str} {vs : List V}, (ns.all fun n => !(k == n)) = true → (fl ns vs).lookup k = none
  | [], _, _ => rfl
  | _ :: _, [], _ => rfl
  | n :: ns, x :: vs, h => by
    rw [List.all_cons, Bool.and_eq_true] at h
    show List.lookup k ((n, x) :: fl ns vs) = none
    have c' : (k == n) = false := by
      cases q : (k == n)
      · rfl
      · rw [q] at h
        exact absurd h.1 (by decide)
    simp only [List.lookup, c']
    exact fl_no h.2
theorem fl_put {k : Str} {v : V} : ∀ {ns : List Str} {vs : List V} (i : Nat), ns.findIdx? (fun n => n == k) = some i → vs.length = ns.length → putF k v (fl ns vs) = fl ns (vs.set i v)
  | [], _, i, h, _ => by cases h
  | n :: ns, [], i, h, g => by cases g
  | n :: ns, x :: vs, i, h, g => by
    rw [List.findIdx?_cons] at h
    show (if n = k then (n, v) :: fl ns vs else (n, x) :: putF k v (fl ns vs)) = _
    by_cases c : (n == k) = true
    · rw [if_pos c] at h
      cases h
      rw [if_pos (beq_iff_eq.mp c)]
      rfl
    · rw [if_neg c] at h
      obtain ⟨j, hj, rfl⟩ := Option.map_eq_some_iff.mp h
      rw [if_neg (fun q => c (beq_iff_eq.mpr q)), fl_put j hj (Nat.succ.inj g)]
      rfl
theorem fl_new {k : Str} {v : V} : ∀ {ns : List Str} {vs : List V}, (ns.all fun n => !(n == k)) = true → vs.length = ns.length → putF k v (fl ns vs) = fl (ns ++ [k]) (vs ++ [v])
  | [], [], _, _ => rfl
  | [], _ :: _, _, g => by cases g
  | n :: ns, [], _, g => by cases g
  | n :: ns, x :: vs, h, g => by
    rw [List.all_cons, Bool.and_eq_true] at h
    have c' : ¬ n = k := fun q => by
      rw [beq_iff_eq.mpr q] at h
      exact absurd h.1 (by decide)
    show (if n = k then (n, v) :: fl ns vs else (n, x) :: putF k v (fl ns vs)) = _
    rw [if_neg c', fl_new h.2 (Nat.succ.inj g)]
    rfl
theorem fl_few {ns : List Str} {vs : List V} {m : Nat} (h : vs.length < m := by decide) : (fl ns vs).length < m := by
  unfold fl
  rw [List.length_zip]
  omega
theorem few_put {f : Str} {v : V} {fs : List (Str × V)} {n : Nat} (h : fs.length < n) : (putF f v fs).length < n + 1 := by
  have := length_putF f v fs
  omega
/-! ### what lies at an address -/
def b01 (b : Bool) : Int := if b = true then 1 else 0
abbrev thN : List Str := ["column", "row", "look", "hidden"]
def thV (t : Ge11.Thing) : List V := [.int t.x, .int t.y, .int t.look, .int (b01 t.hidden)]
theorem th_x (t : Ge11.Thing) : (fl thN (thV t)).lookup ("column" : Str) = some (.int t.x) := fl_look 0 (by decide +kernel) rfl
theorem th_y (t : Ge11.Thing) : (fl thN (thV t)).lookup ("row" : Str) = some (.int t.y) := fl_look 1 (by decide +kernel) rfl
theorem th_look (t : Ge11.Thing) : (fl thN (thV t)).lookup ("look" : Str) = some (.int t.look) := fl_look 2 (by decide +kernel) rfl
theorem th_hid (t : Ge11.Thing) : (fl thN (thV t)).lookup ("hidden" : Str) = some (.int (b01 t.hidden)) := fl_look 3 (by decide +kernel) rfl
theorem th_new (x y l h : V) : putF "hidden" h (putF "look" l (putF "row" y (putF "column" x (fl [] [])))) = fl thN [x, y, l, h] := by
  rw [fl_new (k := "column") rfl rfl, fl_new (k := "row") (by decide +kernel) rfl, fl_new (k := "look") (by decide +kernel) rfl, fl_new (k := "hidden") (by decide +kernel) rfl]
  rfl
/-- a thing at a -/
def ThingAt (C : Addr) (F : Hp) (t : Ge11.Thing) (v : V) : Prop := ∃ a dx, v = .ref a ∧ F a = some (.ins C dx (fl thN (thV t)))
def tupOf (x : Nat × Nat × Nat × Nat) : List V := [.int x.2.1, .int x.2.2.1, .int x.2.2.2]
/-- what is seen of a thing -/
def SeenAt (F : Hp) (x : Nat × Nat × Nat × Nat) (v : V) : Prop := ∃ t, v = .ref t ∧ F t = some (.tup (tupOf x))
/-- a dict that is the view v, in its order -/
def ViewD (F : Hp) (v : Ge11.View) (d : Addr) : Prop := ∃ kvs, F d = some (.dK kvs) ∧ DOf vk (SeenAt F) kvs v
/-- in some order -/
def ViewP (F : Hp) (v : Ge11.View) (d : Addr) : Prop := ∃ kvs es, F d = some (.dK kvs) ∧ DOf vk (SeenAt F) kvs es ∧ es.Perm v
section
variable {F F' : Hp} {C : Addr}
theorem ThingAt.mono {t : Ge11.Thing} {v : V} (s : Same F F') (h : ThingAt C F t v) : ThingAt C F' t v := by
  obtain ⟨a, dx, e, h⟩ := h
  exact ⟨a, dx, e, s _ _ h⟩
theorem SeenAt.mono {x : Nat × Nat × Nat × Nat} {v : V} (s : Same F F') (h : SeenAt F x v) : SeenAt F' x v := by
  obtain ⟨t, e, h⟩ := h
  exact ⟨t, e, s _ _ h⟩
theorem ViewD.mono {v : Ge11.View} {d : Addr} (s : Same F F') (h : ViewD F v d) : ViewD F' v d := by
  obtain ⟨kvs, e, h⟩ := h
  exact ⟨kvs, s _ _ e, h.mono fun _ _ _ q => q.mono s⟩
theorem ViewP.mono {v : Ge11.View} {d : Addr} (s : Same F F') (h : ViewP F v d) : ViewP F' v d := by
  obtain ⟨kvs, es, e, h, p⟩ := h
  exact ⟨kvs, es, s _ _ e, h.mono fun _ _ _ q => q.mono s, p⟩
theorem ViewD.p {v : Ge11.View} {d : Addr} (h : ViewD F v d) : ViewP F v d := by
  obtain ⟨kvs, e, h⟩ := h
  exact ⟨kvs, v, e, h, List.Perm.refl _⟩
end
/-- what the top has written of a class -/
structure Cl (K : PySem.W.Frag) (mg : Str → Option Value) (name : Str) (C : Addr) (fields : List Str) : Prop where
  cl : Cls K C
  no : ∀ f ∈ fields, NoAttr K C f
  mg : mg name = some (.ref C)
theorem Cl.at {K : PySem.W.Frag} {mg : Str → Option Value} {name : Str} {C : Addr} {fields : List Str} (c : Cl K mg name C fields) (i : Nat) {f : Str} (h : fields[i]? = some f := by rfl) : NoAttr K C f :=
  c.no f (List.mem_of_getElem? h)
/-! ### Thing -/
section
variable {P : Program} {w : World} {K : PySem.W.Frag} {mg : Str → Option Value} {base : Heap} {CT : Addr}
def spThingI (C : Addr) : Sp := fun vs H Q _ => ∃ (p dx : Addr) (x y l h : V), vs = [.ref p, x, y, l, h] ∧ H p = some (.ins C dx []) ∧
  Q .non (upd H p (.ins C dx (fl thN [x, y, l, h])))
theorem scThingI : FnScope ["self", "column", "row", "look", "hidden"] ["self", "column", "row", "look", "hidden"] (defScope sThingI) := ⟨rfl, rfl, rfl, by decide +kernel, rfl, by decide +kernel, by decide +kernel⟩
theorem ok_thingI {f : Addr} {fd : FuncData} (F : Fun K "__init__" "Thing.__init__" sThingI f fd) (T : Cl K mg "Thing" CT thN) : FnOk P w K mg base CX0 1 f fd ["self", "column", "row", "look", "hidden"] (spThingI CT) := by
  refine F.ok scThingI (fun vs H Q E h => ?_) (fun cdv A outer s H vs Q E hr h => ?_)
  · obtain ⟨p, dx, x, y, l, hh, rfl, _⟩ := h
    rfl
  · obtain ⟨p, dx, x, y, l, hh, rfl, hp, k⟩ := h
    refine ⟨_, pss_cons (ps_fld (pv 0) (pv 1) rfl) (pss_cons (ps_fld (pv 0) (pv 2) rfl) (pss_cons (ps_fld (pv 0) (pv 3) rfl) (pss_one (ps_fld (pv 0) (pv 4) rfl)))), ?_⟩
    refine ⟨_, rfl, _, rfl, p, CT, dx, fl [] [], rfl, hp, T.cl, T.at 0, fl_few, ?_⟩
    refine ⟨_, rfl, _, rfl, p, CT, dx, _, rfl, upd_same, T.cl, T.at 1, few_put fl_few, ?_⟩
    refine ⟨_, rfl, _, rfl, p, CT, dx, _, rfl, upd_same, T.cl, T.at 2, few_put (few_put fl_few), ?_⟩
    refine ⟨_, rfl, _, rfl, p, CT, dx, _, rfl, upd_same, T.cl, T.at 3, few_put (few_put (few_put fl_few)), ?_⟩
    rw [th_new, upd_upd, upd_upd, upd_upd]
    exact k
/-! ### is_near -/
def near (a b : Ge11.Thing) (far : Nat) : Bool := decide (Ge11.apart a.x b.x ≤ far) && decide (Ge11.apart a.y b.y ≤ far)
def spNear (C : Addr) : Sp := fun vs H Q _ => ∃ (v u : V) (a b : Ge11.Thing) (far : Nat), vs = [v, u, .int far] ∧ ThingAt C H a v ∧ ThingAt C H b u ∧ Q (.bl (near a b far)) H
theorem abs_apart (a b far : Nat) : decide ((if (a : Int) - (b : Int) < 0 then -((a : Int) - (b : Int)) else (a : Int) - (b : Int)) ≤ (far : Int)) = decide (Ge11.apart a b ≤ far) := by
  unfold Ge11.apart
  refine decide_eq_decide.mpr ?_
  split <;> omega
theorem scNear : FnScope ["thing", "other", "far"] ["thing", "other", "far"] (defScope sNear) := ⟨rfl, rfl, rfl, by decide +kernel, rfl, by decide +kernel, by decide +kernel⟩
theorem ok_near {f : Addr} {fd : FuncData} (F : Fun K "is_near" "is_near" sNear f fd) (T : Cl K mg "Thing" CT thN) (mA : mg "abs" = none) : FnOk P w K mg base CX0 1 f fd ["thing", "other", "far"] (spNear CT) := by
  refine F.ok scNear (fun vs H Q E h => ?_) (fun cdv A outer s H vs Q E hr h => ?_)
  · obtain ⟨v, u, a, b, far, rfl, _⟩ := h
    rfl
  · obtain ⟨v, u, a, b, far, rfl, ⟨pa, da, rfl, ha⟩, ⟨pb, db, rfl, hb⟩, q⟩ := h
    refine ⟨_, pss_one (ps_ret (pe_and (pe_cmpR op_le (pe_callB call_abs (by rfl) mA (by decide +kernel) (pa_cons (pe_op op_sub (pe_fld (pv 0) rfl) (pe_fld (pv 1) rfl)) pa_nil)) (pv 2) (nomark _))
      (pe_one (pe_cmpR op_le (pe_callB call_abs (by rfl) mA (by decide +kernel) (pa_cons (pe_op op_sub (pe_fld (pv 0) rfl) (pe_fld (pv 1) rfl)) pa_nil)) (pv 2) (nomark _))))), ?_⟩
    refine ⟨_, rfl, pa, CT, da, _, _, rfl, ha, T.cl, T.at 0, th_x a, _, rfl, pb, CT, db, _, _, rfl, hb, T.cl, T.at 0, th_x b, _, _, rfl, rfl, _, rfl, _, rfl, _, _, rfl, rfl, _, rfl, ?_⟩
    have e1 := abs_apart a.x b.x far
    have e2 := abs_apart a.y b.y far
    refine ite2 (fun c => ?_) (fun c => ?_)
    · refine ⟨_, rfl, pa, CT, da, _, _, rfl, ha, T.cl, T.at 1, th_y a, _, rfl, pb, CT, db, _, _, rfl, hb, T.cl, T.at 1, th_y b, _, _, rfl, rfl, _, rfl, _, rfl, _, _, rfl, rfl, ?_⟩
      unfold near at q
      rw [← e1, c, Bool.true_and, ← e2] at q
      exact q
    · unfold near at q
      rw [← e1] at q
      have c' := Bool.eq_false_iff.mpr c
      rw [c', Bool.false_and] at q
      exact q
end
end Net

set_option Elab.async false
set_option maxRecDepth 100000
set_option maxHeartbeats 2000000
namespace Net
open PySem PySem.Spec PyProof.Rows L2 NM
/-- a def of the module that keeps its promise -/
structure DefOk (P : Program) (w : World) (K : PySem.W.Frag) (mg : Str → Option Value) (base : Heap) (k : Nat) (name : Str) (ps : List Str) (sp : Sp) : Prop where
  ex : ∃ f fd, FnOk P w K mg base CX0 k f fd ps sp ∧ Binds K fd ps [] ∧ PySem.W.keepIn K (.ref f) = true ∧ mg name = some (.ref f)
/-- a method -/
structure MethOk (P : Program) (w : World) (K : PySem.W.Frag) (mg : Str → Option Value) (base : Heap) (k : Nat) (C : Addr) (name : Str) (ps : List Str) (sp : Sp) : Prop where
  ex : ∃ f fd, FnOk P w K mg base CX0 k f fd ps sp ∧ Binds K fd ps [] ∧ Meth K C name f
/-- __init__ -/
structure MakeOk (P : Program) (w : World) (K : PySem.W.Frag) (mg : Str → Option Value) (base : Heap) (k : Nat) (C : Addr) (ps : List Str) (sp : Sp) : Prop where
  ex : ∃ f fd, FnOk P w K mg base CX0 k f fd ps sp ∧ Binds K fd ps [] ∧ Mk K C f
theorem take_more {α : Type} : ∀ {l : List α} {i : Nat} {x : α}, l[i]? = some x → l.take (i + 1) = l.take i ++ [x]
  | [], i, x, h => by simp at h
  | a :: l, 0, x, h => by
    have e : a = x := Option.some.inj h
    subst e
    rfl
  | a :: l, i + 1, x, h => by
    have ih := take_more (l := l) (i := i) (x := x) h
    show a :: l.take (i + 1) = a :: l.take i ++ [x]
    rw [ih]
    rfl
theorem map_at {α β : Type} {f : α → β} {l : List α} {i : Nat} {y : β} (h : (l.map f)[i]? = some y) : ∃ x, l[i]? = some x ∧ y = f x := by
  rw [List.getElem?_map] at h
  obtain ⟨x, hx, e⟩ := Option.map_eq_some_iff.mp h
  exact ⟨x, hx, e.symm⟩
theorem if_true_of {c : Bool} {A B : Prop} (hc : c = true) (h : A) : if c = true then A else B := by
  rw [if_pos hc]
  exact h
theorem if_false_of {c : Bool} {A B : Prop} (hc : c = false) (h : B) : if c = true then A else B := by
  rw [hc, if_neg Bool.false_ne_true]
  exact h
/-- nothing -/
def emp : Hp := fun _ => none
theorem ext_emp {F H H' : Hp} : Same (ext emp H H') (ext F H H') := fun b o h => by
  cases e : H b with
  | none =>
    rw [ext_new e] at h ⊢
    exact h
  | some u =>
    rw [ext_old e] at h
    cases h
/-- of all things, told as a view -/
def told (t : Ge11.Thing) : Nat × Nat × Nat × Nat := (t.number, t.x, t.y, t.look)
def seesT (own far : Nat) (o t : Ge11.Thing) : Bool := t.number == own || (!t.hidden && near t o far)
theorem viewOf_some {w : Ge11.World} {own far : Nat} {o : Ge11.Thing} (h : Ge11.thingOf w own = some o) : Ge11.viewOf w own far = (w.filter (seesT own far o)).map told := by
  unfold Ge11.viewOf
  rw [h]
  rfl
theorem viewOf_none {w : Ge11.World} {own far : Nat} (h : Ge11.thingOf w own = none) : Ge11.viewOf w own far = [] := by
  unfold Ge11.viewOf
  rw [h]
theorem thingOf_none {w : Ge11.World} {n : Nat} : Ge11.thingOf w n = none ↔ ∀ t ∈ w, t.number ≠ n := by
  unfold Ge11.thingOf
  rw [List.find?_eq_none]
  constructor
  · exact fun h t ht e => h t ht (by simp [e])
  · intro h t ht e
    exact h t ht (by simpa using e)
theorem thingOf_some {w : Ge11.World} {n : Nat} {t : Ge11.Thing} (h : Ge11.thingOf w n = some t) : t ∈ w ∧ t.number = n := by
  unfold Ge11.thingOf at h
  exact ⟨List.mem_of_find?_eq_some h, by simpa using List.find?_some h⟩
theorem thingOf_mem {w : Ge11.World} (hn : Nd Ge11.Thing.number w) {t : Ge11.Thing} (h : t ∈ w) : Ge11.thingOf w t.number = some t := find_key hn h
section
variable {P : Program} {w : World} {K : PySem.W.Frag} {mg : Str → Option Value} {base : Heap} {CT : Addr}
/-- the dict of all things -/
def Things (C : Addr) (F H : Hp) (d : Addr) (wd : Ge11.World) : Prop := ∃ kvs es, H d = some (.dK kvs) ∧ DOf Ge11.Thing.number (ThingAt C F) kvs es ∧ es.Perm wd
def spView (C : Addr) : Sp := fun vs H Q _ => ∃ (d : Addr) (wd : Ge11.World) (own far : Nat), vs = [.ref d, .int own, .int far] ∧ Things C H H d wd ∧ Srt Ge11.Thing.number wd ∧ wd.length ≤ 20 ∧
  ∀ (H' : Hp) (r : Addr), Same H H' → H r = none → ViewD (ext emp H H') (Ge11.viewOf wd own far) r → Q (.ref r) H'
theorem scView : FnScope ["things", "own", "far", "view", "eye", "number", "thing"] ["things", "own", "far"] (defScope sView) := ⟨rfl, rfl, rfl, by decide +kernel, rfl, by decide +kernel, by decide +kernel⟩
theorem ok_view {f : Addr} {fd : FuncData} (F : Fun K "view_of" "view_of" sView f fd) (T : Cl K mg "Thing" CT thN) (mS : mg "sorted" = none) (N : DefOk P w K mg base 1 "is_near" ["thing", "other", "far"] (spNear CT)) :
    FnOk P w K mg base CX0 2 f fd ["things", "own", "far"] (spView CT) := by
  obtain ⟨fN, fdN, GN, bN, kN, mN⟩ := N.ex
  refine F.ok scView (fun vs H Q E h => ?_) (fun cdv A outer s H vs Q E hr h => ?_)
  · obtain ⟨d, wd, own, far, rfl, _⟩ := h
    rfl
  · obtain ⟨d, wd, own, far, rfl, ⟨kvs, es, hd, hD, pw⟩, hs, hl, k⟩ := h
    have hu := hu_of hr
    refine ⟨_, pss_cons (ps_set (i := 3) scView.nd rfl (Or.inl rfl) pe_dnewK)
      (pss_cons (ps_if (pt_cmp (pc_dnotin hu (pv 1) (pv 0))) (pss_one (ps_ret (pv 3))) pss_nil)
      (pss_cons (ps_set (i := 4) scView.nd rfl (Or.inl rfl) (pe_dget hu (pv 0) (pv 1) (fun _ _ => rfl)))
      (pss_cons (ps_for PassesOwn.never rfl (pi_list (pe_callB (call_sortedDI rfl) (by rfl) mS (by decide +kernel) (pa_cons (pv 0) pa_nil))) (pg_name (i := 5) scView.nd rfl (Or.inl rfl))
        (pss_cons (ps_set (i := 6) scView.nd rfl (Or.inl rfl) (pe_dget hu (pv 0) (pv 5) (fun _ _ => rfl)))
        (pss_one (ps_if (PW.pt (pw_or (pt_cmpR op_eq (pv 5) (pv 1) (nomark _)) (pw_or1 (PW.pt (pw_and (pt_cmpR op_eq (pe_fld (pv 6) rfl) pe_int (nomark _)) (pw_and1 (pt_val (pe_call GN hr (by rfl) mN kN bN .nil pass0 (pa_cons (pv 6) (pa_cons (pv 4) (pa_cons (pv 2) pa_nil))))))))))) 
          (pss_one (ps_dput hu (pv 3) (pv 5) (pe_tup (pa_cons (pe_fld (pv 6) rfl) (pa_cons (pe_fld (pv 6) rfl) (pa_cons (pe_fld (pv 6) rfl) pa_nil)))) rfl)) pss_nil))))
      (pss_one (ps_ret (pv 3)))))), ?_⟩
    intro v hv
    have ndv : d ≠ v := ne_of_none hd hv
    have s1 : Same H (upd H v (.dK [])) := same_upd hv
    have hnd : Nd Ge11.Thing.number es := (nd_perm pw).mpr hs.nd
    refine ⟨_, rfl, _, rfl, d, _, rfl, DGet.k (k := Sum.inl ((own : Nat) : Int)) (s1 _ _ hd), _, rfl, ?_⟩
    cases e : valV kvs (Sum.inl ((own : Nat) : Int)) with
    | none =>
      refine if_true_of rfl ⟨_, rfl, k _ v s1 hv ?_⟩
      have hN : Ge11.thingOf wd own = none := thingOf_none.mpr fun t ht q => (hD.none_iff.mp e) t (pw.mem_iff.mpr ht) (by rw [q])
      rw [viewOf_none hN]
      exact ⟨[], (ext_new hv).trans upd_same, DOf.nil⟩
    | some eye =>
      obtain ⟨o, ho, eo, ao⟩ := hD.some_of e
      have eo' : o.number = own := Int.ofNat.inj eo
      have hO : Ge11.thingOf wd own = some o := by
        rw [← eo']
        exact thingOf_mem hs.nd (pw.mem_iff.mp ho)
      refine if_false_of rfl ?_
      refine ⟨_, rfl, _, rfl, d, eye, rfl, e ▸ DGet.k (k := Sum.inl ((own : Nat) : Int)) (s1 _ _ hd), ?_⟩
      refine ⟨_, rfl, d, kvs, _, rfl, .inl (s1 _ _ hd), hD.keys, by rw [List.length_map, pw.length_eq]; omega, fun ys p py sy hp => ?_⟩
      have ey := keys_sorted pw hs py sy
      subst ey
      have np0 : H p = none := s1.free hp
      have nvp : v ≠ p := fun q => by
        rw [← q, upd_same] at hp
        cases hp
      refine ⟨p, rfl, ⟨_, SqL.of upd_same⟩, for_list (K := K) (a := p) (xs := (wd.map fun x => ((x.number : Nat) : Int)).map V.int)
        (fun i σ H' => ∃ (a b : Option V) (G : Hp) (kv : List (Key × V)), σ = [some (.ref d), some (.int own), some (.int far), some (.ref v), some eye, a, b] ∧ Same H H' ∧ H' p = some (.lst ((wd.map fun x => ((x.number : Nat) : Int)).map V.int)) ∧ H' v = some (.dK kv) ∧
          Same G H' ∧ (∀ b o, G b = some o → H b = none) ∧ G v = none ∧ DOf vk (SeenAt G) kv (((wd.take i).filter (seesT own far o)).map told))
        ⟨none, none, emp, [], rfl, s1.trans (same_upd hp), upd_same, Eq.trans (upd_ne nvp) upd_same, (fun _ _ h => nomatch h), (fun _ _ h => nomatch h), rfl, DOf.nil⟩
        (fun i σ H' _ ⟨_, _, _, _, _, _, hp', _⟩ => SqL.of hp') ?_ ?_⟩
      · rintro i y σ H' hi ⟨a, b, G, kv, rfl, sH, hp', hv', sG, gN, gv, dk⟩
        obtain ⟨z, hz, rfl⟩ := map_at hi
        obtain ⟨t, ht, rfl⟩ := map_at hz
        have htw : t ∈ wd := List.mem_of_getElem? ht
        obtain ⟨tv, et, at_⟩ := hD.get hnd (pw.mem_iff.mpr htw)
        have at' := at_.mono sH
        have ao' := ao.mono sH
        refine ⟨_, rfl, _, rfl, d, tv, rfl, et ▸ DGet.k (k := Sum.inl ((t.number : Nat) : Int)) (sH _ _ hd), ?_⟩
        have step : ((wd.take (i + 1)).filter (seesT own far o)).map told = ((wd.take i).filter (seesT own far o)).map told ++ (if seesT own far o t = true then [told t] else []) := by
          rw [take_more ht, List.filter_append, List.map_append]
          congr 1
          by_cases c : seesT own far o t = true
          · rw [if_pos c, List.filter_cons, if_pos c]
            rfl
          · rw [if_neg c, List.filter_cons, if_neg c]
            rfl
        obtain ⟨pt, dt, rfl, hpt⟩ := id at'
        generalize hσ : ([some (.ref d), some (.int own), some (.int far), some (.ref v), some eye, some (V.int ((t.number : Nat) : Int)), some (V.ref pt)] : List (Option V)) = σ2
        have hA : Ans (tTest (tOp rEq (tVar 5) (tVar 1))) σ2 H' (t.number == own) := by
          subst hσ
          refine ans_eq (val_var rfl) (val_var rfl) rfl ?_
          by_cases c : t.number = own
          · rw [c, decide_eq_true rfl, beq_self_eq_true]
          · rw [beq_false_of_ne c, decide_eq_false]
            intro q
            exact c (Int.ofNat.inj (V.int.inj q))
        have hB : Ans (tTest (tOp rEq (tFld K (tVar 6) "hidden") (tC (.int 0)))) σ2 H' (!t.hidden) := by
          subst hσ
          refine ans_eq (val_fld (val_var rfl) hpt T.cl (T.at 3) (th_hid t)) val_c rfl ?_
          cases t.hidden <;> decide
        have hC : Ans (tB (tCall (spNear CT) [] E0 (tCons (tVar 6) (tCons (tVar 4) (tCons (tVar 2) tNil))))) σ2 H' (near t o far) := by
          subst hσ
          refine ans_val fun Q q => ?_
          exact ⟨_, rfl, _, rfl, _, rfl, _, _, t, o, far, rfl, at', ao', q⟩
        have hAll : Ans (tOr (tTest (tOp rEq (tVar 5) (tVar 1))) (tAnd (tTest (tOp rEq (tFld K (tVar 6) "hidden") (tC (.int 0)))) (tB (tCall (spNear CT) [] E0 (tCons (tVar 6) (tCons (tVar 4) (tCons (tVar 2) tNil))))))) σ2 H' (seesT own far o t) := by
          unfold seesT
          cases c1 : (t.number == own) with
          | true => exact ans_or1 (hA.to c1)
          | false =>
            rw [Bool.false_or]
            exact ans_or (hA.to c1) (ans_and2 hB hC)
        by_cases c : seesT own far o t = true
        · rw [if_pos c] at step
          subst hσ
          refine st_yes (hAll.to c) ?_
          refine ⟨_, rfl, pt, CT, dt, _, _, rfl, hpt, T.cl, T.at 0, th_x t, _, rfl, pt, CT, dt, _, _, rfl, hpt, T.cl, T.at 1, th_y t, _, rfl, pt, CT, dt, _, _, rfl, hpt, T.cl, T.at 2, th_look t, (by show 3 ≤ sizeLine; decide), fun q hq => ?_⟩
          have nvq : v ≠ q := ne_of_none hv' hq
          have hvq : (upd H' q (.tup [.int t.x, .int t.y, .int t.look])) v = some (.dK kv) := Eq.trans (upd_ne nvq) hv'
          have hkl : kv.length < sizeLine := by
            rw [dk.len, List.length_map]
            refine Nat.lt_of_le_of_lt (List.length_filter_le _ _) ?_
            rw [List.length_take]
            have : (20 : Nat) < sizeLine := by decide
            omega
          refine ⟨_, rfl, _, rfl, v, _, rfl, DPut.k (k := Sum.inl ((t.number : Nat) : Int)) hvq hkl, ?_⟩
          have hHq : H q = none := sH.free hq
          refine ⟨_, _, upd G q (.tup (tupOf (told t))), _, rfl, fun b o hb => ?_, ?_, upd_same, fun b o hb => ?_, fun b o hb => ?_, ?_, ?_⟩
          · rw [upd_ne (ne_of_none hb hv), upd_ne (ne_of_none hb hHq)]
            exact sH b o hb
          · have npv : p ≠ v := fun z => nvp z.symm
            rw [upd_ne npv, upd_ne (ne_of_none hp' hq)]
            exact hp'
          · by_cases z : b = q
            · subst z
              rw [upd_same] at hb
              rw [upd_ne nvq.symm, upd_same]
              exact hb
            · rw [upd_ne z] at hb
              rw [upd_ne (ne_of_none hb gv), upd_ne z]
              exact sG b o hb
          · by_cases z : b = q
            · rw [z]
              exact hHq
            · rw [upd_ne z] at hb
              exact gN b o hb
          · rw [upd_ne nvq]
            exact gv
          · rw [step]
            have sGu : Same G (upd G q (.tup (tupOf (told t)))) := same_upd (sG.free hq)
            refine (dk.mono fun x u _ hx => hx.mono sGu).add ?_ ⟨q, rfl, upd_same⟩
            intro x hx
            obtain ⟨t', ht', rfl⟩ := List.mem_map.mp hx
            have ht2 := (List.mem_filter.mp ht').1
            have hlt := hs
            rw [← List.take_append_drop (i + 1) wd, take_more ht] at hlt
            have hlt2 := (List.pairwise_append.mp (List.pairwise_append.mp hlt).1).2.2 t' ht2 t (List.mem_singleton.mpr rfl)
            exact Nat.ne_of_lt hlt2
        · rw [if_neg c, List.append_nil] at step
          subst hσ
          refine st_no (hAll.to (Bool.eq_false_iff.mpr c)) ?_
          refine ⟨_, _, G, kv, rfl, sH, hp', hv', sG, gN, gv, ?_⟩
          rw [step]
          exact dk
      · rintro σ H' ⟨a, b, G, kv, rfl, sH, hp', hv', sG, gN, gv, dk⟩
        refine ⟨_, rfl, k H' v sH hv ⟨kv, (ext_new hv).trans hv', ?_⟩⟩
        rw [viewOf_some hO]
        rw [List.length_map, List.length_map, List.take_length] at dk
        refine dk.mono fun x u _ hx => hx.mono fun b o hb => ?_
        exact (ext_new (gN b o hb)).trans (sG b o hb)
end
end Net

set_option Elab.async false
set_option maxRecDepth 100000
set_option maxHeartbeats 2000000
namespace Net
open PySem PySem.Spec PyProof.Rows L2 NM
abbrev Seen := Nat × Nat × Nat × Nat
theorem take_filter {α : Type} {l : List α} {i : Nat} {x : α} (p : α → Bool) (h : l[i]? = some x) : (l.take (i + 1)).filter p = (l.take i).filter p ++ (if p x = true then [x] else []) := by
  rw [take_more h, List.filter_append]
  congr 1
  rw [List.filter_cons]
  split <;> rfl
/-- what stands ahead has a smaller key -/
theorem srt_take {α : Type} {key : α → Nat} {l : List α} {i : Nat} {x y : α} (hs : Srt key l) (h : l[i]? = some x) (hy : y ∈ l.take i) : key y < key x := by
  rw [← List.take_append_drop (i + 1) l, take_more h] at hs
  exact (List.pairwise_append.mp (List.pairwise_append.mp hs).1).2.2 y hy x (List.mem_singleton.mpr rfl)
def dataOf (x : Seen) : PyData := .tuple [.int x.2.1, .int x.2.2.1, .int x.2.2.2]
theorem seen_dp {K : PySem.W.Frag} {F H : Hp} {x : Seen} {v : V} (s : Same F H) (h : SeenAt F x v) : Dp K H v (dataOf x) := by
  obtain ⟨t, rfl, h⟩ := h
  exact .tup (SqT.of (s _ _ h)) (.cons (.int _) (.cons (.int _) (.cons (.int _) .nil)))
theorem data_shaped (x : Seen) : SeqAt.shaped (dataOf x) = true := by
  unfold SeqAt.shaped dataOf
  simp [PyData.canLay0, PyData.canLayAll0, PyData.depth, PyData.depthAll]
theorem data_eqv {x y : Seen} : PyData.eqv (dataOf x) (dataOf y) = decide (x.2 = y.2) := by
  obtain ⟨a, b, c, d⟩ := x
  obtain ⟨a', b', c', d'⟩ := y
  show ((b : Int) == (b' : Int) && ((c : Int) == (c' : Int) && ((d : Int) == (d' : Int) && true))) = decide ((b, c, d) = (b', c', d'))
  rw [Bool.and_true]
  by_cases h : (b, c, d) = (b', c', d')
  · rw [decide_eq_true h]
    cases h
    simp
  · rw [decide_eq_false h, Bool.eq_false_iff]
    intro q
    rw [Bool.and_eq_true, Bool.and_eq_true] at q
    obtain ⟨q1, q2, q3⟩ := q
    have e1 : (b : Int) = b' := by simpa using q1
    have e2 : (c : Int) = c' := by simpa using q2
    have e3 : (d : Int) = d' := by simpa using q3
    refine h ?_
    rw [Int.ofNat.inj e1, Int.ofNat.inj e2, Int.ofNat.inj e3]
section
variable {P : Program} {w : World} {K : PySem.W.Frag} {mg : Str → Option Value} {base : Heap}
def spPut : Sp := fun vs H Q _ => ∃ (F : Hp) (d1 d2 : Addr) (a b : Ge11.View), vs = [.ref d1, .ref d2] ∧ Same F H ∧ ViewD F a d1 ∧ ViewD F b d2 ∧ Srt vk a ∧ Srt vk b ∧ b.length ≤ 20 ∧
  ∀ (H' : Hp) (r : Addr), Same H H' → H r = none → ViewD (ext F H H') (Ge11.delta a b).put r → Q (.ref r) H'
theorem scPut : FnScope ["first", "second", "put", "number"] ["first", "second"] (defScope sPut) := ⟨rfl, rfl, rfl, by decide +kernel, rfl, by decide +kernel, by decide +kernel⟩
theorem ok_put {f : Addr} {fd : FuncData} (F : Fun K "put_between" "put_between" sPut f fd) (mS : mg "sorted" = none) : FnOk P w K mg base CX0 1 f fd ["first", "second"] spPut := by
  refine F.ok scPut (fun vs H Q E h => ?_) (fun cdv A outer s H vs Q E hr h => ?_)
  · obtain ⟨F, d1, d2, a, b, rfl, _⟩ := h
    rfl
  · obtain ⟨F, d1, d2, a, b, rfl, sF, ⟨k1, h1, D1⟩, ⟨k2, h2, D2⟩, sa, sb, hl, k⟩ := h
    have hu := hu_of hr
    refine ⟨_, pss_cons (ps_set (i := 2) scPut.nd rfl (Or.inl rfl) pe_dnewK)
      (pss_cons (ps_for PassesOwn.never rfl (pi_list (pe_callB (call_sortedDI rfl) (by rfl) mS (by decide +kernel) (pa_cons (pv 1) pa_nil))) (pg_name (i := 3) scPut.nd rfl (Or.inl rfl))
        (pss_one (ps_if (pt_cmpR (op_neD hr.units) (pe_dget1 hu (pv 0) (pv 3) ⟨rfl, rfl, rfl, rfl⟩) (pe_dget hu (pv 1) (pv 3) (fun _ _ => rfl)) (nomark _))
          (pss_one (ps_dput hu (pv 2) (pv 3) (pe_dget hu (pv 1) (pv 3) (fun _ _ => rfl)) rfl)) pss_nil)))
      (pss_one (ps_ret (pv 2)))), ?_⟩
    intro v hv
    have s1 : Same H (upd H v (.dK [])) := same_upd hv
    refine ⟨_, rfl, d2, k2, _, rfl, .inl (s1 _ _ (sF _ _ h2)), D2.keys, by rw [List.length_map]; omega, fun ys p py sy hp => ?_⟩
    have ey := keys_sorted (List.Perm.refl b) sb py sy
    subst ey
    have nvp : v ≠ p := fun q => by
      rw [← q, upd_same] at hp
      cases hp
    refine ⟨p, rfl, ⟨_, SqL.of upd_same⟩, for_list (K := K) (a := p) (xs := (b.map fun x => ((vk x : Nat) : Int)).map V.int)
      (fun i σ H' => ∃ (c : Option V) (kv : List (Key × V)), σ = [some (.ref d1), some (.ref d2), some (.ref v), c] ∧ Same H H' ∧ H' p = some (.lst ((b.map fun x => ((vk x : Nat) : Int)).map V.int)) ∧ H' v = some (.dK kv) ∧
        DOf vk (SeenAt F) kv ((b.take i).filter fun x => !a.contains x))
      ⟨none, [], rfl, s1.trans (same_upd hp), upd_same, Eq.trans (upd_ne nvp) upd_same, DOf.nil⟩
      (fun i σ H' _ ⟨_, _, _, _, hp', _⟩ => SqL.of hp') ?_ ?_⟩
    · rintro i y σ H' hi ⟨c, kv, rfl, sH, hp', hv', dk⟩
      obtain ⟨z, hz, rfl⟩ := map_at hi
      obtain ⟨x, hx, rfl⟩ := map_at hz
      have hxb : x ∈ b := List.mem_of_getElem? hx
      have sFH := sF.trans sH
      obtain ⟨xv, ex, ax⟩ := D2.get sb.nd hxb
      have g2 : DGet H' d2 (V.int ((vk x : Nat) : Int)) (some xv) := ex ▸ DGet.k (k := Sum.inl ((vk x : Nat) : Int)) (sFH _ _ h2)
      have step := take_filter (fun x => !a.contains x) hx
      have hne : Ans (tTest (tOp (rNeD K) (tDGet1 (tVar 0) (tVar 3)) (tDGet (tVar 1) (tVar 3)))) ([some (.ref d1), some (.ref d2), some (.ref v), some (V.int ((vk x : Nat) : Int))] : List (Option V)) H' (!a.contains x) := by
        intro R q
        refine ⟨_, rfl, d1, rfl, .inl ⟨k1, .inl (sFH _ _ h1)⟩, _, rfl, _, DGet.k (k := Sum.inl ((vk x : Nat) : Int)) (sFH _ _ h1), _, rfl, _, rfl, d2, xv, rfl, g2, ?_⟩
        cases e1 : valV k1 (Sum.inl ((vk x : Nat) : Int)) with
        | none =>
          have hno : a.contains x = false := by
            rw [Bool.eq_false_iff]
            intro z
            exact D1.none_iff.mp e1 x (List.contains_iff_mem.mp z) rfl
          refine ⟨.none, dataOf x, .non, seen_dp sFH ax, by decide, data_shaped x, _, rfl, ?_⟩
          rw [hno] at q
          exact q
        | some u =>
          obtain ⟨y, hy, ey, ay⟩ := D1.some_of e1
          have ey' : y.1 = x.1 := Int.ofNat.inj ey
          refine ⟨dataOf y, dataOf x, seen_dp sFH ay, seen_dp sFH ax, data_shaped y, data_shaped x, _, rfl, ?_⟩
          rw [data_eqv]
          have : decide (y.2 = x.2) = a.contains x := by
            by_cases c : y.2 = x.2
            · have : y = x := Prod.ext ey' c
              rw [decide_eq_true c, ← this]
              exact (List.contains_iff_mem.mpr hy).symm
            · rw [decide_eq_false c]
              symm
              rw [Bool.eq_false_iff]
              intro z
              exact c (by rw [srt_inj sa hy (List.contains_iff_mem.mp z) ey'])
          rw [this]
          exact q
      cases c : a.contains x with
      | true =>
        rw [c] at hne
        rw [if_neg (by rw [c]; decide), List.append_nil] at step
        refine st_no hne ?_
        exact ⟨_, kv, rfl, sH, hp', hv', by rw [step]; exact dk⟩
      | false =>
        rw [c] at hne
        rw [if_pos (by rw [c]; decide)] at step
        refine st_yes hne ?_
        have hkl : kv.length < sizeLine := by
          rw [dk.len]
          refine Nat.lt_of_le_of_lt (List.length_filter_le _ _) ?_
          rw [List.length_take]
          have : (20 : Nat) < sizeLine := by decide
          omega
        refine ⟨_, rfl, _, rfl, d2, xv, rfl, g2, _, rfl, _, rfl, v, _, rfl, DPut.k (k := Sum.inl ((vk x : Nat) : Int)) hv' hkl, ?_⟩
        refine ⟨_, _, rfl, fun b o hb => ?_, ?_, upd_same, ?_⟩
        · rw [upd_ne (ne_of_none hb hv)]
          exact sH b o hb
        · rw [upd_ne nvp.symm]
          exact hp'
        · rw [step]
          refine dk.add ?_ ax
          intro y hy
          exact Nat.ne_of_lt (srt_take sb hx (List.mem_filter.mp hy).1)
    · rintro σ H' ⟨c, kv, rfl, sH, hp', hv', dk⟩
      refine ⟨_, rfl, k H' v sH hv ⟨kv, (ext_new hv).trans hv', ?_⟩⟩
      rw [List.length_map, List.length_map, List.take_length] at dk
      exact dk.mono fun x u _ hx => hx.mono (ext_sub sF)
/-! ### gone_between -/
def spGone : Sp := fun vs H Q _ => ∃ (F : Hp) (d1 d2 : Addr) (a b : Ge11.View), vs = [.ref d1, .ref d2] ∧ Same F H ∧ ViewD F a d1 ∧ ViewD F b d2 ∧ Srt vk a ∧ a.length ≤ 20 ∧
  ∀ (H' : Hp) (r : Addr), Same H H' → H r = none → H' r = some (.lst ((Ge11.delta a b).gone.map fun n => V.int ((n : Nat) : Int))) → Q (.ref r) H'
theorem scGone : FnScope ["first", "second", "number"] ["first", "second"] (defScope sGone) := ⟨rfl, rfl, rfl, by decide +kernel, rfl, by decide +kernel, by decide +kernel⟩
theorem ok_gone {f : Addr} {fd : FuncData} (F : Fun K "gone_between" "gone_between" sGone f fd) (mS : mg "sorted" = none) : FnOk P w K mg base CX0 1 f fd ["first", "second"] spGone := by
  refine F.ok scGone (fun vs H Q E h => ?_) (fun cdv A outer s H vs Q E hr h => ?_)
  · obtain ⟨F, d1, d2, a, b, rfl, _⟩ := h
    rfl
  · obtain ⟨F, d1, d2, a, b, rfl, sF, ⟨k1, h1, D1⟩, ⟨k2, h2, D2⟩, sa, hl, k⟩ := h
    have hu := hu_of hr
    refine ⟨_, pss_one (ps_ret (pe_lc (own := [("number", 2)]) (g := gName 2) rfl scGone.nd (pi_list (pe_callB (call_sortedDI rfl) (by rfl) mS (by decide +kernel) (pa_cons (pv 0) pa_nil)))
      (blkOk_by (own := [("number", 2)]) (N := ["first", "second", "number"]) (sc := defScope sGone) (by decide +kernel)) (fun _ _ _ _ _ => pg_name (i := 2) scGone.nd rfl (Or.inl rfl)) (fun _ _ _ _ _ => pts_one (pt_cmp (pc_dnotin hu (pv 2) (pv 1)))) (fun _ _ _ _ _ => pv 2))), ?_⟩
    refine ⟨_, rfl, d1, k1, _, rfl, .inl (sF _ _ h1), D1.keys, by rw [List.length_map]; omega, fun ys p py sy hp => ?_⟩
    have ey := keys_sorted (List.Perm.refl a) sa py sy
    subst ey
    refine ⟨p, rfl, ⟨_, SqL.of upd_same⟩, fun D hD => ?_⟩
    have nDp : p ≠ D := fun q => by
      rw [← q, upd_same] at hD
      cases hD
    have hHD : H D = none := (same_upd hp).free hD
    refine lc_list (K := K) (a := p) (xs := (a.map fun x => ((vk x : Nat) : Int)).map V.int)
      (fun i H' => Same H H' ∧ H' p = some (.lst ((a.map fun x => ((vk x : Nat) : Int)).map V.int)) ∧ H' D = some (.lst (((a.take i).filter fun x => !(b.any fun y => y.1 == x.1)).map fun x => V.int ((vk x : Nat) : Int))))
      ⟨(same_upd hp).trans (same_upd hD), Eq.trans (upd_ne nDp) upd_same, upd_same⟩
      (fun i H' _ ⟨_, hp', _⟩ => SqL.of hp') ?_ ?_
    · rintro i y H' hi ⟨sH, hp', hD'⟩
      obtain ⟨z, hz, rfl⟩ := map_at hi
      obtain ⟨x, hx, rfl⟩ := map_at hz
      have step := take_filter (fun x => !(b.any fun y => y.1 == x.1)) hx
      refine ⟨rfl, _, rfl, _, rfl, d2, _, rfl, DGet.k (k := Sum.inl ((vk x : Nat) : Int)) (sH _ _ (sF _ _ h2)), _, rfl, ?_⟩
      have hany : (b.any fun y => y.1 == x.1) = (valV k2 (Sum.inl ((vk x : Nat) : Int))).isSome := by
        cases e : valV k2 (Sum.inl ((vk x : Nat) : Int)) with
        | none =>
          rw [show (none : Option V).isSome = false from rfl, List.any_eq_false]
          intro y hy q
          exact D2.none_iff.mp e y hy (by rw [show vk y = vk x by simpa using q])
        | some u =>
          obtain ⟨y, hy, ey, _⟩ := D2.some_of e
          rw [show (some u).isSome = true from rfl, List.any_eq_true]
          exact ⟨y, hy, by simpa using Int.ofNat.inj ey⟩
      rw [hany] at step
      cases e : (valV k2 (Sum.inl ((vk x : Nat) : Int))).isSome with
      | true =>
        rw [if_neg (by rw [e]; decide), List.append_nil] at step
        refine if_false_of rfl ⟨sH, hp', ?_⟩
        rw [step]
        exact hD'
      | false =>
        rw [if_pos (by rw [e]; decide)] at step
        refine if_true_of rfl ⟨_, rfl, _, hD', ?_, fun b o hb => ?_, ?_, ?_⟩
        · rw [List.length_map]
          refine Nat.lt_of_le_of_lt (List.length_filter_le _ _) ?_
          rw [List.length_take]
          have : (20 : Nat) < sizeLine := by decide
          omega
        · rw [upd_ne (ne_of_none hb hHD)]
          exact sH b o hb
        · rw [upd_ne nDp]
          exact hp'
        · rw [upd_same, step, List.map_append]
          rfl
    · rintro H' ⟨sH, hp', hD'⟩
      refine k H' D sH hHD ?_
      rw [List.length_map, List.length_map, List.take_length] at hD'
      rw [hD']
      show _ = some (HO.lst (((a.filter fun x => !(b.any fun y => y.1 == x.1)).map fun x => x.1).map fun n => V.int ((n : Nat) : Int)))
      rw [List.map_map]
      rfl
end
end Net

set_option Elab.async false
set_option linter.all false
set_option maxRecDepth 100000
set_option maxHeartbeats 2000000
namespace Net
open PySem PySem.Spec PyProof.Rows L2 NM
/-! ### heaps where one object has changed -/
def SB (p : Addr) (H H' : Hp) : Prop := ∀ c o, H c = some o → c ≠ p → H' c = some o
section
variable {p : Addr} {H H1 H2 : Hp}
theorem SB.refl (H : Hp) : SB p H H := fun _ _ h _ => h
theorem SB.trans (a : SB p H H1) (b : SB p H1 H2) : SB p H H2 := fun c o h n => b c o (a c o h n) n
theorem SB.of (a : Same H H1) : SB p H H1 := fun c o h _ => a c o h
theorem SB.upd (H : Hp) (p : Addr) (o : HO) : SB p H (L2.upd H p o) := fun c u h n => (upd_ne n).trans h
theorem SB.free (a : SB p H H1) {b : Addr} (n : b ≠ p) (h : H1 b = none) : H b = none := by
  cases q : H b with
  | none => rfl
  | some o =>
    rw [a b o q n] at h
    cases h
theorem SB.frozen {F : Hp} (a : SB p H H1) (f : Same F H) (n : F p = none) : Same F H1 := fun b o h => a b o (f b o h) (ne_of_none h n)
theorem SB.ext_in {F : Hp} (a : SB p H H1) (f : Same F H) (n : F p = none) : Same (ext F H H1) H1 := fun b o h => by
  cases e : H b with
  | none =>
    rw [ext_new e] at h
    exact h
  | some u =>
    rw [ext_old e] at h
    exact a b o (f b o h) (ne_of_none h n)
/-- what is new from H1 to H2, seen from an earlier H -/
theorem ext_up {F H3 : Hp} (f : Same F H) (o : ∀ b, H1 b = none → H b = none) (s : ∀ b u, H1 b = none → H2 b = some u → H3 b = some u) : Same (ext F H1 H2) (ext F H H3) := fun b u h => by
  cases e : H1 b with
  | none =>
    rw [ext_new e] at h
    rw [ext_new (o b e)]
    exact s b u e h
  | some x =>
    rw [ext_old e] at h
    exact (ext_old (f b u h)).trans h
end
/-! ### Letter -/
abbrev leN : List Str := ["receiver", "tick", "since", "put", "gone"]
def leV (i t s : V) (pd gl : Addr) : List V := [i, t, s, .ref pd, .ref gl]
def nV (n : Nat) : V := .int ((n : Nat) : Int)
def LetterAt (C : Addr) (F : Hp) (x : Nat × Ge11.Letter) (v : V) : Prop := ∃ a dx pd gl, v = .ref a ∧ F a = some (.ins C dx (fl leN (leV (nV x.1) (nV x.2.tick) (nV x.2.since) pd gl))) ∧ ViewD F x.2.delta.put pd ∧ F gl = some (.lst (x.2.delta.gone.map nV))
theorem LetterAt.mono {C : Addr} {F F' : Hp} {x : Nat × Ge11.Letter} {v : V} (s : Same F F') (h : LetterAt C F x v) : LetterAt C F' x v := by
  obtain ⟨a, dx, pd, gl, e, h1, h2, h3⟩ := h
  exact ⟨a, dx, pd, gl, e, s _ _ h1, h2.mono s, s _ _ h3⟩
theorem le_rec {i t s : V} {pd gl : Addr} : (fl leN (leV i t s pd gl)).lookup ("receiver" : Str) = some i := fl_look 0 (by decide +kernel) rfl
theorem le_tick {i t s : V} {pd gl : Addr} : (fl leN (leV i t s pd gl)).lookup ("tick" : Str) = some t := fl_look 1 (by decide +kernel) rfl
theorem le_since {i t s : V} {pd gl : Addr} : (fl leN (leV i t s pd gl)).lookup ("since" : Str) = some s := fl_look 2 (by decide +kernel) rfl
theorem le_put {i t s : V} {pd gl : Addr} : (fl leN (leV i t s pd gl)).lookup ("put" : Str) = some (.ref pd) := fl_look 3 (by decide +kernel) rfl
theorem le_gone {i t s : V} {pd gl : Addr} : (fl leN (leV i t s pd gl)).lookup ("gone" : Str) = some (.ref gl) := fl_look 4 (by decide +kernel) rfl
theorem le_new (i t s : V) (pd gl : Addr) : putF "gone" (.ref gl) (putF "put" (.ref pd) (putF "since" s (putF "tick" t (putF "receiver" i (fl [] []))))) = fl leN (leV i t s pd gl) := by
  rw [fl_new (k := "receiver") rfl rfl, fl_new (k := "tick") (by decide +kernel) rfl, fl_new (k := "since") (by decide +kernel) rfl, fl_new (k := "put") (by decide +kernel) rfl, fl_new (k := "gone") (by decide +kernel) rfl]
  rfl
section
variable {P : Program} {w : World} {K : PySem.W.Frag} {mg : Str → Option Value} {base : Heap} {CL : Addr}
def spLetI (C : Addr) : Sp := fun vs H Q _ => ∃ (F : Hp) (p dx : Addr) (i t s : V) (d1 d2 : Addr) (a b : Ge11.View), vs = [.ref p, i, t, s, .ref d1, .ref d2] ∧ H p = some (.ins C dx []) ∧ Same F H ∧ F p = none ∧
  ViewD F a d1 ∧ ViewD F b d2 ∧ Srt vk a ∧ Srt vk b ∧ a.length ≤ 20 ∧ b.length ≤ 20 ∧
  ∀ (H' : Hp) (pd gl : Addr), SB p H H' → H' p = some (.ins C dx (fl leN (leV i t s pd gl))) → ViewD (ext F H H') (Ge11.delta a b).put pd → ext F H H' gl = some (.lst ((Ge11.delta a b).gone.map nV)) → Q .non H'
abbrev psLetI : List Str := ["self", "receiver", "tick", "since", "before", "now"]
theorem scLetI : FnScope psLetI psLetI (defScope sLetI) := ⟨rfl, rfl, rfl, by decide +kernel, rfl, by decide +kernel, by decide +kernel⟩
theorem ok_letI {f : Addr} {fd : FuncData} (F : Fun K "__init__" "Letter.__init__" sLetI f fd) (T : Cl K mg "Letter" CL leN) (NP : DefOk P w K mg base 1 "put_between" ["first", "second"] spPut) (NG : DefOk P w K mg base 1 "gone_between" ["first", "second"] spGone) :
    FnOk P w K mg base CX0 2 f fd psLetI (spLetI CL) := by
  obtain ⟨f1, fd1, G1, b1, k1, m1⟩ := NP.ex
  obtain ⟨f2, fd2, G2, b2, k2, m2⟩ := NG.ex
  refine F.ok scLetI (fun vs H Q E h => ?_) (fun cdv A outer s H vs Q E hr h => ?_)
  · obtain ⟨F, p, dx, i, t, s, d1, d2, a, b, rfl, _⟩ := h
    rfl
  · obtain ⟨F, p, dx, i, t, s, d1, d2, a, b, rfl, hp, sF, Fp, v1, v2, sa, sb, la, lb, k⟩ := h
    refine ⟨_, pss_cons (ps_fld (pv 0) (pv 1) rfl) (pss_cons (ps_fld (pv 0) (pv 2) rfl) (pss_cons (ps_fld (pv 0) (pv 3) rfl)
      (pss_cons (ps_fld (pv 0) (pe_call G1 hr (by rfl) m1 k1 b1 .nil pass0 (pa_cons (pv 4) (pa_cons (pv 5) pa_nil))) rfl)
      (pss_one (ps_fld (pv 0) (pe_call G2 hr (by rfl) m2 k2 b2 .nil pass0 (pa_cons (pv 4) (pa_cons (pv 5) pa_nil))) rfl))))), ?_⟩
    refine ⟨_, rfl, _, rfl, p, CL, dx, fl [] [], rfl, hp, T.cl, T.at 0, fl_few, ?_⟩
    refine ⟨_, rfl, _, rfl, p, CL, dx, _, rfl, upd_same, T.cl, T.at 1, few_put fl_few, ?_⟩
    refine ⟨_, rfl, _, rfl, p, CL, dx, _, rfl, upd_same, T.cl, T.at 2, few_put (few_put fl_few), ?_⟩
    rw [upd_upd, upd_upd]
    generalize hH1 : upd H p (.ins CL dx (putF "since" s (putF "tick" t (putF "receiver" i (fl [] []))))) = H1
    have q1 : SB p H H1 := hH1 ▸ SB.upd H p _
    have e1 : H1 p = some (.ins CL dx (putF "since" s (putF "tick" t (putF "receiver" i (fl [] []))))) := hH1 ▸ upd_same
    have sF1 := q1.frozen sF Fp
    refine ⟨_, rfl, _, rfl, F, d1, d2, a, b, rfl, sF1, v1, v2, sa, sb, lb, fun H2 pd s2 npd vp => ?_⟩
    refine ⟨_, rfl, p, CL, dx, _, rfl, s2 _ _ e1, T.cl, T.at 3, few_put (few_put (few_put fl_few)), ?_⟩
    generalize hH3 : upd H2 p (.ins CL dx (putF "put" (.ref pd) (putF "since" s (putF "tick" t (putF "receiver" i (fl [] [])))))) = H3
    have q3 : SB p H2 H3 := hH3 ▸ SB.upd H2 p _
    have e3 : H3 p = some (.ins CL dx (putF "put" (.ref pd) (putF "since" s (putF "tick" t (putF "receiver" i (fl [] [])))))) := hH3 ▸ upd_same
    have q13 : SB p H H3 := (q1.trans (SB.of s2)).trans q3
    refine ⟨_, rfl, _, rfl, F, d1, d2, a, b, rfl, q13.frozen sF Fp, v1, v2, sa, la, fun H4 gl s4 ngl hgl => ?_⟩
    refine ⟨_, rfl, p, CL, dx, _, rfl, s4 _ _ e3, T.cl, T.at 4, few_put (few_put (few_put (few_put fl_few))), ?_⟩
    have q5 : SB p H4 (upd H4 p (.ins CL dx (putF "gone" (.ref gl) (putF "put" (.ref pd) (putF "since" s (putF "tick" t (putF "receiver" i (fl [] [])))))))) := SB.upd H4 p _
    have ngp : gl ≠ p := fun z => by
      rw [z, e3] at ngl
      cases ngl
    refine k _ pd gl ((q13.trans (SB.of s4)).trans q5) (by rw [upd_same, le_new]) (vp.mono (ext_up sF (fun b hb => ?_) fun b u hb hu => ?_)) ?_
    · refine q1.free (fun z => ?_) hb
      rw [z, e1] at hb
      cases hb
    · have nb : b ≠ p := fun z => by
        rw [z, e1] at hb
        cases hb
      exact q5 b u (s4 b u (q3 b u hu nb)) nb
    · rw [ext_new (q13.free ngp ngl), upd_ne ngp]
      exact hgl
/-! ### size -/
def spSize (C : Addr) : Sp := fun vs H Q _ => ∃ (v : V) (x : Nat × Ge11.Letter), vs = [v] ∧ LetterAt C H x v ∧ Q (nV (Ge11.size x.2.delta)) H
theorem scSize : FnScope ["self"] ["self"] (defScope sLetSize) := ⟨rfl, rfl, rfl, by decide +kernel, rfl, by decide +kernel, by decide +kernel⟩
theorem ok_size {f : Addr} {fd : FuncData} (F : Fun K "size" "Letter.size" sLetSize f fd) (T : Cl K mg "Letter" CL leN) (mL : mg "len" = none) : FnOk P w K mg base CX0 1 f fd ["self"] (spSize CL) := by
  refine F.ok scSize (fun vs H Q E h => ?_) (fun cdv A outer s H vs Q E hr h => ?_)
  · obtain ⟨v, x, rfl, _⟩ := h
    rfl
  · obtain ⟨v, x, rfl, ⟨a, dx, pd, gl, rfl, h1, ⟨kvs, h2, D⟩, h3⟩, q⟩ := h
    refine ⟨_, pss_one (ps_ret (pe_op op_add (pe_op op_mul pe_int (pe_callB call_lenD (by rfl) mL PySem.boot_len (pa_cons (pe_fld (pv 0) rfl) pa_nil))) (pe_callB call_len_seq (by rfl) mL PySem.boot_len (pa_cons (pe_fld (pv 0) rfl) pa_nil)))), ?_⟩
    refine ⟨_, rfl, a, CL, dx, _, _, rfl, h1, T.cl, T.at 3, le_put, pd, kvs, rfl, h2, _, _, rfl, rfl, .inl ⟨by decide, by decide⟩, _, rfl, a, CL, dx, _, _, rfl, h1, T.cl, T.at 4, le_gone, gl, _, rfl, .inl (SqL.of h3), _, _, rfl, rfl, ?_⟩
    have e : (4 * ((kvs.length : Nat) : Int) + (((x.2.delta.gone.map nV).length : Nat) : Int)) = ((Ge11.size x.2.delta : Nat) : Int) := by
      rw [D.len, List.length_map]
      unfold Ge11.size
      omega
    show Q (V.int _) H
    rw [e]
    exact q
end
end Net

set_option Elab.async false
set_option linter.all false
set_option maxRecDepth 100000
set_option maxHeartbeats 2000000
namespace Net
open PySem PySem.Spec PyProof.Rows L2 NM
theorem inV_nat {n : Nat} {l : List Nat} : inV (nV n) (l.map nV) = l.contains n := by
  induction l with
  | nil => rfl
  | cons m l ih =>
    show (((m : Nat) : Int) == ((n : Nat) : Int) || inV (nV n) (l.map nV)) = _
    rw [ih, List.contains_cons]
    congr 1
    by_cases c : n = m
    · rw [c, beq_self_eq_true, beq_self_eq_true]
    · rw [beq_false_of_ne c, beq_false_of_ne]
      exact fun q => c (Int.ofNat.inj q).symm
theorem flat_nat {l : List Nat} : (l.map nV).all flatV = true := by
  rw [List.all_map, List.all_eq_true]
  intro x _
  rfl
theorem putE_len {α : Type} {key : α → Nat} {x : α} : ∀ l : List α, (putE key x l).length ≤ l.length + 1
  | [] => Nat.le_refl _
  | y :: l => by
    unfold putE
    split
    · exact Nat.le_succ _
    · exact Nat.succ_le_succ (putE_len l)
theorem nd_filter {α : Type} {key : α → Nat} {l : List α} (p : α → Bool) (h : Nd key l) : Nd key (l.filter p) := by
  unfold Nd List.Nodup at h ⊢
  rw [List.pairwise_map] at h ⊢
  exact h.filter p
theorem nd_take {α : Type} {key : α → Nat} {l : List α} (n : Nat) (h : Nd key l) : Nd key (l.take n) := by
  unfold Nd List.Nodup at h ⊢
  rw [List.pairwise_map] at h ⊢
  exact h.sublist (List.take_sublist n l)
theorem nd_putE {α : Type} {key : α → Nat} {l : List α} (x : α) (h : Nd key l) : Nd key (putE key x l) := by
  rw [nd_perm (putE_perm h)]
  refine nd_cons.mpr ⟨fun z hz => ?_, nd_filter _ h⟩
  have := (List.mem_filter.mp hz).2
  simpa using this
/-- what stands ahead of a place has another key -/
theorem nd_at {α : Type} {key : α → Nat} {l : List α} {i : Nat} {x y : α} (h : Nd key l) (hx : l[i]? = some x) (hy : y ∈ l.take i) : key y ≠ key x := by
  unfold Nd List.Nodup at h
  rw [List.pairwise_map] at h
  rw [← List.take_append_drop (i + 1) l, take_more hx] at h
  exact (List.pairwise_append.mp (List.pairwise_append.mp h).1).2.2 y hy x (List.mem_singleton.mpr rfl)
theorem enc_at {α : Type} {key : α → Nat} {R : α → V → Prop} {kvs : List (Key × V)} {es : List α} (d : DOf key R kvs es) {i : Nat} {k : Key} {v : V} (h : kvs[i]? = some (k, v)) : ∃ x, es[i]? = some x ∧ k = Sum.inl ((key x : Nat) : Int) ∧ R x v := by
  obtain ⟨L, rfl, rfl, r⟩ := d
  unfold enc at h
  obtain ⟨p, hp, e⟩ := map_at h
  cases e
  exact ⟨p.1, by rw [List.getElem?_map, hp]; rfl, rfl, r p (List.mem_of_getElem? hp)⟩
theorem fold_more {α β : Type} {f : β → α → β} {b : β} {l : List α} {i : Nat} {x : α} (h : l[i]? = some x) : (l.take (i + 1)).foldl f b = f ((l.take i).foldl f b) x := by
  rw [take_more h, List.foldl_append]
  rfl
section
variable {P : Program} {w : World} {K : PySem.W.Frag} {mg : Str → Option Value} {base : Heap} {CL : Addr}
def spPatch (C : Addr) : Sp := fun vs H Q _ => ∃ (F : Hp) (u : V) (d : Addr) (v : Ge11.View) (x : Nat × Ge11.Letter), vs = [u, .ref d] ∧ Same F H ∧ LetterAt C F x u ∧ ViewP F v d ∧ Srt vk v ∧ Srt vk x.2.delta.put ∧ v.length ≤ 1000 ∧ x.2.delta.put.length ≤ 1000 ∧
  ∀ (H' : Hp) (r : Addr), Same H H' → H r = none → ViewP (ext F H H') (Ge11.patch v x.2.delta) r → Q (.ref r) H'
theorem scPatch : FnScope ["self", "view", "changed", "number"] ["self", "view"] (defScope sLetPut) := ⟨rfl, rfl, rfl, by decide +kernel, rfl, by decide +kernel, by decide +kernel⟩
theorem ok_patch {f : Addr} {fd : FuncData} (F : Fun K "put_to" "Letter.put_to" sLetPut f fd) (T : Cl K mg "Letter" CL leN) : FnOk P w K mg base CX0 1 f fd ["self", "view"] (spPatch CL) := by
  refine F.ok scPatch (fun vs H Q E h => ?_) (fun cdv A outer s H vs Q E hr h => ?_)
  · obtain ⟨F, u, d, v, x, rfl, _⟩ := h
    rfl
  · obtain ⟨F, u, d, v, x, rfl, sF, ⟨a, dx, pd, gl, rfl, ha, ⟨kp, hpd, Dp'⟩, hgl⟩, ⟨kvs, es, hd, hD, pv'⟩, sv, sp, lv, lp, k⟩ := h
    have hu := hu_of hr
    refine ⟨_, pss_cons (ps_set (i := 2) scPatch.nd rfl (Or.inl rfl) pe_dnewK)
      (pss_cons (ps_lock (ps_for PassesOwn.never rfl (pi_keys (pv 1)) (pg_name (i := 3) scPatch.nd rfl (Or.inl rfl))
        (pss_one (ps_if (pt_cmpR op_notIn_seq (pv 3) (pe_fld (pv 0) rfl) (by rfl))
          (pss_one (ps_dput hu (pv 2) (pv 3) (pe_dget hu (pv 1) (pv 3) (fun _ _ => rfl)) rfl)) pss_nil))))
      (pss_cons (ps_lock (ps_for PassesOwn.never rfl (pi_keys (pe_fld (pv 0) rfl)) (pg_name (i := 3) scPatch.nd rfl (Or.inl rfl))
        (pss_one (ps_dput hu (pv 2) (pv 3) (pe_dget hu (pe_fld (pv 0) rfl) (pv 3) (fun _ _ => rfl)) rfl))))
      (pss_one (ps_ret (pv 2))))), ?_⟩
    intro c hc
    have hd' := sF _ _ hd
    have ha' := sF _ _ ha
    have hpd' := sF _ _ hpd
    have hgl' := sF _ _ hgl
    have hcd : d ≠ c := ne_of_none hd' hc
    have hcp : pd ≠ c := ne_of_none hpd' hc
    have nad : a ≠ d := ne_of ha hd (by intro z; cases z)
    have ngd : gl ≠ d := ne_of hgl hd (by intro z; cases z)
    have nap : a ≠ pd := ne_of ha hpd (by intro z; cases z)
    have ngp : gl ≠ pd := ne_of hgl hpd (by intro z; cases z)
    have hnd : Nd vk es := (nd_perm pv').mpr sv.nd
    refine ⟨d, .dK kvs, Eq.trans (upd_ne hcd) hd', trivial, fun od => ?_⟩
    have big : (3000 : Nat) < sizeLine := by decide
    refine ⟨_, rfl, d, od, rfl, .inl ⟨kvs, upd_same, ?_⟩⟩
    refine for_it walk_keys
      (fun i σ H' => ∃ (z : Option V) (kv : List (Key × V)), σ = [some (.ref a), some (.ref d), some (.ref c), z] ∧ SB d H H' ∧ H' d = some (.frz od (.dK kvs)) ∧ H' c = some (.dK kv) ∧
        DOf vk (SeenAt F) kv ((es.take i).filter fun y => !x.2.delta.gone.contains y.1))
      ⟨none, [], rfl, ?_, upd_same, Eq.trans (upd_ne hcd.symm) upd_same, DOf.nil⟩ (fun i σ H' _ ⟨_, _, _, _, q, _⟩ => q) ?_ ?_
    · intro b o hb nb
      rw [upd_ne nb, upd_ne (ne_of_none hb hc)]
      exact hb
    · rintro i y σ H' H'' hi ⟨z, kv, rfl, sH, hd1, hc1, dk⟩ ⟨rfl, kk, vv, hk, rfl⟩
      obtain ⟨e, he, rfl, re⟩ := enc_at hD hk
      have ga := sH _ _ ha' nad
      have gg := sH _ _ hgl' ngd
      have step := take_filter (fun y : Seen => !x.2.delta.gone.contains y.1) he
      refine ⟨_, rfl, _, rfl, a, CL, dx, _, _, rfl, ga, T.cl, T.at 4, le_gone, gl, _, rfl, .inl (SqL.of gg), rfl, flat_nat, _, rfl, ?_⟩
      show if (!inV (nV (vk e)) (x.2.delta.gone.map nV)) = true then _ else _
      rw [inV_nat]
      cases cc : x.2.delta.gone.contains (vk e) with
      | true =>
        rw [if_neg (by rw [cc]; decide), List.append_nil] at step
        refine if_false_of rfl ⟨_, kv, rfl, sH, hd1, hc1, ?_⟩
        rw [step]
        exact dk
      | false =>
        rw [if_pos (by rw [cc]; decide)] at step
        obtain ⟨ev, g1, g2⟩ := hD.get hnd (List.mem_of_getElem? he)
        refine if_true_of rfl ⟨_, rfl, _, rfl, d, ev, rfl, .inl ⟨kvs, Sum.inl ((vk e : Nat) : Int), .inr ⟨od, hd1⟩, rfl, g1.symm⟩, _, rfl, _, rfl, c, _, rfl, DPut.k (k := Sum.inl ((vk e : Nat) : Int)) hc1 ?_, ?_⟩
        · rw [dk.len]
          refine Nat.lt_of_le_of_lt (List.length_filter_le _ _) ?_
          rw [List.length_take, pv'.length_eq]
          omega
        · refine ⟨_, _, rfl, fun b o hb nb => ?_, Eq.trans (upd_ne hcd) hd1, upd_same, ?_⟩
          · rw [upd_ne (ne_of_none hb hc)]
            exact sH b o hb nb
          · rw [step]
            refine dk.add ?_ g2
            intro y hy
            exact nd_at hnd he (List.mem_filter.mp hy).1
    · rintro σ H' ⟨z, kv, rfl, sH, hd1, hc1, dk⟩
      refine ⟨hd1, ?_⟩
      rw [hD.len, List.take_length] at dk
      generalize hH2 : upd H' d (.dK kvs) = H2
      have s2 : Same H H2 := fun b o hb => by
        rw [← hH2]
        by_cases q : b = d
        · subst q
          rw [upd_same, ← hd', hb]
        · rw [upd_ne q]
          exact sH b o hb q
      have hc2 : H2 c = some (.dK kv) := by rw [← hH2, upd_ne hcd.symm]; exact hc1
      clear hH2 hc1 hd1 sH
      refine ⟨pd, .dK kp, s2 _ _ hpd', trivial, fun op => ?_⟩
      refine ⟨_, rfl, a, CL, dx, _, _, rfl, Eq.trans (upd_ne nap) (s2 _ _ ha'), T.cl, T.at 3, le_put, pd, op, rfl, .inl ⟨kp, upd_same, ?_⟩⟩
      have base0 : Nd vk (es.filter fun y => !x.2.delta.gone.contains y.1) := nd_filter _ hnd
      refine for_it walk_keys
        (fun i σ H' => ∃ (z : Option V) (kv : List (Key × V)) (es' : List Seen), σ = [some (.ref a), some (.ref d), some (.ref c), z] ∧ SB pd H H' ∧ H' pd = some (.frz op (.dK kp)) ∧ H' c = some (.dK kv) ∧
          es' = (x.2.delta.put.take i).foldl (fun v y => putE vk y v) (es.filter fun y => !x.2.delta.gone.contains y.1) ∧ DOf vk (SeenAt F) kv es' ∧ Nd vk es' ∧ es'.length ≤ 1000 + i)
        ⟨z, kv, _, rfl, ?_, upd_same, Eq.trans (upd_ne hcp.symm) hc2, rfl, dk, base0, ?_⟩ (fun i σ H' _ ⟨_, _, _, _, _, q, _⟩ => q) ?_ ?_
      · intro b o hb nb
        rw [upd_ne nb]
        exact s2 b o hb
      · refine Nat.le_trans (List.length_filter_le _ _) ?_
        rw [pv'.length_eq]
        omega
      · rintro i y σ H' H'' hi ⟨z, kv, es', rfl, sH, hd1, hc1, ees, dk, nde, lee⟩ ⟨rfl, kk, vv, hk, rfl⟩
        obtain ⟨e, he, rfl, re⟩ := enc_at Dp' hk
        obtain ⟨ev, g1, g2⟩ := Dp'.get sp.nd (List.mem_of_getElem? he)
        have ga := sH _ _ ha' nap
        have hi2 : i < 1000 := by
          rw [Dp'.len] at hi
          omega
        refine ⟨_, rfl, a, CL, dx, _, _, rfl, ga, T.cl, T.at 3, le_put, _, rfl, pd, ev, rfl, .inl ⟨kp, Sum.inl ((vk e : Nat) : Int), .inr ⟨op, hd1⟩, rfl, g1.symm⟩, _, rfl, _, rfl, c, _, rfl, DPut.k (k := Sum.inl ((vk e : Nat) : Int)) hc1 ?_, ?_⟩
        · rw [dk.len]
          omega
        · refine ⟨_, _, _, rfl, fun b o hb nb => ?_, Eq.trans (upd_ne hcp) hd1, upd_same, ?_, dk.put nde g2, nd_putE e nde, ?_⟩
          · rw [upd_ne (ne_of_none hb hc)]
            exact sH b o hb nb
          · rw [fold_more he, ees]
          · have := putE_len (key := vk) (x := e) es'
            omega
      · rintro σ H' ⟨z, kv, es', rfl, sH, hd1, hc1, ees, dk, nde, lee⟩
        refine ⟨hd1, ?_⟩
        rw [Dp'.len, List.take_length] at ees
        have s3 : Same H (upd H' pd (.dK kp)) := fun b o hb => by
          by_cases q : b = pd
          · subst q
            rw [upd_same, ← hpd', hb]
          · rw [upd_ne q]
            exact sH b o hb q
        refine ⟨_, rfl, k _ c s3 hc ⟨kv, es', ?_, dk.mono fun y t _ hy => hy.mono (ext_sub sF), ?_⟩⟩
        · rw [ext_new hc, upd_ne hcp.symm]
          exact hc1
        · rw [patch_is, ees]
          exact (puts_ins _ (pv'.filter _) (sv.filter _)).1
end
end Net

set_option Elab.async false
set_option linter.all false
set_option maxRecDepth 100000
set_option maxHeartbeats 2000000
namespace Net
open PySem PySem.Spec PyProof.Rows L2 NM
abbrev TV := Nat × Ge11.View
/-- a client's views, oldest first -/
def ViewPV (F : Hp) (p : TV) (u : V) : Prop := ∃ d, u = .ref d ∧ ViewP F p.2 d
def ViewsAt (F : Hp) (hs : List TV) (cd : Addr) : Prop := ∃ kvs, F cd = some (.dK kvs) ∧ DOf tk (ViewPV F) kvs hs.reverse
theorem ViewPV.mono {F F' : Hp} {p : TV} {u : V} (s : Same F F') (h : ViewPV F p u) : ViewPV F' p u := by
  obtain ⟨d, e, h⟩ := h
  exact ⟨d, e, h.mono s⟩
theorem ViewsAt.mono {F F' : Hp} {hs : List TV} {cd : Addr} (s : Same F F') (h : ViewsAt F hs cd) : ViewsAt F' hs cd := by
  obtain ⟨kvs, e, h⟩ := h
  exact ⟨kvs, s _ _ e, h.mono fun _ _ _ q => q.mono s⟩
abbrev clN : List Str := ["views"]
theorem cl_views {v : V} : (fl clN [v]).lookup ("views" : Str) = some v := fl_look 0 (by decide +kernel) rfl
theorem nd_rev {α : Type} {key : α → Nat} {l : List α} (h : Nd key l) : Nd key l.reverse := (nd_perm (List.reverse_perm l)).mpr h
section
variable {P : Program} {w : World} {K : PySem.W.Frag} {mg : Str → Option Value} {base : Heap} {CL CC : Addr}
def spCliI (C : Addr) : Sp := fun vs H Q _ => ∃ (p dx : Addr), vs = [.ref p] ∧ H p = some (.ins C dx []) ∧ ∀ d, H d = none → Q .non (upd (upd H d (.dK [])) p (.ins C dx (fl clN [.ref d])))
theorem scCliI : FnScope ["self"] ["self"] (defScope sCliI) := ⟨rfl, rfl, rfl, by decide +kernel, rfl, by decide +kernel, by decide +kernel⟩
theorem ok_cliI {f : Addr} {fd : FuncData} (F : Fun K "__init__" "Client.__init__" sCliI f fd) (T : Cl K mg "Client" CC clN) : FnOk P w K mg base CX0 1 f fd ["self"] (spCliI CC) := by
  refine F.ok scCliI (fun vs H Q E h => ?_) (fun cdv A outer s H vs Q E hr h => ?_)
  · obtain ⟨p, dx, rfl, _⟩ := h
    rfl
  · obtain ⟨p, dx, rfl, hp, k⟩ := h
    refine ⟨_, pss_one (ps_fld (pv 0) pe_dnewK rfl), ?_⟩
    intro d hd
    refine ⟨_, rfl, p, CC, dx, fl [] [], rfl, Eq.trans (upd_ne (ne_of_none hp hd)) hp, T.cl, T.at 0, fl_few, ?_⟩
    exact k d hd
def spCan (CL CC : Addr) : Sp := fun vs H Q _ => ∃ (F : Hp) (c dx cd : Addr) (u : V) (x : Nat × Ge11.Letter) (hs : List TV), vs = [.ref c, u] ∧ H c = some (.ins CC dx (fl clN [.ref cd])) ∧ Same F H ∧ LetterAt CL F x u ∧ ViewsAt F hs cd ∧
  ∀ H', Same H H' → Same H' H → Q (.bl (takes hs x.2)) H'
theorem scCan : FnScope ["self", "letter", "tick"] ["self", "letter"] (defScope sCliCan) := ⟨rfl, rfl, rfl, by decide +kernel, rfl, by decide +kernel, by decide +kernel⟩
theorem ok_can {f : Addr} {fd : FuncData} (F : Fun K "can_take" "Client.can_take" sCliCan f fd) (T : Cl K mg "Letter" CL leN) (TC : Cl K mg "Client" CC clN) : FnOk P w K mg base CX0 1 f fd ["self", "letter"] (spCan CL CC) := by
  refine F.ok scCan (fun vs H Q E h => ?_) (fun cdv A outer s H vs Q E hr h => ?_)
  · obtain ⟨F, c, dx, cd, u, x, hs, rfl, _⟩ := h
    rfl
  · obtain ⟨F, c, dx, cd, u, x, hs, rfl, hc, sF, ⟨a, da, pd, gl, rfl, ha, _, _⟩, ⟨kvs, hk, D⟩, k⟩ := h
    have hu := hu_of hr
    have ha' := sF _ _ ha
    have hk' := sF _ _ hk
    refine ⟨_, pss_cons (ps_if (PW.pt (pw_and (pt_cmpR op_ne (pe_fld (pv 1) rfl) pe_int (nomark _)) (pw_and1 (pt_cmp (pc_dnotin hu (pe_fld (pv 1) rfl) (pe_fld (pv 0) rfl)))))) (pss_one (ps_ret pe_bl)) pss_nil)
      (pss_cons (ps_lock (ps_for PassesOwn.never rfl (pi_keys (pe_fld (pv 0) rfl)) (pg_name (i := 2) scCan.nd rfl (Or.inl rfl))
        (pss_one (ps_if (pt_cmpR op_ge (pv 2) (pe_fld (pv 1) rfl) (nomark _)) (pss_one (ps_ret pe_bl)) pss_nil))))
      (pss_one (ps_ret pe_bl))), ?_⟩
    have hany : (hs.any fun p => p.1 == x.2.since) = (valV kvs (Sum.inl ((x.2.since : Nat) : Int))).isSome := by
      cases e : valV kvs (Sum.inl ((x.2.since : Nat) : Int)) with
      | none =>
        rw [show (none : Option V).isSome = false from rfl, List.any_eq_false]
        intro y hy q
        exact D.none_iff.mp e y (List.mem_reverse.mpr hy) (by rw [show tk y = x.2.since by simpa using q])
      | some u =>
        obtain ⟨y, hy, ey, _⟩ := D.some_of e
        rw [show (some u).isSome = true from rfl, List.any_eq_true]
        exact ⟨y, List.mem_reverse.mp hy, by simpa using Int.ofNat.inj ey⟩
    have hA : Ans (tAnd (tTest (tOp rNe (tFld K (tVar 1) "since") (tC (.int 0)))) (tB (tDNotIn (tFld K (tVar 1) "since") (tFld K (tVar 0) "views")))) ([some (.ref c), some (.ref a), none] : List (Option V)) H (!(x.2.since == 0 || hs.any fun p => p.1 == x.2.since)) := by
      rw [hany, Bool.not_or]
      refine ans_and2 (ans_ne (val_fld (val_var rfl) ha' T.cl (T.at 2) le_since) val_c rfl ?_) (ans_val ?_)
      · congr 1
        by_cases q : x.2.since = 0
        · rw [q]
          rfl
        · rw [beq_false_of_ne q, decide_eq_false]
          exact fun z => q (Int.ofNat.inj (V.int.inj z))
      · intro R q
        refine ⟨_, rfl, a, CL, da, _, _, rfl, ha', T.cl, T.at 2, le_since, _, rfl, c, CC, dx, _, _, rfl, hc, TC.cl, TC.at 0, cl_views, cd, _, rfl, DGet.k (k := Sum.inl ((x.2.since : Nat) : Int)) hk', q⟩
    cases c1 : (x.2.since == 0 || hs.any fun p => p.1 == x.2.since) with
    | false =>
      refine st_yes (hA.to (by rw [c1]; rfl)) ?_
      have e : takes hs x.2 = false := by
        unfold takes
        rw [c1]
        rfl
      rw [e] at k
      exact k H (Same.refl _) (Same.refl _)
    | true =>
      refine st_no (hA.to (by rw [c1]; rfl)) ?_
      have et : takes hs x.2 = hs.all fun p => decide (p.1 < x.2.tick) := by
        unfold takes
        rw [c1, Bool.true_and]
      rw [et] at k
      refine ⟨cd, .dK kvs, hk', trivial, fun od => ?_⟩
      have ncd : c ≠ cd := ne_of hc hk' (by intro z; cases z)
      have nad : a ≠ cd := ne_of ha' hk' (by intro z; cases z)
      have back : ∀ H', H' = upd H cd (.frz od (.dK kvs)) → Same H (upd H' cd (.dK kvs)) ∧ Same (upd H' cd (.dK kvs)) H := by
        rintro H' rfl
        rw [upd_upd]
        refine ⟨fun b o hb => ?_, fun b o hb => ?_⟩
        · by_cases q : b = cd
          · subst q
            rw [upd_same, ← hk', hb]
          · rw [upd_ne q]
            exact hb
        · by_cases q : b = cd
          · subst q
            rw [upd_same] at hb
            rw [← hb, hk']
          · rw [upd_ne q] at hb
            exact hb
      refine ⟨_, rfl, c, CC, dx, _, _, rfl, Eq.trans (upd_ne ncd) hc, TC.cl, TC.at 0, cl_views, cd, od, rfl, .inl ⟨kvs, upd_same, ?_⟩⟩
      refine for_it walk_keys (fun i σ H' => ∃ z : Option V, σ = [some (.ref c), some (.ref a), z] ∧ H' = upd H cd (.frz od (.dK kvs)) ∧ ∀ p ∈ hs.reverse.take i, p.1 < x.2.tick)
        ⟨none, rfl, rfl, by intro p hp; cases hp⟩ (fun i σ H' _ ⟨_, _, q, _⟩ => by rw [q]; exact upd_same) ?_ ?_
      · rintro i y σ H' H'' hi ⟨z, rfl, rfl, all⟩ ⟨rfl, kk, vv, hkk, rfl⟩
        obtain ⟨e, he, rfl, re⟩ := enc_at D hkk
        refine ⟨_, rfl, _, rfl, a, CL, da, _, _, rfl, Eq.trans (upd_ne nad) ha', T.cl, T.at 1, le_tick, _, _, rfl, rfl, _, rfl, ?_⟩
        by_cases q : x.2.tick ≤ tk e
        · refine if_true_of (decide_eq_true (by omega)) ⟨upd_same, ?_⟩
          have ef : (hs.all fun p => decide (p.1 < x.2.tick)) = false := by
            rw [Bool.eq_false_iff]
            intro z
            have := of_decide_eq_true (List.all_eq_true.mp z e (List.mem_reverse.mp (List.mem_of_getElem? he)))
            exact absurd q (by show ¬ _ ≤ e.1; omega)
          rw [ef] at k
          obtain ⟨b1, b2⟩ := back _ rfl
          exact k _ b1 b2
        · refine if_false_of (decide_eq_false (by omega)) ⟨_, rfl, rfl, ?_⟩
          intro p hp
          rw [take_more he] at hp
          rcases List.mem_append.mp hp with hp | hp
          · exact all p hp
          · rw [List.mem_singleton.mp hp]
            exact Nat.lt_of_not_le q
      · rintro σ H' ⟨z, rfl, rfl, all⟩
        refine ⟨upd_same, ?_⟩
        rw [D.len, List.take_length] at all
        have ef : (hs.all fun p => decide (p.1 < x.2.tick)) = true := List.all_eq_true.mpr fun p hp => decide_eq_true (all p (List.mem_reverse.mpr hp))
        rw [ef] at k
        obtain ⟨b1, b2⟩ := back _ rfl
        exact k _ b1 b2
def spTake (CL CC : Addr) : Sp := fun vs H Q _ => ∃ (F : Hp) (c dx cd : Addr) (u : V) (x : Nat × Ge11.Letter) (hs : List TV) (b : Ge11.View), vs = [.ref c, u] ∧ H c = some (.ins CC dx (fl clN [.ref cd])) ∧ Same F H ∧ F c = none ∧ LetterAt CL F x u ∧ ViewsAt F hs cd ∧
  baseOf hs x.2 = some b ∧ (∀ p ∈ hs, p.1 < x.2.tick) ∧ (∀ p ∈ hs, 1 ≤ p.1) ∧ Nd tk hs ∧ hs.length ≤ 100 ∧ Srt vk b ∧ Srt vk x.2.delta.put ∧ b.length ≤ 1000 ∧ x.2.delta.put.length ≤ 1000 ∧
  ∀ (H' : Hp) (cd' : Addr), SB c H H' → H' c = some (.ins CC dx (fl clN [.ref cd'])) → ViewsAt (ext F H H') ((x.2.tick, Ge11.patch b x.2.delta) :: hs.filter fun p => decide (x.2.since ≤ p.1)) cd' → Q .non H'
theorem scTake : FnScope ["self", "letter", "taken", "kept", "tick"] ["self", "letter"] (defScope sCliTake) := ⟨rfl, rfl, rfl, by decide +kernel, rfl, by decide +kernel, by decide +kernel⟩
theorem ok_take {f : Addr} {fd : FuncData} (F : Fun K "take" "Client.take" sCliTake f fd) (T : Cl K mg "Letter" CL leN) (TC : Cl K mg "Client" CC clN) (M : MethOk P w K mg base 1 CL "put_to" ["self", "view"] (spPatch CL)) :
    FnOk P w K mg base CX0 2 f fd ["self", "letter"] (spTake CL CC) := by
  obtain ⟨f1, fd1, G1, b1, m1⟩ := M.ex
  refine F.ok scTake (fun vs H Q E h => ?_) (fun cdv A outer s H vs Q E hr h => ?_)
  · obtain ⟨F, c, dx, cd, u, x, hs, b, rfl, _⟩ := h
    rfl
  · obtain ⟨F, c, dx, cd, u, x, hs, b, rfl, hc, sF, Fc, hL, ⟨kvs, hk, D⟩, hb, hlt, h1, hnd, hlen, sb, sp, lb, lp, k⟩ := h
    obtain ⟨a, da, pd, gl, rfl, ha, _, _⟩ := id hL
    have hu := hu_of hr
    have ha' := sF _ _ ha
    have hk' := sF _ _ hk
    refine ⟨_, pss_cons (ps_set (i := 2) scTake.nd rfl (Or.inl rfl) (pe_meth (pv 1) T.cl m1 G1 hr b1 .nil pass0 (pa_cons (pe_dget2 hu (pe_fld (pv 0) rfl) (pe_fld (pv 1) rfl) pe_dnewK ⟨rfl, rfl, rfl, rfl⟩) pa_nil)))
      (pss_cons (ps_set (i := 3) scTake.nd rfl (Or.inl rfl) pe_dnewK)
      (pss_cons (ps_lock (ps_for PassesOwn.never rfl (pi_keys (pe_fld (pv 0) rfl)) (pg_name (i := 4) scTake.nd rfl (Or.inl rfl))
        (pss_one (ps_if (pt_cmpR op_ge (pv 4) (pe_fld (pv 1) rfl) (nomark _)) (pss_one (ps_dput hu (pv 3) (pv 4) (pe_dget hu (pe_fld (pv 0) rfl) (pv 4) (fun _ _ => rfl)) rfl)) pss_nil))))
      (pss_cons (ps_dput hu (pv 3) (pe_fld (pv 1) rfl) (pv 2) rfl)
      (pss_one (ps_fld (pv 0) (pv 3) rfl))))), ?_⟩
    refine ⟨_, rfl, a, da, _, rfl, ha', fl_no (by decide +kernel), _, rfl, c, CC, dx, _, _, rfl, hc, TC.cl, TC.at 0, cl_views, cd, rfl, .inl ⟨kvs, .inl hk'⟩, _, rfl, a, CL, da, _, _, rfl, ha', T.cl, T.at 2, le_since, ?_⟩
    intro e he
    have s1 : Same H (upd H e (.dK [])) := same_upd he
    refine ⟨_, DGet.k (k := Sum.inl ((x.2.since : Nat) : Int)) (s1 _ _ hk'), ?_⟩
    have sF1 := sF.trans s1
    -- the view that it is since
    have hbase : ∃ d, (valV kvs (Sum.inl ((x.2.since : Nat) : Int))).getD (.ref e) = .ref d ∧ ViewP (upd F e (.dK [])) b d := by
      have sFe : Same F (upd F e (.dK [])) := same_upd (sF.free he)
      unfold baseOf at hb
      by_cases q : x.2.since = 0
      · rw [if_pos q] at hb
        cases hb
        have en : valV kvs (Sum.inl ((x.2.since : Nat) : Int)) = none := D.none_iff.mpr fun p hp z => by
          have := h1 p (List.mem_reverse.mp hp)
          have z' : p.1 = x.2.since := Int.ofNat.inj z
          omega
        rw [en]
        exact ⟨e, rfl, [], [], upd_same, DOf.nil, List.Perm.refl _⟩
      · rw [if_neg q] at hb
        obtain ⟨p, hp, rfl⟩ := Option.map_eq_some_iff.mp hb
        have hp1 := List.mem_of_find?_eq_some hp
        have hp2 : p.1 = x.2.since := by simpa using List.find?_some hp
        obtain ⟨v, hv, d, rfl, hd⟩ := D.get (nd_rev hnd) (List.mem_reverse.mpr hp1)
        have hv' : valV kvs (Sum.inl ((x.2.since : Nat) : Int)) = some (.ref d) := by rw [← hp2]; exact hv
        rw [hv']
        exact ⟨d, rfl, hd.mono sFe⟩
    obtain ⟨d, ed, hd⟩ := hbase
    rw [ed]
    have sFe : Same (upd F e (.dK [])) (upd H e (.dK [])) := fun b o q => by
      by_cases z : b = e
      · subst z
        rw [upd_same] at q ⊢
        exact q
      · rw [upd_ne z] at q ⊢
        exact sF b o q
    refine ⟨upd F e (.dK []), _, d, b, x, rfl, sFe, hL.mono (same_upd (sF.free he)), hd, sb, sp, lb, lp, fun H2 r s2 nr hr2 => ?_⟩
    have s02 : Same H H2 := s1.trans s2
    intro kd hkd
    generalize hH3 : upd H2 kd (.dK []) = H3
    have s03 : Same H H3 := s02.trans (hH3 ▸ same_upd hkd)
    have hkd3 : H3 kd = some (.dK []) := hH3 ▸ upd_same
    have hkd0 : H kd = none := s02.free hkd
    have ncd : c ≠ cd := ne_of hc hk' (by intro z; cases z)
    have nad : a ≠ cd := ne_of ha' hk' (by intro z; cases z)
    have nkc : cd ≠ kd := ne_of_none hk' hkd0
    refine ⟨cd, .dK kvs, s03 _ _ hk', trivial, fun od => ?_⟩
    refine ⟨_, rfl, c, CC, dx, _, _, rfl, Eq.trans (upd_ne ncd) (s03 _ _ hc), TC.cl, TC.at 0, cl_views, cd, od, rfl, .inl ⟨kvs, upd_same, ?_⟩⟩
    refine for_it walk_keys (fun i σ H' => ∃ (z : Option V) (kv : List (Key × V)), σ = [some (.ref c), some (.ref a), some (.ref r), some (.ref kd), z] ∧ (∀ b o, H3 b = some o → b ≠ cd → b ≠ kd → H' b = some o) ∧ H' cd = some (.frz od (.dK kvs)) ∧ H' kd = some (.dK kv) ∧
        DOf tk (ViewPV F) kv ((hs.reverse.take i).filter fun p => decide (x.2.since ≤ p.1)))
      ⟨none, [], rfl, fun b o hb n1 n2 => Eq.trans (upd_ne n1) hb, upd_same, Eq.trans (upd_ne nkc.symm) hkd3, DOf.nil⟩ (fun i σ H' _ ⟨_, _, _, _, q, _⟩ => q) ?_ ?_
    · rintro i y σ H' H'' hi ⟨z, kv, rfl, sH, h1', h2', dk⟩ ⟨rfl, kk, vv, hkk, rfl⟩
      obtain ⟨p, hp, rfl, rp⟩ := enc_at D hkk
      have gc := sH _ _ (s03 _ _ hc) ncd (ne_of_none hc hkd0)
      have ga := sH _ _ (s03 _ _ ha') nad (ne_of_none ha' hkd0)
      have step := take_filter (fun p : TV => decide (x.2.since ≤ p.1)) hp
      refine ⟨_, rfl, _, rfl, a, CL, da, _, _, rfl, ga, T.cl, T.at 2, le_since, _, _, rfl, rfl, _, rfl, ?_⟩
      by_cases q : x.2.since ≤ p.1
      · rw [if_pos (decide_eq_true q)] at step
        obtain ⟨pv', g1, g2⟩ := D.get (nd_rev hnd) (List.mem_of_getElem? hp)
        refine if_true_of (decide_eq_true (by show ((x.2.since : Nat) : Int) ≤ ((p.1 : Nat) : Int); omega)) ?_
        refine ⟨_, rfl, c, CC, dx, _, _, rfl, gc, TC.cl, TC.at 0, cl_views, _, rfl, cd, pv', rfl, .inl ⟨kvs, Sum.inl ((tk p : Nat) : Int), .inr ⟨od, h1'⟩, rfl, g1.symm⟩, _, rfl, _, rfl, kd, _, rfl, DPut.k (k := Sum.inl ((tk p : Nat) : Int)) h2' ?_, ?_⟩
        · rw [dk.len]
          refine Nat.lt_of_le_of_lt (List.length_filter_le _ _) ?_
          rw [List.length_take, List.length_reverse]
          have : (100 : Nat) < sizeLine := by decide
          omega
        · refine ⟨_, _, rfl, fun b o hb n1 n2 => Eq.trans (upd_ne n2) (sH b o hb n1 n2), Eq.trans (upd_ne nkc) h1', upd_same, ?_⟩
          rw [step]
          exact dk.add (fun y hy => nd_at (nd_rev hnd) hp (List.mem_filter.mp hy).1) g2
      · rw [if_neg (by rw [decide_eq_true_eq]; exact q), List.append_nil] at step
        refine if_false_of (decide_eq_false (by show ¬ ((x.2.since : Nat) : Int) ≤ ((p.1 : Nat) : Int); omega)) ?_
        refine ⟨_, kv, rfl, sH, h1', h2', ?_⟩
        rw [step]
        exact dk
    · rintro σ H' ⟨z, kv, rfl, sH, h1', h2', dk⟩
      refine ⟨h1', ?_⟩
      rw [D.len, List.take_length] at dk
      generalize hH4 : upd H' cd (.dK kvs) = H4
      have s4 : SB kd H3 H4 := fun b o hb n => by
        rw [← hH4]
        by_cases q : b = cd
        · subst q
          rw [upd_same, ← s03 _ _ hk', hb]
        · rw [upd_ne q]
          exact sH b o hb q n
      have hkd4 : H4 kd = some (.dK kv) := by rw [← hH4, upd_ne nkc.symm]; exact h2'
      have gc4 := s4 _ _ (s03 _ _ hc) (ne_of_none hc hkd0)
      have ga4 := s4 _ _ (s03 _ _ ha') (ne_of_none ha' hkd0)
      refine ⟨_, rfl, _, rfl, _, rfl, a, CL, da, _, _, rfl, ga4, T.cl, T.at 1, le_tick, kd, _, rfl, DPut.k (k := Sum.inl ((x.2.tick : Nat) : Int)) hkd4 ?_, ?_⟩
      · rw [dk.len]
        refine Nat.lt_of_le_of_lt (List.length_filter_le _ _) ?_
        rw [List.length_reverse]
        have : (100 : Nat) < sizeLine := by decide
        omega
      generalize hH5 : upd H4 kd (.dK (putK kv (Sum.inl ((x.2.tick : Nat) : Int)) (.ref r))) = H5
      have hkd5 : H5 kd = some (.dK (putK kv (Sum.inl ((x.2.tick : Nat) : Int)) (.ref r))) := hH5 ▸ upd_same
      have s5 : SB kd H3 H5 := s4.trans (hH5 ▸ SB.upd H4 kd _)
      refine ⟨_, rfl, _, rfl, c, CC, dx, _, rfl, s5 _ _ (s03 _ _ hc) (ne_of_none hc hkd0), TC.cl, TC.at 0, fl_few (by show 1 < 1000; decide), ?_⟩
      rw [fl_put (k := "views") 0 (by decide +kernel) rfl]
      have nkdc : kd ≠ c := (ne_of_none hc hkd0).symm
      refine k _ kd (fun b o hb n => ?_) upd_same ⟨_, Eq.trans (ext_new hkd0) (Eq.trans (upd_ne nkdc) hkd5), ?_⟩
      · rw [upd_ne n]
        exact s5 b o (s03 b o hb) (ne_of_none hb hkd0)
      · rw [List.reverse_cons, ← List.filter_reverse]
        have dk' := dk.mono (R' := ViewPV (ext F H (upd H5 c (.ins CC dx (fl clN [V.ref kd]))))) fun p v _ q => q.mono (ext_sub sF)
        refine dk'.add (x := (x.2.tick, Ge11.patch b x.2.delta)) (fun y hy => ?_) ⟨r, rfl, hr2.mono ?_⟩
        · have := hlt y (List.mem_reverse.mp (List.mem_filter.mp hy).1)
          exact Nat.ne_of_lt this
        · intro b o q
          cases eb : H b with
          | some z =>
            rw [ext_old (s1 b z eb)] at q
            rw [ext_old eb]
            rw [upd_ne (ne_of_none eb he)] at q
            exact q
          | none =>
            have nbc : b ≠ c := (ne_of_none hc eb).symm
            rw [ext_new eb, upd_ne nbc]
            have q2 : H2 b = some o := ext_in sFe s2 b o q
            have nbk : b ≠ kd := ne_of_none q2 hkd
            exact s5 b o ((hH3 ▸ same_upd hkd : Same H2 H3) b o q2) nbk
end
end Net

set_option Elab.async false
set_option linter.all false
set_option maxRecDepth 100000
set_option maxHeartbeats 2000000
/-! max of four ints -/
namespace Net
open PySem PySem.Spec PyProof.Rows L2 NM
section
variable {prog : Program} {w : World} {A : Around} {E : Value → Shared → Prop} {s : Shared}
theorem args_max4 (p q r z : Value) : argsOk "max" ⟨[p, q, r, z], []⟩ := by
  unfold argsOk
  kernel_rfl
theorem max_four {p q r z : Value} {Q : Value → Shared → Prop}
    (hit : wpAny (model prog w) A.in1 (pyIter (.ref s.heap.objs.size)) (fun it t => ∃ I fp wr n P St bt, it = .ref I ∧ Walks prog w A.in1 I fp wr n P St ∧ St 0 t.heap ∧ (∀ b ∈ fp, b < t.heap.objs.size) ∧ 0 < n ∧ CmpOf prog w A.in1 .Gt P bt ∧
      ∀ v h' tk, P (argBest bt (n - 1)) v → (∀ b o, b ∉ wr → t.heap.get? b = some o → h'.get? b = some o) → Q v { t with heap := h', toks := tk }) E
      { s with heap := s.heap.push { cls := .type "tuple", data := .seq #[p, q, r, z] } }) :
    wpAny (model prog w) A (call (.builtin "max") [p, q, r, z]) Q E s := by
  have nm : (toString "max" ++ toString ".loop" : String) = "max.loop" := by decide
  refine call_function_tree F.kind_max F.plain_max F.entry_max (args_max4 _ _ _ _) ?_
  show wpAny _ A.in1 (Builtin.Builtins.bindParams "max" ["key", "default"] 0 ⟨[], []⟩ >>= _) _ E s
  refine wpAny_bind (wpAny_of_eq (show _ = pure [none, none] from rfl) ?_)
  show wpAny _ A.in1 (newTuple [p, q, r, z] >>= _) _ _ s
  refine wpAny_bind (wpAny_newObj_type (wpAny_bind (wpAny_mono hit (fun it t ht => ?_) fun _ _ e => e)))
  obtain ⟨I, fp, wr, n, P, St, bt, rfl, W, st, inb, pos, cmp, fin⟩ := ht
  refine wpAny_bind (wpAny_newObj_type ?_)
  rw [nm]
  have out : t.heap.objs.size ∉ fp := fun m => Nat.lt_irrefl _ (inb _ m)
  refine wpAny_pure ⟨plainId_quiet F.plain_max_loop _, codeAny_max_loop_first W bt cmp t.heap.objs.size out pos (W.frame _ _ _ st fun b _ o e => Heap.get?_push_of_some _ e) (Heap.get?_push_size _ rfl) fun v h' tk hv hk => ?_⟩
  refine fin v h' tk hv fun b o nb e => ?_
  exact hk b o nb (Nat.ne_of_lt (Heap.lt_size e)) (Heap.get?_push_of_some _ e)
theorem max_four_ints {a b c d : Int} {t u x y : Tok} {Q : Value → Shared → Prop} (hh : A.handled = none)
    (h : ∀ h' tk z, (∀ e o, s.heap.get? e = some o → h'.get? e = some o) → Q (.int (max (max (max a b) c) d) z) { s with heap := h', toks := tk }) :
    wpAny (model prog w) A (call (.builtin "max") [.int a t, .int b u, .int c x, .int d y]) Q E s := by
  let arr : Array (Int × Tok) := #[(a, t), (b, u), (c, x), (d, y)]
  have hT : (s.heap.push { cls := .type "tuple", data := .seq #[.int a t, .int b u, .int c x, .int d y] }).IsTuple s.heap.objs.size (intItems arr) :=
    ⟨_, Heap.get?_push_size _ rfl, rfl, 0, by simp [intItems, arr]⟩
  refine max_four (wpAny_pyIter_tuple hT ?_)
  have sz : (s.heap.push { cls := .type "tuple", data := .seq #[.int a t, .int b u, .int c x, .int d y] }).objs.size = s.heap.objs.size + 1 := Heap.size_push ..
  refine ⟨_, [_, s.heap.objs.size], [_], _, _, _, _, rfl, Walks.tuple (A := A.in1) hh _ s.heap.objs.size (by rw [sz]; exact Nat.ne_of_lt (Nat.lt_succ_self _)) (intItems arr), ⟨⟨_, Heap.get?_push_size _ rfl, rfl, rfl⟩, hT.push _⟩, fun e he => ?_, by simp [intItems, arr], CmpOf.ints_gt (numAt arr) (fun _ _ => intItems_at), fun v h' tk hP hk => ?_⟩
  · show e < ((s.heap.push _).push _).objs.size
    rw [Heap.size_push, sz]
    rcases List.mem_cons.mp he with q | q
    · rw [q]
      show (s.heap.push _).objs.size < _
      rw [sz]
      exact Nat.lt_succ_self _
    · rw [List.mem_singleton.mp q]
      exact Nat.lt_succ_of_lt (Nat.lt_succ_self _)
  · have hold : ∀ e o, s.heap.get? e = some o → h'.get? e = some o := fun e o q => by
      refine hk e o (fun hm => ?_) (Heap.get?_push_of_some _ (Heap.get?_push_of_some _ q))
      have e1 := List.mem_singleton.mp hm
      have lt := Heap.lt_size q
      rw [e1] at lt
      have lt : (s.heap.push _).objs.size < s.heap.objs.size := lt
      rw [sz] at lt
      exact Nat.lt_irrefl _ (Nat.lt_of_succ_lt lt)
    have s4 : (intItems arr).size - 1 = 3 := by simp [intItems, arr]
    rw [s4] at hP
    obtain ⟨z, rfl⟩ := intItems_at hP
    have e : numAt arr (argBest (fun i j => decide (numAt arr i > numAt arr j)) 3) = max (max (max a b) c) d := by
      have n0 : numAt arr 0 = a := rfl
      have n1 : numAt arr 1 = b := rfl
      have n2 : numAt arr 2 = c := rfl
      have n3 : numAt arr 3 = d := rfl
      generalize numAt arr = f at n0 n1 n2 n3
      have e1 : f (argBest (fun i j => decide (f i > f j)) 1) = max a b := by
        show f (if decide (f 1 > f 0) = true then 1 else 0) = _
        rw [n0, n1]
        split
        · rename_i q
          have q := of_decide_eq_true q
          rw [n1]
          omega
        · rename_i q
          have q : ¬ b > a := fun z => q (decide_eq_true z)
          rw [n0]
          omega
      have e2 : f (argBest (fun i j => decide (f i > f j)) 2) = max (max a b) c := by
        show f (if decide (f 2 > f (argBest (fun i j => decide (f i > f j)) 1)) = true then 2 else argBest (fun i j => decide (f i > f j)) 1) = _
        rw [e1, n2]
        split
        · rename_i q
          have q := of_decide_eq_true q
          rw [n2]
          omega
        · rename_i q
          have q : ¬ c > max a b := fun z => q (decide_eq_true z)
          rw [e1]
          omega
      show f (if decide (f 3 > f (argBest (fun i j => decide (f i > f j)) 2)) = true then 3 else argBest (fun i j => decide (f i > f j)) 2) = _
      rw [e2, n3]
      split
      · rename_i q
        have q := of_decide_eq_true q
        rw [n3]
        omega
      · rename_i q
        have q : ¬ d > max (max a b) c := fun z => q (decide_eq_true z)
        rw [e2]
        omega
    rw [e]
    exact h h' tk z hold
end
theorem call_max4 {X : Cx} (hc : X.calm = true) : CallR X (.builtin "max") (fun xs H Q => ∃ a b c d : Int, xs = [.int a, .int b, .int c, .int d] ∧ Q (.int (max (max (max a b) c) d)) H) := by
  intro pins s σ H xs us Q I r h
  obtain ⟨a, b, c, d, rfl, q⟩ := h
  cases r with
  | cons r1 r =>
    cases r with
    | cons r2 r =>
      cases r with
      | cons r3 r =>
        cases r with
        | cons r4 r =>
          cases r
          obtain ⟨t1, rfl⟩ := r1
          obtain ⟨t2, rfl⟩ := r2
          obtain ⟨t3, rfl⟩ := r3
          obtain ⟨t4, rfl⟩ := r4
          exact max_four_ints (I.ok.hd hc) fun h' tk z k => ⟨.int (max (max (max a b) c) d), H, I.kept k, ⟨z, rfl⟩, q⟩
end Net

set_option Elab.async false
set_option linter.all false
set_option maxRecDepth 100000
set_option maxHeartbeats 2000000
namespace Net
open PySem PySem.Spec PyProof.Rows L2 NM
/-! ### Word, Player, Server: made -/
abbrev woN : List Str := ["sender", "tick"]
abbrev plN : List Str := ["own", "far", "known", "sent", "client"]
abbrev seN : List Str := ["things", "players", "ticks", "letters", "words"]
theorem wo_new (x y : V) : putF "tick" y (putF "sender" x (fl [] [])) = fl woN [x, y] := by
  rw [fl_new (k := "sender") rfl rfl, fl_new (k := "tick") (by decide +kernel) rfl]
  rfl
theorem pl_new (o f k s c : V) : putF "client" c (putF "sent" s (putF "known" k (putF "far" f (putF "own" o (fl [] []))))) = fl plN [o, f, k, s, c] := by
  rw [fl_new (k := "own") rfl rfl, fl_new (k := "far") (by decide +kernel) rfl, fl_new (k := "known") (by decide +kernel) rfl, fl_new (k := "sent") (by decide +kernel) rfl, fl_new (k := "client") (by decide +kernel) rfl]
  rfl
theorem se_new (o f k s c : V) : putF "words" c (putF "letters" s (putF "ticks" k (putF "players" f (putF "things" o (fl [] []))))) = fl seN [o, f, k, s, c] := by
  rw [fl_new (k := "things") rfl rfl, fl_new (k := "players") (by decide +kernel) rfl, fl_new (k := "ticks") (by decide +kernel) rfl, fl_new (k := "letters") (by decide +kernel) rfl, fl_new (k := "words") (by decide +kernel) rfl]
  rfl
section
variable {P : Program} {w : World} {K : PySem.W.Frag} {mg : Str → Option Value} {base : Heap} {CW CP CC CS : Addr}
def spWordI (C : Addr) : Sp := fun vs H Q _ => ∃ (p dx : Addr) (x y : V), vs = [.ref p, x, y] ∧ H p = some (.ins C dx []) ∧ Q .non (upd H p (.ins C dx (fl woN [x, y])))
theorem scWordI : FnScope ["self", "sender", "tick"] ["self", "sender", "tick"] (defScope sWordI) := ⟨rfl, rfl, rfl, by decide +kernel, rfl, by decide +kernel, by decide +kernel⟩
theorem ok_wordI {f : Addr} {fd : FuncData} (F : Fun K "__init__" "Word.__init__" sWordI f fd) (T : Cl K mg "Word" CW woN) : FnOk P w K mg base CX0 1 f fd ["self", "sender", "tick"] (spWordI CW) := by
  refine F.ok scWordI (fun vs H Q E h => ?_) (fun cdv A outer s H vs Q E hr h => ?_)
  · obtain ⟨p, dx, x, y, rfl, _⟩ := h
    rfl
  · obtain ⟨p, dx, x, y, rfl, hp, k⟩ := h
    refine ⟨_, pss_cons (ps_fld (pv 0) (pv 1) rfl) (pss_one (ps_fld (pv 0) (pv 2) rfl)), ?_⟩
    refine ⟨_, rfl, _, rfl, p, CW, dx, fl [] [], rfl, hp, T.cl, T.at 0, fl_few, ?_⟩
    refine ⟨_, rfl, _, rfl, p, CW, dx, _, rfl, upd_same, T.cl, T.at 1, few_put fl_few, ?_⟩
    rw [wo_new, upd_upd]
    exact k
def spPlaI (CP CC : Addr) : Sp := fun vs H Q _ => ∃ (p dx : Addr) (o f : V), vs = [.ref p, o, f] ∧ H p = some (.ins CP dx []) ∧
  ∀ (H' : Hp) (sd e ca cdx cd : Addr), SB p H H' → H sd = none → H e = none → H ca = none → H cd = none →
    H' p = some (.ins CP dx (fl plN [o, f, .int 0, .ref sd, .ref ca])) → H' sd = some (.dK [(Sum.inl 0, .ref e)]) → H' e = some (.dK []) → H' ca = some (.ins CC cdx (fl clN [.ref cd])) → H' cd = some (.dK []) → Q .non H'
theorem scPlaI : FnScope ["self", "own", "far"] ["self", "own", "far"] (defScope sPlaI) := ⟨rfl, rfl, rfl, by decide +kernel, rfl, by decide +kernel, by decide +kernel⟩
theorem ok_plaI {f : Addr} {fd : FuncData} (F : Fun K "__init__" "Player.__init__" sPlaI f fd) (T : Cl K mg "Player" CP plN) (TC : Cl K mg "Client" CC clN) (M : MakeOk P w K mg base 1 CC ["self"] (spCliI CC)) :
    FnOk P w K mg base CX0 3 f fd ["self", "own", "far"] (spPlaI CP CC) := by
  obtain ⟨f1, fd1, G1, b1, m1⟩ := M.ex
  refine F.ok scPlaI (fun vs H Q E h => ?_) (fun cdv A outer s H vs Q E hr h => ?_)
  · obtain ⟨p, dx, x, y, rfl, _⟩ := h
    rfl
  · obtain ⟨p, dx, x, y, rfl, hp, k⟩ := h
    refine ⟨_, pss_cons (ps_fld (pv 0) (pv 1) rfl) (pss_cons (ps_fld (pv 0) (pv 2) rfl) (pss_cons (ps_fld (pv 0) pe_int rfl)
      (pss_cons (ps_fld (pv 0) (pe_disp (pps_cons pe_int pe_dnewK pps_nil) (by rfl) (by rfl) (fun z => by cases z) (by decide)) rfl)
      (pss_one (ps_fld (pv 0) (pe_make0 m1 G1 hr rfl TC.mg b1 .nil pass0) rfl))))), ?_⟩
    refine ⟨_, rfl, _, rfl, p, CP, dx, fl [] [], rfl, hp, T.cl, T.at 0, fl_few, ?_⟩
    refine ⟨_, rfl, _, rfl, p, CP, dx, _, rfl, upd_same, T.cl, T.at 1, few_put fl_few, ?_⟩
    refine ⟨_, rfl, p, CP, dx, _, rfl, upd_same, T.cl, T.at 2, few_put (few_put fl_few), ?_⟩
    rw [upd_upd, upd_upd]
    generalize hH1 : upd H p (.ins CP dx (putF "known" (V.int 0) (putF "far" y (putF "own" x (fl [] []))))) = H1
    have q1 : SB p H H1 := hH1 ▸ SB.upd H p _
    have e1 : H1 p = some (.ins CP dx (putF "known" (V.int 0) (putF "far" y (putF "own" x (fl [] []))))) := hH1 ▸ upd_same
    intro sd hsd e he
    have nes : sd ≠ e := fun z => by
      rw [← z, upd_same] at he
      cases he
    have he1 : H1 e = none := by
      rw [upd_ne nes.symm] at he
      exact he
    refine ⟨Eq.trans (upd_ne nes) upd_same, [(Sum.inl 0, .ref e)], rfl, (by show 1 ≤ 15; decide), ?_⟩
    have em : mergeK [] [((Sum.inl 0 : Key), V.ref e)] = [(Sum.inl 0, V.ref e)] := rfl
    rw [em]
    generalize hH2 : upd (upd (upd H1 sd (.dK [])) e (.dK [])) sd (.dK [(Sum.inl 0, .ref e)]) = H2
    have s2 : Same H1 H2 := fun b o hb => by
      rw [← hH2, upd_ne (ne_of_none hb hsd), upd_ne (ne_of_none hb he1), upd_ne (ne_of_none hb hsd)]
      exact hb
    have hsd2 : H2 sd = some (.dK [(Sum.inl 0, .ref e)]) := hH2 ▸ upd_same
    have he2 : H2 e = some (.dK []) := by
      rw [← hH2, upd_ne nes.symm, upd_same]
    refine ⟨_, rfl, p, CP, dx, _, rfl, s2 _ _ e1, T.cl, T.at 3, few_put (few_put (few_put fl_few)), ?_⟩
    generalize hH3 : upd H2 p (.ins CP dx (putF "sent" (V.ref sd) (putF "known" (V.int 0) (putF "far" y (putF "own" x (fl [] [])))))) = H3
    have q3 : SB p H2 H3 := hH3 ▸ SB.upd H2 p _
    have e3 : H3 p = some (.ins CP dx (putF "sent" (V.ref sd) (putF "known" (V.int 0) (putF "far" y (putF "own" x (fl [] [])))))) := hH3 ▸ upd_same
    have q13 : SB p H H3 := (q1.trans (SB.of s2)).trans q3
    have nsp : sd ≠ p := (ne_of_none e1 hsd).symm
    have nep : e ≠ p := (ne_of_none e1 he1).symm
    intro ca cdx nca ncd nx
    refine ⟨ca, cdx, rfl, upd_same, fun cd hcd => ⟨rfl, ?_⟩⟩
    have nca3 : p ≠ ca := ne_of_none e3 nca
    have ncx3 : p ≠ cdx := ne_of_none e3 ncd
    have hcd' : cd ≠ ca := fun z => by
      rw [z, upd_same] at hcd
      cases hcd
    have hcd2 : cd ≠ cdx := fun z => by
      rw [upd_ne hcd', z, upd_same] at hcd
      cases hcd
    have hcd3 : H3 cd = none := by
      rw [upd_ne hcd', upd_ne hcd2] at hcd
      exact hcd
    generalize hH4 : upd (upd (upd (upd H3 cdx (.own ca)) ca (.ins CC cdx [])) cd (.dK [])) ca (.ins CC cdx (fl clN [V.ref cd])) = H4
    have s4 : Same H3 H4 := fun b o hb => by
      rw [← hH4, upd_ne (ne_of_none hb nca), upd_ne (ne_of_none hb hcd3), upd_ne (ne_of_none hb nca), upd_ne (ne_of_none hb ncd)]
      exact hb
    have hca4 : H4 ca = some (.ins CC cdx (fl clN [V.ref cd])) := hH4 ▸ upd_same
    have hcd4 : H4 cd = some (.dK []) := by
      rw [← hH4, upd_ne hcd', upd_same]
    refine ⟨_, rfl, p, CP, dx, _, rfl, s4 _ _ e3, T.cl, T.at 4, few_put (few_put (few_put (few_put fl_few))), ?_⟩
    rw [pl_new]
    have q5 : SB p H4 (upd H4 p (.ins CP dx (fl plN [x, y, V.int 0, V.ref sd, V.ref ca]))) := SB.upd H4 p _
    have ncdp : cd ≠ p := (ne_of_none e3 hcd3).symm
    refine k _ sd e ca cdx cd ((q13.trans (SB.of s4)).trans q5) (q1.free nsp hsd) (q1.free nep he1) (q13.free nca3.symm nca) (q13.free ncdp hcd3) upd_same ?_ ?_ ?_ ?_
    · exact q5 _ _ (s4 _ _ (q3 _ _ hsd2 nsp)) nsp
    · exact q5 _ _ (s4 _ _ (q3 _ _ he2 nep)) nep
    · exact q5 _ _ hca4 nca3.symm
    · exact q5 _ _ hcd4 ncdp
def spSrvI (C : Addr) : Sp := fun vs H Q _ => ∃ (p dx : Addr), vs = [.ref p] ∧ H p = some (.ins C dx []) ∧
  ∀ (H' : Hp) (dT lP lL lW : Addr), SB p H H' → H dT = none → H lP = none → H lL = none → H lW = none → [dT, lP, lL, lW].Nodup →
    H' p = some (.ins C dx (fl seN [.ref dT, .ref lP, .int 0, .ref lL, .ref lW])) → H' dT = some (.dK []) → H' lP = some (.lst []) → H' lL = some (.lst []) → H' lW = some (.lst []) → Q .non H'
theorem scSrvI : FnScope ["self"] ["self"] (defScope sSrvI) := ⟨rfl, rfl, rfl, by decide +kernel, rfl, by decide +kernel, by decide +kernel⟩
theorem ok_srvI {f : Addr} {fd : FuncData} (F : Fun K "__init__" "Server.__init__" sSrvI f fd) (T : Cl K mg "Server" CS seN) : FnOk P w K mg base CX0 1 f fd ["self"] (spSrvI CS) := by
  refine F.ok scSrvI (fun vs H Q E h => ?_) (fun cdv A outer s H vs Q E hr h => ?_)
  · obtain ⟨p, dx, rfl, _⟩ := h
    rfl
  · obtain ⟨p, dx, rfl, hp, k⟩ := h
    refine ⟨_, pss_cons (ps_fld (pv 0) pe_dnewK rfl) (pss_cons (ps_fld (pv 0) (pe_lst pa_nil) rfl) (pss_cons (ps_fld (pv 0) pe_int rfl)
      (pss_cons (ps_fld (pv 0) (pe_lst pa_nil) rfl) (pss_one (ps_fld (pv 0) (pe_lst pa_nil) rfl))))), ?_⟩
    intro dT h1
    have n1 : p ≠ dT := ne_of_none hp h1
    refine ⟨_, rfl, p, CS, dx, fl [] [], rfl, Eq.trans (upd_ne n1) hp, T.cl, T.at 0, fl_few, ?_⟩
    generalize e1 : upd (upd H dT (.dK [])) p (.ins CS dx (putF "things" (V.ref dT) (fl [] []))) = H1
    have p1 : H1 p = some (.ins CS dx (putF "things" (V.ref dT) (fl [] []))) := e1 ▸ upd_same
    have s1 : SB p H H1 := e1 ▸ (SB.of (same_upd h1)).trans (SB.upd _ p _)
    have d1 : H1 dT = some (.dK []) := by rw [← e1, upd_ne n1.symm, upd_same]
    refine ⟨Nat.zero_le _, fun lP h2 => ?_⟩
    have n2 : p ≠ lP := ne_of_none p1 h2
    refine ⟨_, rfl, p, CS, dx, _, rfl, Eq.trans (upd_ne n2) p1, T.cl, T.at 1, few_put fl_few, ?_⟩
    refine ⟨_, rfl, p, CS, dx, _, rfl, upd_same, T.cl, T.at 2, few_put (few_put fl_few), ?_⟩
    rw [upd_upd]
    generalize e2 : upd (upd H1 lP (.lst [])) p (.ins CS dx (putF "ticks" (V.int 0) (putF "players" (V.ref lP) (putF "things" (V.ref dT) (fl [] []))))) = H2
    have p2 : H2 p = some (.ins CS dx (putF "ticks" (V.int 0) (putF "players" (V.ref lP) (putF "things" (V.ref dT) (fl [] []))))) := e2 ▸ upd_same
    have s2 : SB p H1 H2 := e2 ▸ (SB.of (same_upd h2)).trans (SB.upd _ p _)
    have d2 : H2 lP = some (.lst []) := by rw [← e2, upd_ne n2.symm, upd_same]
    refine ⟨Nat.zero_le _, fun lL h3 => ?_⟩
    have n3 : p ≠ lL := ne_of_none p2 h3
    refine ⟨_, rfl, p, CS, dx, _, rfl, Eq.trans (upd_ne n3) p2, T.cl, T.at 3, few_put (few_put (few_put fl_few)), ?_⟩
    generalize e3 : upd (upd H2 lL (.lst [])) p (.ins CS dx (putF "letters" (V.ref lL) (putF "ticks" (V.int 0) (putF "players" (V.ref lP) (putF "things" (V.ref dT) (fl [] [])))))) = H3
    have p3 : H3 p = some (.ins CS dx (putF "letters" (V.ref lL) (putF "ticks" (V.int 0) (putF "players" (V.ref lP) (putF "things" (V.ref dT) (fl [] [])))))) := e3 ▸ upd_same
    have s3 : SB p H2 H3 := e3 ▸ (SB.of (same_upd h3)).trans (SB.upd _ p _)
    have d3 : H3 lL = some (.lst []) := by rw [← e3, upd_ne n3.symm, upd_same]
    refine ⟨Nat.zero_le _, fun lW h4 => ?_⟩
    have n4 : p ≠ lW := ne_of_none p3 h4
    refine ⟨_, rfl, p, CS, dx, _, rfl, Eq.trans (upd_ne n4) p3, T.cl, T.at 4, few_put (few_put (few_put (few_put fl_few))), ?_⟩
    rw [se_new]
    have s4 : SB p H3 (upd (upd H3 lW (.lst [])) p (.ins CS dx (fl seN [V.ref dT, V.ref lP, V.int 0, V.ref lL, V.ref lW]))) := (SB.of (same_upd h4)).trans (SB.upd _ p _)
    have a1 : dT ≠ lP := ne_of_none d1 h2
    have a2 : dT ≠ lL := ne_of_none (s2 _ _ d1 n1.symm) h3
    have a3 : dT ≠ lW := ne_of_none (s3 _ _ (s2 _ _ d1 n1.symm) n1.symm) h4
    have a4 : lP ≠ lL := ne_of_none d2 h3
    have a5 : lP ≠ lW := ne_of_none (s3 _ _ d2 n2.symm) h4
    have a6 : lL ≠ lW := ne_of_none d3 h4
    refine k _ dT lP lL lW (((s1.trans s2).trans s3).trans s4) h1 (s1.free n2.symm h2) ((s1.trans s2).free n3.symm h3) (((s1.trans s2).trans s3).free n4.symm h4) ?_ upd_same ?_ ?_ ?_ ?_
    · simp [a1, a2, a3, a4, a5, a6]
    · exact s4 _ _ (s3 _ _ (s2 _ _ d1 n1.symm) n1.symm) n1.symm
    · exact s4 _ _ (s3 _ _ d2 n2.symm) n2.symm
    · exact s4 _ _ d3 n3.symm
    · rw [upd_ne n4.symm, upd_same]
end
end Net

set_option Elab.async false
set_option linter.all false
set_option maxRecDepth 100000
set_option maxHeartbeats 2000000
namespace Net
open PySem PySem.Spec PyProof.Rows L2 NM
/-! ### how the state lies in the heap -/
structure Cs where
  CT : Addr
  CL : Addr
  CC : Addr
  CP : Addr
  CW : Addr
  CS : Addr
inductive Tag where
  | srv | things | pls | lets | words | pl (i : Nat) | cl (i : Nat) | snt (i : Nat)
structure PRec where
  p : Ge11.Player
  hist : List TV
  pa : Addr
  pdx : Addr
  ca : Addr
  cdx : Addr
  sd : Addr
  cd : Addr
structure Ad where
  s : Addr
  sdx : Addr
  dT : Addr
  lP : Addr
  lL : Addr
  lW : Addr
  pr : List PRec
  tag : Addr → Option Tag
def ViewDV (F : Hp) (p : TV) (u : V) : Prop := ∃ d, u = .ref d ∧ ViewD F p.2 d
theorem ViewDV.mono {F F' : Hp} {p : TV} {u : V} (s : Same F F') (h : ViewDV F p u) : ViewDV F' p u := by
  obtain ⟨d, e, h⟩ := h
  exact ⟨d, e, h.mono s⟩
def WordAt (C : Addr) (F : Hp) (x : Nat × Nat) (v : V) : Prop := ∃ a dx, v = .ref a ∧ F a = some (.ins C dx (fl woN [nV x.1, nV x.2]))
theorem WordAt.mono {C : Addr} {F F' : Hp} {x : Nat × Nat} {v : V} (s : Same F F') (h : WordAt C F x v) : WordAt C F' x v := by
  obtain ⟨a, dx, e, h⟩ := h
  exact ⟨a, dx, e, s _ _ h⟩
/-- a list of things, each told -/
def LstOf {α : Type} (R : α → V → Prop) (xs : List V) (es : List α) : Prop := ∃ L : List (α × V), xs = L.map (·.2) ∧ L.map (·.1) = es ∧ ∀ q ∈ L, R q.1 q.2
section
variable {α : Type} {R R' : α → V → Prop} {xs : List V} {es : List α}
theorem LstOf.mono (h : LstOf R xs es) (k : ∀ x v, R x v → R' x v) : LstOf R' xs es := by
  obtain ⟨L, e1, e2, h⟩ := h
  exact ⟨L, e1, e2, fun q hq => k _ _ (h q hq)⟩
theorem LstOf.nil : LstOf R [] [] := ⟨[], rfl, rfl, fun _ h => nomatch h⟩
theorem LstOf.len (h : LstOf R xs es) : xs.length = es.length := by
  obtain ⟨L, rfl, rfl, _⟩ := h
  rw [List.length_map, List.length_map]
theorem LstOf.snoc (h : LstOf R xs es) {x : α} {v : V} (r : R x v) : LstOf R (xs ++ [v]) (es ++ [x]) := by
  obtain ⟨L, rfl, rfl, h⟩ := h
  refine ⟨L ++ [(x, v)], by rw [List.map_append]; rfl, by rw [List.map_append]; rfl, fun q hq => ?_⟩
  rcases List.mem_append.mp hq with hq | hq
  · exact h q hq
  · rw [List.mem_singleton.mp hq]
    exact r
theorem LstOf.get (h : LstOf R xs es) {i : Nat} {x : α} (hx : es[i]? = some x) : ∃ v, xs[i]? = some v ∧ R x v := by
  obtain ⟨L, rfl, rfl, h⟩ := h
  obtain ⟨q, hq, rfl⟩ := map_at hx
  exact ⟨q.2, by rw [List.getElem?_map, hq]; rfl, h q (List.mem_of_getElem? hq)⟩
theorem erase_map {β γ : Type} {f : β → γ} : ∀ (l : List β) (i : Nat), (l.map f).eraseIdx i = (l.eraseIdx i).map f
  | [], _ => rfl
  | _ :: _, 0 => rfl
  | a :: l, i + 1 => by
    show f a :: (l.map f).eraseIdx i = f a :: (l.eraseIdx i).map f
    rw [erase_map l i]
theorem LstOf.erase (h : LstOf R xs es) (i : Nat) : LstOf R (xs.eraseIdx i) (es.eraseIdx i) := by
  obtain ⟨L, rfl, rfl, h⟩ := h
  exact ⟨L.eraseIdx i, erase_map _ _, (erase_map _ _).symm, fun q hq => h q (mem_eraseIdx hq)⟩
end
def plV (p : Ge11.Player) (sd ca : Addr) : List V := [nV p.own, nV p.far, nV p.known.1, .ref sd, .ref ca]
/-- a player's objects -/
structure PlayerAt (D : Cs) (F H : Hp) (r : PRec) : Prop where
  pl : H r.pa = some (.ins D.CP r.pdx (fl plN (plV r.p r.sd r.ca)))
  cl : H r.ca = some (.ins D.CC r.cdx (fl clN [.ref r.cd]))
  sent : ∃ kvs, H r.sd = some (.dK kvs) ∧ DOf tk (ViewDV F) kvs ((0, []) :: r.hist)
  views : ViewsAt F r.p.has r.cd
structure Tags (A : Ad) : Prop where
  s : A.tag A.s = some .srv
  dT : A.tag A.dT = some .things
  lP : A.tag A.lP = some .pls
  lL : A.tag A.lL = some .lets
  lW : A.tag A.lW = some .words
  pr : ∀ (i : Nat) r, A.pr[i]? = some r → A.tag r.pa = some (.pl i) ∧ A.tag r.ca = some (.cl i) ∧ A.tag r.sd = some (.snt i)
def srV (A : Ad) (g : Ge11.St) : List V := [.ref A.dT, .ref A.lP, .int ((g.tick : Nat) - 1 : Int), .ref A.lL, .ref A.lW]
structure Srv (D : Cs) (F H : Hp) (A : Ad) (g : Ge11.St) : Prop where
  same : Same F H
  tags : Tags A
  live : ∀ m t, A.tag m = some t → F m = none ∧ ∃ o, H m = some o
  srv : H A.s = some (.ins D.CS A.sdx (fl seN (srV A g)))
  things : Things D.CT F H A.dT g.world
  pls : H A.lP = some (.lst (A.pr.map fun r => .ref r.pa))
  plE : A.pr.map (·.p) = g.players
  plA : ∀ (i : Nat) r, A.pr[i]? = some r → PlayerAt D F H r
  lets : ∃ xs, H A.lL = some (.lst xs) ∧ LstOf (LetterAt D.CL F) xs g.letters
  acks : ∃ xs, H A.lW = some (.lst xs) ∧ LstOf (WordAt D.CW F) xs g.acks
theorem ne_tag {A : Ad} {x y : Addr} {a b : Tag} (h1 : A.tag x = some a) (h2 : A.tag y = some b) (n : a ≠ b) : x ≠ y := fun e => by
  rw [e, h2] at h1
  exact n (Option.some.inj h1).symm
theorem ne_untag {A : Ad} {x y : Addr} {a : Tag} (h1 : A.tag x = some a) (h2 : A.tag y = none) : x ≠ y := fun e => by
  rw [e, h2] at h1
  cases h1
theorem Things.mono {C : Addr} {F F' H H' : Hp} {d : Addr} {wd : Ge11.World} (s : Same F F') (e : ∀ o, H d = some o → H' d = some o) (h : Things C F H d wd) : Things C F' H' d wd := by
  obtain ⟨kvs, es, h1, h2, h3⟩ := h
  exact ⟨kvs, es, e _ h1, h2.mono fun _ _ _ q => q.mono s, h3⟩
theorem PlayerAt.mono {D : Cs} {F F' H H' : Hp} {r : PRec} (s : Same F F') (e1 : ∀ o, H r.pa = some o → H' r.pa = some o) (e2 : ∀ o, H r.ca = some o → H' r.ca = some o) (e3 : ∀ o, H r.sd = some o → H' r.sd = some o) (h : PlayerAt D F H r) : PlayerAt D F' H' r := by
  obtain ⟨kvs, h1, h2⟩ := h.sent
  exact ⟨e1 _ h.pl, e2 _ h.cl, ⟨kvs, e3 _ h1, h2.mono fun _ _ _ q => q.mono s⟩, h.views.mono s⟩
section
variable {D : Cs} {F H : Hp} {A : Ad} {g : Ge11.St}
/-- the world around the server: what it does not own stays -/
structure Fr (F H : Hp) (A : Ad) (F' H' : Hp) (A' : Ad) : Prop where
  same : Same F F'
  keep : ∀ b o, H b = some o → A.tag b = none → H' b = some o
  out : ∀ b o, H b = some o → A.tag b = none → A'.tag b = none
  fno : ∀ b o, H b = some o → F b = none → F' b = none
  live : ∀ b o, H b = some o → ∃ o', H' b = some o'
  s : A'.s = A.s
theorem Fr.refl : Fr F H A F H A := ⟨Same.refl _, fun _ _ h _ => h, fun _ _ _ h => h, fun _ _ _ h => h, fun _ o h => ⟨o, h⟩, rfl⟩
theorem Fr.trans {F1 H1 F2 H2 : Hp} {A1 A2 : Ad} (a : Fr F H A F1 H1 A1) (b : Fr F1 H1 A1 F2 H2 A2) : Fr F H A F2 H2 A2 :=
  ⟨a.same.trans b.same, fun c o h t => b.keep c o (a.keep c o h t) (a.out c o h t), fun c o h t => b.out c o (a.keep c o h t) (a.out c o h t),
    fun c o h f => by
      obtain ⟨o', h'⟩ := a.live c o h
      exact b.fno c o' h' (a.fno c o h f),
    fun c o h => by
      obtain ⟨o', h'⟩ := a.live c o h
      exact b.live c o' h', b.s.trans a.s⟩
/-- new things only -/
theorem Srv.grow {H' : Hp} (S : Srv D F H A g) (s : Same H H') : Srv D (ext F H H') H' A g := by
  have f := ext_sub (H' := H') S.same
  refine ⟨ext_in S.same s, S.tags, fun m t h => ?_, s _ _ S.srv, S.things.mono f (fun o h => s _ o h), s _ _ S.pls, S.plE, fun i r h => (S.plA i r h).mono f (fun o h => s _ o h) (fun o h => s _ o h) (fun o h => s _ o h), ?_, ?_⟩
  · obtain ⟨h1, o, h2⟩ := S.live m t h
    exact ⟨ext_none h2 h1, o, s _ _ h2⟩
  · obtain ⟨xs, h1, h2⟩ := S.lets
    exact ⟨xs, s _ _ h1, h2.mono fun _ _ q => q.mono f⟩
  · obtain ⟨xs, h1, h2⟩ := S.acks
    exact ⟨xs, s _ _ h1, h2.mono fun _ _ q => q.mono f⟩
theorem Fr.grow {H' : Hp} (f : Same F H) (s : Same H H') : Fr F H A (ext F H H') H' A :=
  ⟨ext_sub f, fun b o h _ => s b o h, fun _ _ _ h => h, fun b o h n => ext_none h n, fun b o h => ⟨o, s b o h⟩, rfl⟩
/-- an object that the server owns is changed -/
theorem Fr.own {m : Addr} {t : Tag} {o : HO} (h : A.tag m = some t) : Fr F H A F (upd H m o) A := by
  refine ⟨Same.refl _, fun b u hb n => Eq.trans (upd_ne (ne_untag h n).symm) hb, fun _ _ _ h => h, fun _ _ _ h => h, fun b u hb => ?_, rfl⟩
  by_cases e : b = m
  · exact ⟨o, by rw [e]; exact upd_same⟩
  · exact ⟨u, Eq.trans (upd_ne e) hb⟩
/-- facts that are asked when an owned object changes -/
theorem live_upd {m : Addr} {o : HO} (S : Srv D F H A g) : ∀ x t, A.tag x = some t → F x = none ∧ ∃ u, (upd H m o) x = some u := fun x t h => by
  obtain ⟨h1, u, h2⟩ := S.live x t h
  refine ⟨h1, ?_⟩
  by_cases e : x = m
  · exact ⟨o, by rw [e]; exact upd_same⟩
  · exact ⟨u, Eq.trans (upd_ne e) h2⟩
theorem same_own {m : Addr} {t : Tag} {o : HO} (S : Srv D F H A g) (h : A.tag m = some t) : Same F (upd H m o) := same_of_upd S.same (S.live m t h).1
/-- the letters -/
theorem Srv.setLets (S : Srv D F H A g) {xs : List V} {ls : List (Nat × Ge11.Letter)} (h : LstOf (LetterAt D.CL F) xs ls) : Srv D F (upd H A.lL (.lst xs)) A { g with letters := ls } := by
  have T := S.tags
  refine ⟨same_own S T.lL, T, live_upd S, Eq.trans (upd_ne (ne_tag T.s T.lL (by intro z; cases z))) S.srv, S.things.mono (Same.refl _) (fun o q => Eq.trans (upd_ne (ne_tag T.dT T.lL (by intro z; cases z))) q), Eq.trans (upd_ne (ne_tag T.lP T.lL (by intro z; cases z))) S.pls, S.plE, fun i r q => ?_, ⟨xs, upd_same, h⟩, ?_⟩
  · obtain ⟨t1, t2, t3⟩ := T.pr i r q
    exact (S.plA i r q).mono (Same.refl _) (fun o q => Eq.trans (upd_ne (ne_tag t1 T.lL (by intro z; cases z))) q) (fun o q => Eq.trans (upd_ne (ne_tag t2 T.lL (by intro z; cases z))) q) (fun o q => Eq.trans (upd_ne (ne_tag t3 T.lL (by intro z; cases z))) q)
  · obtain ⟨ys, h1, h2⟩ := S.acks
    exact ⟨ys, Eq.trans (upd_ne (ne_tag T.lW T.lL (by intro z; cases z))) h1, h2⟩
/-- the words -/
theorem Srv.setWords (S : Srv D F H A g) {xs : List V} {ls : List (Nat × Nat)} (h : LstOf (WordAt D.CW F) xs ls) : Srv D F (upd H A.lW (.lst xs)) A { g with acks := ls } := by
  have T := S.tags
  refine ⟨same_own S T.lW, T, live_upd S, Eq.trans (upd_ne (ne_tag T.s T.lW (by intro z; cases z))) S.srv, S.things.mono (Same.refl _) (fun o q => Eq.trans (upd_ne (ne_tag T.dT T.lW (by intro z; cases z))) q), Eq.trans (upd_ne (ne_tag T.lP T.lW (by intro z; cases z))) S.pls, S.plE, fun i r q => ?_, ?_, ⟨xs, upd_same, h⟩⟩
  · obtain ⟨t1, t2, t3⟩ := T.pr i r q
    exact (S.plA i r q).mono (Same.refl _) (fun o q => Eq.trans (upd_ne (ne_tag t1 T.lW (by intro z; cases z))) q) (fun o q => Eq.trans (upd_ne (ne_tag t2 T.lW (by intro z; cases z))) q) (fun o q => Eq.trans (upd_ne (ne_tag t3 T.lW (by intro z; cases z))) q)
  · obtain ⟨ys, h1, h2⟩ := S.lets
    exact ⟨ys, Eq.trans (upd_ne (ne_tag T.lL T.lW (by intro z; cases z))) h1, h2⟩
/-- the things -/
theorem Srv.setThings (S : Srv D F H A g) {kvs : List (Key × V)} {es : List Ge11.Thing} {wd : Ge11.World} (h : DOf Ge11.Thing.number (ThingAt D.CT F) kvs es) (p : es.Perm wd) : Srv D F (upd H A.dT (.dK kvs)) A { g with world := wd } := by
  have T := S.tags
  refine ⟨same_own S T.dT, T, live_upd S, Eq.trans (upd_ne (ne_tag T.s T.dT (by intro z; cases z))) S.srv, ⟨kvs, es, upd_same, h, p⟩, Eq.trans (upd_ne (ne_tag T.lP T.dT (by intro z; cases z))) S.pls, S.plE, fun i r q => ?_, ?_, ?_⟩
  · obtain ⟨t1, t2, t3⟩ := T.pr i r q
    exact (S.plA i r q).mono (Same.refl _) (fun o q => Eq.trans (upd_ne (ne_tag t1 T.dT (by intro z; cases z))) q) (fun o q => Eq.trans (upd_ne (ne_tag t2 T.dT (by intro z; cases z))) q) (fun o q => Eq.trans (upd_ne (ne_tag t3 T.dT (by intro z; cases z))) q)
  · obtain ⟨ys, h1, h2⟩ := S.lets
    exact ⟨ys, Eq.trans (upd_ne (ne_tag T.lL T.dT (by intro z; cases z))) h1, h2⟩
  · obtain ⟨ys, h1, h2⟩ := S.acks
    exact ⟨ys, Eq.trans (upd_ne (ne_tag T.lW T.dT (by intro z; cases z))) h1, h2⟩
/-- the tick -/
theorem Srv.setTick (S : Srv D F H A g) {t : Nat} : Srv D F (upd H A.s (.ins D.CS A.sdx (fl seN (srV A { g with tick := t })))) A { g with tick := t } := by
  have T := S.tags
  refine ⟨same_own S T.s, T, live_upd S, upd_same, S.things.mono (Same.refl _) (fun o q => Eq.trans (upd_ne (ne_tag T.dT T.s (by intro z; cases z))) q), Eq.trans (upd_ne (ne_tag T.lP T.s (by intro z; cases z))) S.pls, S.plE, fun i r q => ?_, ?_, ?_⟩
  · obtain ⟨t1, t2, t3⟩ := T.pr i r q
    exact (S.plA i r q).mono (Same.refl _) (fun o q => Eq.trans (upd_ne (ne_tag t1 T.s (by intro z; cases z))) q) (fun o q => Eq.trans (upd_ne (ne_tag t2 T.s (by intro z; cases z))) q) (fun o q => Eq.trans (upd_ne (ne_tag t3 T.s (by intro z; cases z))) q)
  · obtain ⟨ys, h1, h2⟩ := S.lets
    exact ⟨ys, Eq.trans (upd_ne (ne_tag T.lL T.s (by intro z; cases z))) h1, h2⟩
  · obtain ⟨ys, h1, h2⟩ := S.acks
    exact ⟨ys, Eq.trans (upd_ne (ne_tag T.lW T.s (by intro z; cases z))) h1, h2⟩
/-- a player's record, its addresses kept -/
def Ad.put (A : Ad) (i : Nat) (r : PRec) : Ad := { A with pr := A.pr.set i r }
theorem set_map_same {α β : Type} {f : α → β} : ∀ {l : List α} {i : Nat} {x y : α}, l[i]? = some x → f y = f x → (l.set i y).map f = l.map f
  | [], i, x, y, h, _ => by simp at h
  | a :: l, 0, x, y, h, e => by
    cases h
    show f y :: l.map f = f a :: l.map f
    rw [e]
  | a :: l, i + 1, x, y, h, e => by
    show f a :: (l.set i y).map f = f a :: l.map f
    rw [set_map_same (l := l) h e]
theorem set_map {α β : Type} {f : α → β} : ∀ (l : List α) (i : Nat) (y : α), (l.set i y).map f = (l.map f).set i (f y)
  | [], _, _ => rfl
  | _ :: _, 0, _ => rfl
  | a :: l, i + 1, y => by
    show f a :: (l.set i y).map f = f a :: (l.map f).set i (f y)
    rw [set_map l i y]
/-- one of a player's objects is changed: m, tagged by the i-th player -/
theorem Srv.setPlayer (S : Srv D F H A g) {i : Nat} {r r' : PRec} (hi : A.pr[i]? = some r) {m : Addr} {o : HO} (hm : A.tag m = some (.pl i) ∨ A.tag m = some (.cl i) ∨ A.tag m = some (.snt i))
    (ha : r'.pa = r.pa ∧ r'.ca = r.ca ∧ r'.sd = r.sd) (hp : PlayerAt D F (upd H m o) r') : Srv D F (upd H m o) (A.put i r') { g with players := g.players.set i r'.p } := by
  have T := S.tags
  have far : ∀ {x : Addr} {t : Tag}, A.tag x = some t → (∀ j, j = i → t ≠ .pl j ∧ t ≠ .cl j ∧ t ≠ .snt j) → ∀ u, H x = some u → (upd H m o) x = some u := fun {x t} hx n u hu => by
    obtain ⟨n1, n2, n3⟩ := n i rfl
    rcases hm with hm | hm | hm
    · exact Eq.trans (upd_ne (ne_tag hx hm n1)) hu
    · exact Eq.trans (upd_ne (ne_tag hx hm n2)) hu
    · exact Eq.trans (upd_ne (ne_tag hx hm n3)) hu
  have hlt := (List.getElem?_eq_some_iff.mp hi).1
  have tg : ∃ t, A.tag m = some t := by
    rcases hm with hm | hm | hm
    · exact ⟨_, hm⟩
    · exact ⟨_, hm⟩
    · exact ⟨_, hm⟩
  obtain ⟨t0, ht0⟩ := tg
  have all : ∀ (j : Nat) q, (A.put i r').pr[j]? = some q → (j = i ∧ q = r') ∨ (j ≠ i ∧ A.pr[j]? = some q) := by
    intro j q h
    have h : (A.pr.set i r')[j]? = some q := h
    rw [List.getElem?_set] at h
    by_cases e : i = j
    · rw [if_pos e, if_pos hlt] at h
      exact .inl ⟨e.symm, (Option.some.inj h).symm⟩
    · rw [if_neg e] at h
      exact .inr ⟨fun z => e z.symm, h⟩
  refine ⟨same_own S ht0, ⟨T.s, T.dT, T.lP, T.lL, T.lW, fun j q h => ?_⟩, (fun x t h => live_upd S x t h), far T.s (fun _ _ => ⟨fun z => (nomatch z), fun z => (nomatch z), fun z => (nomatch z)⟩) _ S.srv, S.things.mono (Same.refl _) (far T.dT (fun _ _ => ⟨fun z => (nomatch z), fun z => (nomatch z), fun z => (nomatch z)⟩)), ?_, ?_, fun j q h => ?_, ?_, ?_⟩
  · rcases all j q h with ⟨rfl, rfl⟩ | ⟨_, h⟩
    · obtain ⟨t1, t2, t3⟩ := T.pr j r hi
      rw [ha.1, ha.2.1, ha.2.2]
      exact ⟨t1, t2, t3⟩
    · exact T.pr j q h
  · have e : (A.put i r').pr.map (fun r => V.ref r.pa) = A.pr.map fun r => V.ref r.pa := set_map_same hi (by rw [ha.1])
    rw [e]
    exact far T.lP (fun _ _ => ⟨fun z => (nomatch z), fun z => (nomatch z), fun z => (nomatch z)⟩) _ S.pls
  · show (A.pr.set i r').map (·.p) = g.players.set i r'.p
    rw [set_map, S.plE]
  · rcases all j q h with ⟨rfl, rfl⟩ | ⟨nj, h⟩
    · exact hp
    · obtain ⟨t1, t2, t3⟩ := T.pr j q h
      refine (S.plA j q h).mono (Same.refl _) (far t1 ?_) (far t2 ?_) (far t3 ?_)
      · rintro k rfl
        exact ⟨fun z => nj (Tag.pl.inj z), fun z => (nomatch z), fun z => (nomatch z)⟩
      · rintro k rfl
        exact ⟨fun z => (nomatch z), fun z => nj (Tag.cl.inj z), fun z => (nomatch z)⟩
      · rintro k rfl
        exact ⟨fun z => (nomatch z), fun z => (nomatch z), fun z => nj (Tag.snt.inj z)⟩
  · obtain ⟨ys, h1, h2⟩ := S.lets
    exact ⟨ys, far T.lL (fun _ _ => ⟨fun z => (nomatch z), fun z => (nomatch z), fun z => (nomatch z)⟩) _ h1, h2⟩
  · obtain ⟨ys, h1, h2⟩ := S.acks
    exact ⟨ys, far T.lW (fun _ _ => ⟨fun z => (nomatch z), fun z => (nomatch z), fun z => (nomatch z)⟩) _ h1, h2⟩
theorem Fr.put {i : Nat} {r : PRec} (f : Fr F H A F H' A) : Fr F H A F H' (A.put i r) := ⟨f.same, f.keep, f.out, f.fno, f.live, f.s⟩
end
end Net

set_option Elab.async false
set_option linter.all false
set_option maxRecDepth 100000
set_option maxHeartbeats 2000000
namespace Net
open PySem PySem.Spec PyProof.Rows L2 NM
/-- constants of the module -/
structure Cn (mg : Str → Option Value) (x : Str) (z : Int) : Prop where
  ex : ∃ t, mg x = some (.int z t)
structure Mgs (mg : Str → Option Value) : Prop where
  len : mg "len" = none
  max : mg "max" = none
  enumerate : mg "enumerate" = none
  HN : Cn mg "HIGHEST_NUMBER" 99
  MT : Cn mg "MOST_THINGS" 20
  MP : Cn mg "MOST_PLAYERS" 4
  MK : Cn mg "MOST_TICKS" 59
  ML : Cn mg "MOST_LETTERS" 30
  AH : Cn mg "ABOVE_HIGHEST" (-1)
  NS : Cn mg "NONE_SUCH" (-2)
  TM : Cn mg "TOO_MANY" (-5)
  NV : Cn mg "NO_VIEW" (-6)
theorem pe_const {X : Cx} {x : Str} {z : Int} {pos : Pos} (h : Cn X.mg x z) (hg : Gl X x := by rfl) (hd : (x == ("__debug__" : Str)) = false := by decide) : PE X (.Name x pos) (tC (.int z)) := by
  obtain ⟨t, e⟩ := h.ex
  exact pe_glob hg e ⟨t, rfl⟩ hd
/-- what a call ends in -/
def Outcome (D : Cs) (F H : Hp) (A : Ad) (g : Ge11.St) (n : Nat) (c : Ge11.Call) (Q : VK) : Prop :=
  ∀ (F' H' : Hp) (A' : Ad) (r : Addr), Srv D F' H' A' (Ge11.step g c).1 → Good (A'.pr.map (·.hist)) (Ge11.step g c).1 (n + 1) → Fr F H A F' H' A' → F' r = some (.lst ((Ge11.step g c).2.map V.int)) → Q (.ref r) H'
theorem finish {D : Cs} {F H F1 H1 : Hp} {A A1 : Ad} {g g' : Ge11.St} {n : Nat} {c : Ge11.Call} {Q : VK} {p : Addr} {xs : List V} {ans : List Int} (k : Outcome D F H A g n c Q) (e : Ge11.step g c = (g', ans)) (S : Srv D F1 H1 A1 g') (G : Good (A1.pr.map (·.hist)) g' (n + 1))
    (f : Fr F H A F1 H1 A1) (hp : H1 p = none) (ex : xs = ans.map V.int) : Q (.ref p) (upd H1 p (.lst xs)) := by
  have s := same_upd (o := .lst xs) hp
  refine k (ext F1 H1 (upd H1 p (.lst xs))) _ A1 p ?_ ?_ (f.trans (Fr.grow S.same s)) ?_
  · rw [e]
    exact S.grow s
  · rw [e]
    exact G
  · rw [ext_new hp, upd_same, e, ex]
theorem se_things {A : Ad} {g : Ge11.St} : (fl seN (srV A g)).lookup ("things" : Str) = some (.ref A.dT) := fl_look 0 (by decide +kernel) rfl
theorem se_players {A : Ad} {g : Ge11.St} : (fl seN (srV A g)).lookup ("players" : Str) = some (.ref A.lP) := fl_look 1 (by decide +kernel) rfl
theorem se_ticks {A : Ad} {g : Ge11.St} : (fl seN (srV A g)).lookup ("ticks" : Str) = some (.int ((g.tick : Nat) - 1 : Int)) := fl_look 2 (by decide +kernel) rfl
theorem se_letters {A : Ad} {g : Ge11.St} : (fl seN (srV A g)).lookup ("letters" : Str) = some (.ref A.lL) := fl_look 3 (by decide +kernel) rfl
theorem se_words {A : Ad} {g : Ge11.St} : (fl seN (srV A g)).lookup ("words" : Str) = some (.ref A.lW) := fl_look 4 (by decide +kernel) rfl
theorem seq_at {i n : Nat} (h : i < n) : seqIndex? ((i : Nat) : Int) n = some i := by
  unfold seqIndex?
  have h1 : ¬ ((i : Nat) : Int) < 0 := by omega
  simp [h1]
  omega
def hists (A : Ad) : List (List TV) := A.pr.map (·.hist)
section
variable {P : Program} {w : World} {K : PySem.W.Frag} {mg : Str → Option Value} {base : Heap} {D : Cs}
def spLost (D : Cs) : Sp := fun vs H Q _ => ∃ (F : Hp) (A : Ad) (g : Ge11.St) (n i : Nat), vs = [.ref A.s, nV i] ∧ Srv D F H A g ∧ Good (A.pr.map (·.hist)) g n ∧ Outcome D F H A g n (.lose i) Q
theorem scLost : FnScope ["self", "place"] ["self", "place"] (defScope sSLost) := ⟨rfl, rfl, rfl, by decide +kernel, rfl, by decide +kernel, by decide +kernel⟩
theorem ok_lost {f : Addr} {fd : FuncData} (F : Fun K "letter_lost" "Server.letter_lost" sSLost f fd) (T : Cl K mg "Server" D.CS seN) (M : Mgs mg) : FnOk P w K mg base CX0 1 f fd ["self", "place"] (spLost D) := by
  refine F.ok scLost (fun vs H Q E h => ?_) (fun cdv A outer s H vs Q E hr h => ?_)
  · obtain ⟨F, A, g, n, i, rfl, _⟩ := h
    rfl
  · obtain ⟨F, A, g, n, i, rfl, S, G, k⟩ := h
    obtain ⟨xs, hx, hL⟩ := S.lets
    refine ⟨_, pss_cons (ps_if (pt_cmpR op_ge (pv 1) (pe_callB call_len_seq (by rfl) M.len PySem.boot_len (pa_cons (pe_fld (pv 0) rfl) pa_nil)) (nomark _)) (pss_one (ps_ret (pe_lst (pa_cons (pe_const M.NS) pa_nil)))) pss_nil)
      (pss_cons (ps_expr (pe_bm PySem.F.plainAttrs_list PySem.F.slot_list_pop PySem.F.type_list_pop mt_popAt (pe_fld (pv 0) rfl) (pa_cons (pv 1) pa_nil)))
      (pss_one (ps_ret (pe_lst (pa_cons (pe_callB call_len_seq (by rfl) M.len PySem.boot_len (pa_cons (pe_fld (pv 0) rfl) pa_nil)) pa_nil))))), ?_⟩
    refine ⟨_, rfl, _, rfl, A.s, D.CS, A.sdx, _, _, rfl, S.srv, T.cl, T.at 3, se_letters, A.lL, _, rfl, .inl (SqL.of hx), _, _, rfl, rfl, _, rfl, ?_⟩
    have el := hL.len
    by_cases c : g.letters.length ≤ i
    · have e : Ge11.step g (.lose i) = (g, [-2]) := if_pos c
      refine if_true_of (decide_eq_true (by rw [el]; omega)) ⟨by show 1 ≤ sizeLine; decide, fun p hp => ?_⟩
      exact finish k e S G.succ Fr.refl hp rfl
    · have e : Ge11.step g (.lose i) = ({ g with letters := g.letters.eraseIdx i }, Ge11.ints [g.letters.length - 1]) := if_neg c
      have hi : i < xs.length := by omega
      refine if_false_of (decide_eq_false (by rw [el]; omega)) ?_
      obtain ⟨x, hxi⟩ : ∃ x, xs[i]? = some x := ⟨_, List.getElem?_eq_some_iff.mpr ⟨hi, rfl⟩⟩
      have l30 := G.l30
      refine ⟨_, rfl, A.s, D.CS, A.sdx, _, _, rfl, S.srv, T.cl, T.at 3, se_letters, .inl ⟨rfl, _, SqL.of hx⟩, _, rfl, A.lL, xs, ((i : Nat) : Int), i, x, rfl, rfl, hx, by omega, by omega, seq_at hi, hxi, ?_⟩
      have S1 := S.setLets (hL.erase i)
      refine ⟨_, rfl, A.s, D.CS, A.sdx, _, _, rfl, S1.srv, T.cl, T.at 3, se_letters, A.lL, _, rfl, .inl (SqL.of upd_same), by show 1 ≤ sizeLine; decide, fun p hp => ?_⟩
      refine finish k e S1 (G.lose i) (Fr.own S.tags.lL) hp ?_
      rw [List.length_eraseIdx, if_pos hi, el]
      rfl
end
end Net

set_option Elab.async false
set_option linter.all false
set_option maxRecDepth 100000
set_option maxHeartbeats 2000000
namespace Net
open PySem PySem.Spec PyProof.Rows L2 NM
theorem but_is {w : Ge11.World} {n : Nat} : (w.filter fun t => t.number != n) = but Ge11.Thing.number n w := rfl
theorem things_none {C : Addr} {F : Hp} {kvs : List (Key × V)} {es : List Ge11.Thing} {wd : Ge11.World} (h : DOf Ge11.Thing.number (ThingAt C F) kvs es) (p : es.Perm wd) (n : Nat) : (valV kvs (Sum.inl ((n : Nat) : Int))).isSome = (Ge11.thingOf wd n).isSome := by
  cases e : valV kvs (Sum.inl ((n : Nat) : Int)) with
  | none =>
    rw [show Ge11.thingOf wd n = none from thingOf_none.mpr fun t ht q => h.none_iff.mp e t (p.mem_iff.mpr ht) (by rw [q])]
    rfl
  | some u =>
    obtain ⟨t, ht, et, _⟩ := h.some_of e
    cases e2 : Ge11.thingOf wd n with
    | none => exact absurd (Int.ofNat.inj et) (thingOf_none.mp e2 t (p.mem_iff.mp ht))
    | some _ => rfl
section
variable {P : Program} {w : World} {K : PySem.W.Frag} {mg : Str → Option Value} {base : Heap} {D : Cs}
def spGoneT (D : Cs) : Sp := fun vs H Q _ => ∃ (F : Hp) (A : Ad) (g : Ge11.St) (n i : Nat), vs = [.ref A.s, nV i] ∧ Srv D F H A g ∧ Good (A.pr.map (·.hist)) g n ∧ Outcome D F H A g n (.gone i) Q
theorem scGoneT : FnScope ["self", "number"] ["self", "number"] (defScope sSGone) := ⟨rfl, rfl, rfl, by decide +kernel, rfl, by decide +kernel, by decide +kernel⟩
theorem ok_goneT {f : Addr} {fd : FuncData} (F : Fun K "take_thing_away" "Server.take_thing_away" sSGone f fd) (T : Cl K mg "Server" D.CS seN) (M : Mgs mg) : FnOk P w K mg base CX0 1 f fd ["self", "number"] (spGoneT D) := by
  refine F.ok scGoneT (fun vs H Q E h => ?_) (fun cdv A outer s H vs Q E hr h => ?_)
  · obtain ⟨F, A, g, n, i, rfl, _⟩ := h
    rfl
  · obtain ⟨F, A, g, n, i, rfl, S, G, k⟩ := h
    have hu := hu_of hr
    obtain ⟨kvs, es, hd, hD, pw⟩ := S.things
    refine ⟨_, pss_cons (ps_if (pt_cmp (pc_dnotin hu (pv 1) (pe_fld (pv 0) rfl))) (pss_one (ps_ret (pe_lst (pa_cons (pe_const M.NS) pa_nil)))) pss_nil)
      (pss_cons (ps_expr (pe_dpop1 (pe_fld (pv 0) rfl) (pv 1) ⟨rfl, rfl, rfl, rfl⟩))
      (pss_one (ps_ret (pe_lst (pa_cons (pe_callB call_lenD (by rfl) M.len PySem.boot_len (pa_cons (pe_fld (pv 0) rfl) pa_nil)) pa_nil))))), ?_⟩
    refine ⟨_, rfl, _, rfl, A.s, D.CS, A.sdx, _, _, rfl, S.srv, T.cl, T.at 0, se_things, A.dT, _, rfl, DGet.k (k := Sum.inl ((i : Nat) : Int)) hd, _, rfl, ?_⟩
    have eq := things_none hD pw i
    cases e : valV kvs (Sum.inl ((i : Nat) : Int)) with
    | none =>
      rw [e] at eq
      have hn : (Ge11.thingOf g.world i).isNone = true := by
        rw [Option.isNone_iff_eq_none]
        cases q : Ge11.thingOf g.world i with
        | none => rfl
        | some _ =>
          rw [q] at eq
          cases eq
      have e2 : Ge11.step g (.gone i) = (g, [-2]) := if_pos hn
      refine if_true_of rfl ⟨by show 1 ≤ sizeLine; decide, fun p hp => ?_⟩
      exact finish k e2 S G.succ Fr.refl hp rfl
    | some u =>
      rw [e] at eq
      have hn : ¬ (Ge11.thingOf g.world i).isNone = true := by
        intro q
        rw [Option.isNone_iff_eq_none.mp q] at eq
        cases eq
      have e2 : Ge11.step g (.gone i) = ({ g with world := g.world.filter fun t => t.number != i }, Ge11.ints [(g.world.filter fun t => t.number != i).length]) := if_neg hn
      refine if_false_of rfl ?_
      refine ⟨_, rfl, A.s, D.CS, A.sdx, _, _, rfl, S.srv, T.cl, T.at 0, se_things, A.dT, rfl, .inl ⟨kvs, .inl hd⟩, _, rfl, kvs, Sum.inl ((i : Nat) : Int), u, hd, rfl, e, ?_⟩
      have S1 := S.setThings (hD.drop i) (pw.filter _)
      refine ⟨_, rfl, A.s, D.CS, A.sdx, _, _, rfl, S1.srv, T.cl, T.at 0, se_things, A.dT, _, rfl, upd_same, by show 1 ≤ sizeLine; decide, fun p hp => ?_⟩
      refine finish k e2 S1 (G.world (G.srt.filter _) (Nat.le_trans (List.length_filter_le _ _) G.len)) (Fr.own S.tags.dT) hp ?_
      have pl : (but Ge11.Thing.number i es).length = (g.world.filter fun t => t.number != i).length := (pw.filter _).length_eq
      rw [(hD.drop i).len, pl]
      rfl
/-! ### put_thing -/
def okThing (t : Ge11.Thing) : Prop := ¬ (99 < t.number ∨ 99 < t.x ∨ 99 < t.y ∨ 99 < t.look)
def spThing (D : Cs) : Sp := fun vs H Q _ => ∃ (F : Hp) (A : Ad) (g : Ge11.St) (n : Nat) (t : Ge11.Thing) (v : V), vs = [.ref A.s, nV t.number, v] ∧ Srv D F H A g ∧ Good (A.pr.map (·.hist)) g n ∧ ThingAt D.CT F t v ∧ Outcome D F H A g n (.thing t) Q
theorem scThing : FnScope ["self", "number", "thing"] ["self", "number", "thing"] (defScope sSThing) := ⟨rfl, rfl, rfl, by decide +kernel, rfl, by decide +kernel, by decide +kernel⟩
theorem ok_thing {f : Addr} {fd : FuncData} (F : Fun K "put_thing" "Server.put_thing" sSThing f fd) (T : Cl K mg "Server" D.CS seN) (TT : Cl K mg "Thing" D.CT thN) (M : Mgs mg) : FnOk P w K mg base CX0 1 f fd ["self", "number", "thing"] (spThing D) := by
  refine F.ok scThing (fun vs H Q E h => ?_) (fun cdv A outer s H vs Q E hr h => ?_)
  · obtain ⟨F, A, g, n, t, v, rfl, _⟩ := h
    rfl
  · obtain ⟨F, A, g, n, t, v, rfl, S, G, hT, k⟩ := h
    have hu := hu_of hr
    obtain ⟨kvs, es, hd, hD, pw⟩ := S.things
    obtain ⟨pt, dt, rfl, hpt0⟩ := id hT
    have hpt := S.same _ _ hpt0
    refine ⟨_, pss_cons (ps_if (pt_cmpR op_gt (pe_callB (call_max4 rfl) (by rfl) M.max (by decide +kernel) (pa_cons (pv 1) (pa_cons (pe_fld (pv 2) rfl) (pa_cons (pe_fld (pv 2) rfl) (pa_cons (pe_fld (pv 2) rfl) pa_nil))))) (pe_const M.HN) (nomark _)) (pss_one (ps_ret (pe_lst (pa_cons (pe_const M.AH) pa_nil)))) pss_nil)
      (pss_cons (ps_if (PW.pt (pw_and (pt_cmp (pc_dnotin hu (pv 1) (pe_fld (pv 0) rfl))) (pw_and1 (pt_cmpR op_ge (pe_callB call_lenD (by rfl) M.len PySem.boot_len (pa_cons (pe_fld (pv 0) rfl) pa_nil)) (pe_const M.MT) (nomark _))))) (pss_one (ps_ret (pe_lst (pa_cons (pe_const M.TM) pa_nil)))) pss_nil)
      (pss_cons (ps_dput hu (pe_fld (pv 0) rfl) (pv 1) (pv 2) rfl)
      (pss_one (ps_ret (pe_lst (pa_cons (pe_callB call_lenD (by rfl) M.len PySem.boot_len (pa_cons (pe_fld (pv 0) rfl) pa_nil)) pa_nil)))))), ?_⟩
    refine ⟨_, rfl, _, rfl, pt, D.CT, dt, _, _, rfl, hpt, TT.cl, TT.at 0, th_x t, _, rfl, pt, D.CT, dt, _, _, rfl, hpt, TT.cl, TT.at 1, th_y t, _, rfl, pt, D.CT, dt, _, _, rfl, hpt, TT.cl, TT.at 2, th_look t, _, _, _, _, rfl, _, _, rfl, rfl, _, rfl, ?_⟩
    by_cases c1 : 99 < t.number ∨ 99 < t.x ∨ 99 < t.y ∨ 99 < t.look
    · have e : Ge11.step g (.thing t) = (g, [-1]) := if_pos c1
      refine if_true_of (decide_eq_true (by omega)) ⟨by show 1 ≤ sizeLine; decide, fun p hp => ?_⟩
      exact finish k e S G.succ Fr.refl hp rfl
    · refine if_false_of (decide_eq_false (by omega)) ?_
      have eq := things_none hD pw t.number
      have len : kvs.length = g.world.length := by rw [hD.len, pw.length_eq]
      have hA : Ans (tAnd (tB (tDNotIn (tVar 1) (tFld K (tVar 0) "things"))) (tTest (tOp rGe (tCB (fun xs H Q => ∃ a kvs, xs = [V.ref a] ∧ H a = some (.dK kvs) ∧ Q (.int kvs.length) H) (tCons (tFld K (tVar 0) "things") tNil)) (tC (.int 20))))) ([some (.ref A.s), some (nV t.number), some (.ref pt)] : List (Option V)) H
          ((Ge11.thingOf g.world t.number).isNone && decide (20 ≤ g.world.length)) := by
        refine ans_and2 (ans_val fun Q q => ?_) (fun Q q => ?_)
        · refine ⟨_, rfl, _, rfl, A.s, D.CS, A.sdx, _, _, rfl, S.srv, T.cl, T.at 0, se_things, A.dT, _, rfl, DGet.k (k := Sum.inl ((t.number : Nat) : Int)) hd, ?_⟩
          rw [eq]
          revert q
          cases Ge11.thingOf g.world t.number <;> exact id
        · refine ⟨_, rfl, A.s, D.CS, A.sdx, _, _, rfl, S.srv, T.cl, T.at 0, se_things, A.dT, kvs, rfl, hd, _, _, rfl, rfl, _, rfl, ?_⟩
          rw [len, show decide ((20 : Int) ≤ ((g.world.length : Nat) : Int)) = decide (20 ≤ g.world.length) from decide_eq_decide.mpr (by omega)]
          exact q
      by_cases c2 : (Ge11.thingOf g.world t.number).isNone = true ∧ 20 ≤ g.world.length
      · have e : Ge11.step g (.thing t) = (g, [-5]) := by
          show (if _ then _ else if _ then _ else _) = _
          rw [if_neg c1, if_pos c2]
        refine st_yes (hA.to (by rw [c2.1, decide_eq_true c2.2]; rfl)) ⟨by show 1 ≤ sizeLine; decide, fun p hp => ?_⟩
        exact finish k e S G.succ Fr.refl hp rfl
      · have e : Ge11.step g (.thing t) = ({ g with world := Ge11.insertThing t g.world }, Ge11.ints [(Ge11.insertThing t g.world).length]) := by
          show (if _ then _ else if _ then _ else _) = _
          rw [if_neg c1, if_neg c2]
        refine st_no (hA.to (by rw [Bool.eq_false_iff]; intro z; rw [Bool.and_eq_true, decide_eq_true_eq] at z; exact c2 z)) ?_
        have nde : Nd Ge11.Thing.number es := (nd_perm pw).mpr G.srt.nd
        have D1 := hD.put nde hT
        have pw1 := put_ins t pw G.srt
        rw [← insertThing_is] at pw1
        have l20 := G.len
        refine ⟨_, rfl, _, rfl, A.s, D.CS, A.sdx, _, _, rfl, S.srv, T.cl, T.at 0, se_things, _, rfl, A.dT, _, rfl, DPut.k (k := Sum.inl ((t.number : Nat) : Int)) hd (by rw [len]; exact Nat.lt_of_le_of_lt l20 (by decide)), ?_⟩
        have S1 := S.setThings D1 pw1
        refine ⟨_, rfl, A.s, D.CS, A.sdx, _, _, rfl, S1.srv, T.cl, T.at 0, se_things, A.dT, _, rfl, upd_same, by show 1 ≤ sizeLine; decide, fun p hp => ?_⟩
        refine finish k e S1 (G.world ?_ (insertThing_len G.srt G.len c2)) (Fr.own S.tags.dT) hp ?_
        · rw [insertThing_is]
          exact ins_srt G.srt
        · rw [D1.len, pw1.length_eq]
          rfl
end
end Net

set_option Elab.async false
set_option linter.all false
set_option maxRecDepth 100000
set_option maxHeartbeats 2000000
namespace NM
open Ge11
variable {hs : List (List (Nat × View))} {g : St} {n : Nat}
theorem Good.lose0 (G : Good hs g n) (i : Nat) : Good hs { g with letters := g.letters.eraseIdx i } n :=
  ⟨G.srt, G.len, G.t1, G.t60, G.hl, G.p4, G.pl, Nat.le_trans (eraseIdx_len _ _) G.l30, fun x hx => G.lt x (mem_eraseIdx hx), G.an, G.ak⟩
theorem Good.pushAck (G : Good hs g n) {i t : Nat} {h : List (Nat × View)} {v : View} (e : hs[i]? = some h) (m : (t, v) ∈ h) : Good hs { g with acks := g.acks ++ [(i, t)] } (n + 1) := by
  refine ⟨G.srt, G.len, G.t1, G.t60, G.hl, G.p4, G.pl, G.l30, G.lt, ?_, fun x hx => ?_⟩
  · show (g.acks ++ [(i, t)]).length ≤ n + 1
    rw [List.length_append]
    exact Nat.succ_le_succ G.an
  · have hx : x ∈ g.acks ++ [(i, t)] := hx
    rcases List.mem_append.mp hx with hx | hx
    · exact G.ak x hx
    · rw [List.mem_singleton.mp hx]
      exact ⟨h, e, v, m⟩
end NM
namespace Net
open PySem PySem.Spec PyProof.Rows L2 NM
theorem upd_self {H : Hp} {a : Addr} {o : HO} (h : H a = some o) : upd H a o = H := by
  funext b
  by_cases e : b = a
  · subst e
    rw [upd_same, h]
  · exact upd_ne e
theorem ext_at {F H H' : Hp} {m : Addr} {u o : HO} (h : H m = some u) : ext F H (upd H' m o) = ext F H H' := by
  funext b
  cases e : H b with
  | some z => rw [ext_old e, ext_old e]
  | none => rw [ext_new e, ext_new e, upd_ne (ne_of_none h e).symm]
section
variable {D : Cs} {F H H' : Hp} {A : Ad} {g : Ge11.St}
/-- new things, and one owned object changed: the object is put back -/
theorem Srv.back {m : Addr} {u : HO} (S : Srv D F H A g) (s : SB m H H') (h : H m = some u) : Srv D (ext F H H') (upd H' m u) A g := by
  have q : Same H (upd H' m u) := fun b o hb => by
    by_cases e : b = m
    · subst e
      rw [upd_same, ← h, hb]
    · rw [upd_ne e]
      exact s b o hb e
  have := S.grow q
  rw [ext_at h] at this
  exact this
theorem Fr.sb {m : Addr} {t : Tag} {u : HO} (f : Same F H) (s : SB m H H') (h : A.tag m = some t) (n : F m = none) (e : H' m = some u) : Fr F H A (ext F H H') H' A :=
  ⟨ext_sub f, fun b o hb nb => s b o hb (ne_untag h nb).symm, fun _ _ _ h => h, fun b o hb nb => ext_none hb nb, fun b o hb => by
    by_cases q : b = m
    · exact ⟨u, by rw [q]; exact e⟩
    · exact ⟨o, s b o hb q⟩, rfl⟩
theorem Srv.at (S : Srv D F H A g) {i : Nat} {p : Ge11.Player} (h : g.players[i]? = some p) : ∃ r, A.pr[i]? = some r ∧ r.p = p := by
  rw [← S.plE] at h
  obtain ⟨r, hr, e⟩ := map_at h
  exact ⟨r, hr, e.symm⟩
theorem hist_at {i : Nat} {h : List TV} (e : (A.pr.map (·.hist))[i]? = some h) : ∃ r, A.pr[i]? = some r ∧ r.hist = h := by
  obtain ⟨r, hr, e⟩ := map_at e
  exact ⟨r, hr, e.symm⟩
theorem Srv.plAt (S : Srv D F H A g) {i : Nat} {r : PRec} (h : A.pr[i]? = some r) : g.players[i]? = some r.p := by
  rw [← S.plE, List.getElem?_map, h]
  rfl
theorem Srv.ref (S : Srv D F H A g) {i : Nat} {r : PRec} (h : A.pr[i]? = some r) : (A.pr.map fun r => V.ref r.pa)[i]? = some (.ref r.pa) := by
  rw [List.getElem?_map, h]
  rfl
end
theorem pl_known {p : Ge11.Player} {sd ca : Addr} : (fl plN (plV p sd ca)).lookup ("known" : Str) = some (nV p.known.1) := fl_look 2 (by decide +kernel) rfl
theorem pl_own {p : Ge11.Player} {sd ca : Addr} : (fl plN (plV p sd ca)).lookup ("own" : Str) = some (nV p.own) := fl_look 0 (by decide +kernel) rfl
theorem pl_far {p : Ge11.Player} {sd ca : Addr} : (fl plN (plV p sd ca)).lookup ("far" : Str) = some (nV p.far) := fl_look 1 (by decide +kernel) rfl
theorem pl_sent {p : Ge11.Player} {sd ca : Addr} : (fl plN (plV p sd ca)).lookup ("sent" : Str) = some (.ref sd) := fl_look 3 (by decide +kernel) rfl
theorem pl_client {p : Ge11.Player} {sd ca : Addr} : (fl plN (plV p sd ca)).lookup ("client" : Str) = some (.ref ca) := fl_look 4 (by decide +kernel) rfl
theorem wo_sender {x y : V} : (fl woN [x, y]).lookup ("sender" : Str) = some x := fl_look 0 (by decide +kernel) rfl
theorem wo_tick {x y : V} : (fl woN [x, y]).lookup ("tick" : Str) = some y := fl_look 1 (by decide +kernel) rfl
theorem max_nat (a b : Nat) : (if ((b : Nat) : Int) > ((a : Nat) : Int) then ((b : Nat) : Int) else ((a : Nat) : Int)) = ((max a b : Nat) : Int) := by
  split <;> omega
section
variable {P : Program} {w : World} {K : PySem.W.Frag} {mg : Str → Option Value} {base : Heap} {D : Cs}
def spWord (D : Cs) : Sp := fun vs H Q _ => ∃ (F : Hp) (A : Ad) (g : Ge11.St) (n i : Nat), vs = [.ref A.s, nV i] ∧ Srv D F H A g ∧ Good (A.pr.map (·.hist)) g n ∧ n ≤ 1000 ∧ Outcome D F H A g n (.ackArrive i) Q
theorem scWord : FnScope ["self", "place", "word", "player"] ["self", "place"] (defScope sSWord) := ⟨rfl, rfl, rfl, by decide +kernel, rfl, by decide +kernel, by decide +kernel⟩
theorem ok_word {f : Addr} {fd : FuncData} (F : Fun K "word_arrives" "Server.word_arrives" sSWord f fd) (T : Cl K mg "Server" D.CS seN) (TP : Cl K mg "Player" D.CP plN) (TW : Cl K mg "Word" D.CW woN) (M : Mgs mg) : FnOk P w K mg base CX0 1 f fd ["self", "place"] (spWord D) := by
  refine F.ok scWord (fun vs H Q E h => ?_) (fun cdv A outer s H vs Q E hr h => ?_)
  · obtain ⟨F, A, g, n, i, rfl, _⟩ := h
    rfl
  · obtain ⟨F, A, g, n, i, rfl, S, G, hn, k⟩ := h
    obtain ⟨xs, hx, hL⟩ := S.acks
    refine ⟨_, pss_cons (ps_if (pt_cmpR op_ge (pv 1) (pe_callB call_len_seq (by rfl) M.len PySem.boot_len (pa_cons (pe_fld (pv 0) rfl) pa_nil)) (nomark _)) (pss_one (ps_ret (pe_lst (pa_cons (pe_const M.NS) pa_nil)))) pss_nil)
      (pss_cons (ps_set (i := 2) scWord.nd rfl (Or.inl rfl) (pe_bm PySem.F.plainAttrs_list PySem.F.slot_list_pop PySem.F.type_list_pop mt_popAt (pe_fld (pv 0) rfl) (pa_cons (pv 1) pa_nil)))
      (pss_cons (ps_set (i := 3) scWord.nd rfl (Or.inl rfl) (pe_ix ix_list (pe_fld (pv 0) rfl) (pe_fld (pv 2) rfl) (fun _ _ => rfl)))
      (pss_cons (ps_fld (pv 3) (pe_callB (call_max2 rfl) (by rfl) M.max (by decide +kernel) (pa_cons (pe_fld (pv 3) rfl) (pa_cons (pe_fld (pv 2) rfl) pa_nil))) rfl)
      (pss_one (ps_ret (pe_lst (pa_cons (pe_fld (pv 2) rfl) (pa_cons (pe_fld (pv 3) rfl) pa_nil)))))))), ?_⟩
    refine ⟨_, rfl, _, rfl, A.s, D.CS, A.sdx, _, _, rfl, S.srv, T.cl, T.at 4, se_words, A.lW, _, rfl, .inl (SqL.of hx), _, _, rfl, rfl, _, rfl, ?_⟩
    have el := hL.len
    by_cases c : g.acks.length ≤ i
    · have e : Ge11.step g (.ackArrive i) = (g, [-2]) := by
        show (match g.acks[i]? with | none => _ | some x => _) = _
        rw [List.getElem?_eq_none c]
      refine if_true_of (decide_eq_true (by rw [el]; omega)) ⟨by show 1 ≤ sizeLine; decide, fun p hp => ?_⟩
      exact finish k e S G.succ Fr.refl hp rfl
    · have hi : i < g.acks.length := Nat.lt_of_not_le c
      have hi' : i < xs.length := by omega
      refine if_false_of (decide_eq_false (by rw [el]; omega)) ?_
      obtain ⟨x, hxi⟩ : ∃ x, g.acks[i]? = some x := ⟨_, List.getElem?_eq_some_iff.mpr ⟨hi, rfl⟩⟩
      obtain ⟨v, hv, wa, wdx, rfl, hw⟩ := hL.get hxi
      have an := G.an
      refine ⟨_, rfl, A.s, D.CS, A.sdx, _, _, rfl, S.srv, T.cl, T.at 4, se_words, .inl ⟨rfl, _, SqL.of hx⟩, _, rfl, A.lW, xs, ((i : Nat) : Int), i, _, rfl, rfl, hx, by omega, by omega, seq_at hi', hv, ?_⟩
      have S1 := S.setWords (hL.erase i)
      obtain ⟨h, hh, v0, mv⟩ := G.ak x (List.mem_of_getElem? hxi)
      obtain ⟨r, hr1, rfl⟩ := hist_at hh
      have hpl := S.plAt hr1
      have P1 := S1.plA x.1 r hr1
      have hw1 := S1.same _ _ hw
      refine ⟨_, rfl, A.s, D.CS, A.sdx, _, _, rfl, S1.srv, T.cl, T.at 1, se_players, _, rfl, wa, D.CW, wdx, _, _, rfl, hw1, TW.cl, TW.at 0, wo_sender, A.lP, _, _, _, rfl, rfl, SqL.of S1.pls, atI_nat (S1.ref hr1), ?_⟩
      refine ⟨_, rfl, r.pa, D.CP, r.pdx, _, _, rfl, P1.pl, TP.cl, TP.at 2, pl_known, _, rfl, wa, D.CW, wdx, _, _, rfl, hw1, TW.cl, TW.at 1, wo_tick, _, _, rfl, ?_⟩
      refine ⟨_, rfl, r.pa, D.CP, r.pdx, _, rfl, P1.pl, TP.cl, TP.at 2, fl_few (by show 5 < 1000; decide), ?_⟩
      obtain ⟨gp, ek, eo, ef, eh⟩ := (G.pl x.1 r.p r.hist hpl hh).acked mv
      rw [max_nat, fl_put (k := "known") 2 (by decide +kernel) rfl]
      have er : (plV r.p r.sd r.ca).set 2 (.int ((max r.p.known.1 x.2 : Nat) : Int)) = plV (Ge11.acked r.p x.2) r.sd r.ca := by
        unfold plV
        rw [eo, ef, ek]
        rfl
      rw [er]
      obtain ⟨t1, t2, t3⟩ := S1.tags.pr x.1 r hr1
      have S2 := S1.setPlayer (r' := { r with p := Ge11.acked r.p x.2 }) (o := .ins D.CP r.pdx (fl plN (plV (Ge11.acked r.p x.2) r.sd r.ca))) hr1 (m := r.pa) (.inl t1) ⟨rfl, rfl, rfl⟩ (by
        obtain ⟨kvs, q1, q2⟩ := P1.sent
        refine ⟨upd_same, Eq.trans (upd_ne (ne_tag t2 t1 (fun z => (nomatch z)))) P1.cl, ⟨kvs, Eq.trans (upd_ne (ne_tag t3 t1 (fun z => (nomatch z)))) q1, q2⟩, ?_⟩
        show ViewsAt F (Ge11.acked r.p x.2).has r.cd
        rw [eh]
        exact P1.views)
      have P2 := S2.plA x.1 { r with p := Ge11.acked r.p x.2 } (by
        show (A.pr.set x.1 _)[x.1]? = _
        rw [List.getElem?_set_self (List.getElem?_eq_some_iff.mp hr1).1])
      refine ⟨_, rfl, wa, D.CW, wdx, _, _, rfl, S2.same _ _ hw, TW.cl, TW.at 0, wo_sender, _, rfl, r.pa, D.CP, r.pdx, _, _, rfl, P2.pl, TP.cl, TP.at 2, pl_known, by show 2 ≤ sizeLine; decide, fun p hp => ?_⟩
      have e : Ge11.step g (.ackArrive i) = ({ g with acks := g.acks.eraseIdx i, players := g.players.set x.1 (Ge11.acked r.p x.2) }, Ge11.ints [x.1, (Ge11.acked r.p x.2).known.1]) := by
        show (match g.acks[i]? with | none => _ | some x => _) = _
        rw [hxi]
        show ((_, _) : Ge11.St × List Int) = _
        rw [hpl]
        show ((_, Ge11.ints [x.1, (((g.players.set x.1 (Ge11.acked r.p x.2))[x.1]?).map fun p => p.known.1).getD 0]) : Ge11.St × List Int) = _
        rw [List.getElem?_set_self (List.getElem?_eq_some_iff.mp hpl).1]
        rfl
      have G2 : Good (A.pr.map (·.hist)) { g with acks := g.acks.eraseIdx i, players := g.players.set x.1 (Ge11.acked r.p x.2) } (n + 1) := (G.ackLose i).set fun h' eh' => by
        rw [hh] at eh'
        cases eh'
        exact gp
      refine finish k e S2 ?_ ((Fr.own S.tags.lW).trans (Fr.own (A := A) t1).put) hp rfl
      have em : (A.put x.1 { r with p := Ge11.acked r.p x.2 }).pr.map (·.hist) = A.pr.map (·.hist) := set_map_same hr1 rfl
      rw [em]
      exact G2
end
end Net

set_option Elab.async false
set_option linter.all false
set_option maxRecDepth 100000
set_option maxHeartbeats 2000000
namespace Net
open PySem PySem.Spec PyProof.Rows L2 NM
section
variable {P : Program} {w : World} {K : PySem.W.Frag} {mg : Str → Option Value} {base : Heap} {D : Cs}
def spArr (D : Cs) : Sp := fun vs H Q _ => ∃ (F : Hp) (A : Ad) (g : Ge11.St) (n i : Nat), vs = [.ref A.s, nV i] ∧ Srv D F H A g ∧ Good (A.pr.map (·.hist)) g n ∧ n ≤ 1000 ∧ Outcome D F H A g n (.arrive i) Q
theorem scArr : FnScope ["self", "place", "letter", "client"] ["self", "place"] (defScope sSArr) := ⟨rfl, rfl, rfl, by decide +kernel, rfl, by decide +kernel, by decide +kernel⟩
theorem ok_arr {f : Addr} {fd : FuncData} (F : Fun K "letter_arrives" "Server.letter_arrives" sSArr f fd) (T : Cl K mg "Server" D.CS seN) (TP : Cl K mg "Player" D.CP plN) (TW : Cl K mg "Word" D.CW woN) (TL : Cl K mg "Letter" D.CL leN) (TC : Cl K mg "Client" D.CC clN) (M : Mgs mg)
    (MC : MethOk P w K mg base 1 D.CC "can_take" ["self", "letter"] (spCan D.CL D.CC)) (MT : MethOk P w K mg base 2 D.CC "take" ["self", "letter"] (spTake D.CL D.CC)) (MW : MakeOk P w K mg base 1 D.CW ["self", "sender", "tick"] (spWordI D.CW)) :
    FnOk P w K mg base CX0 3 f fd ["self", "place"] (spArr D) := by
  obtain ⟨f1, fd1, G1, b1, m1⟩ := MC.ex
  obtain ⟨f2, fd2, G2, b2, m2⟩ := MT.ex
  obtain ⟨f3, fd3, G3, b3, m3⟩ := MW.ex
  refine F.ok scArr (fun vs H Q E h => ?_) (fun cdv A outer s H vs Q E hr h => ?_)
  · obtain ⟨F, A, g, n, i, rfl, _⟩ := h
    rfl
  · obtain ⟨F, A, g, n, i, rfl, S, G, hn, k⟩ := h
    obtain ⟨xs, hx, hL⟩ := S.lets
    have hr1 : Room 1 _ := hr.mono (by decide)
    refine ⟨_, pss_cons (ps_if (pt_cmpR op_ge (pv 1) (pe_callB call_len_seq (by rfl) M.len PySem.boot_len (pa_cons (pe_fld (pv 0) rfl) pa_nil)) (nomark _)) (pss_one (ps_ret (pe_lst (pa_cons (pe_const M.NS) pa_nil)))) pss_nil)
      (pss_cons (ps_set (i := 2) scArr.nd rfl (Or.inl rfl) (pe_bm PySem.F.plainAttrs_list PySem.F.slot_list_pop PySem.F.type_list_pop mt_popAt (pe_fld (pv 0) rfl) (pa_cons (pv 1) pa_nil)))
      (pss_cons (ps_set (i := 3) scArr.nd rfl (Or.inl rfl) (pe_fld (pe_ix ix_list (pe_fld (pv 0) rfl) (pe_fld (pv 2) rfl) (fun _ _ => rfl)) rfl))
      (pss_cons (ps_if (pt_not (pt_val (pe_meth (pv 3) TC.cl m1 G1 hr1 b1 .nil pass0 (pa_cons (pv 2) pa_nil)))) (pss_one (ps_ret (pe_lst (pa_cons (pe_fld (pv 2) rfl) (pa_cons (pe_fld (pv 2) rfl) (pa_cons pe_int pa_nil)))))) pss_nil)
      (pss_cons (ps_expr (pe_meth (pv 3) TC.cl m2 G2 hr b2 .nil pass0 (pa_cons (pv 2) pa_nil)))
      (pss_cons (ps_expr (pe_bm PySem.F.plainAttrs_list PySem.F.slot_list_append PySem.F.type_list_append mt_append (pe_fld (pv 0) rfl) (pa_cons (pe_make m3 G3 hr rfl TW.mg b3 .nil pass0 (pa_cons (pe_fld (pv 2) rfl) (pa_cons (pe_fld (pv 2) rfl) pa_nil))) pa_nil)))
      (pss_one (ps_ret (pe_lst (pa_cons (pe_fld (pv 2) rfl) (pa_cons (pe_fld (pv 2) rfl) (pa_cons pe_int pa_nil))))))))))), ?_⟩
    refine ⟨_, rfl, _, rfl, A.s, D.CS, A.sdx, _, _, rfl, S.srv, T.cl, T.at 3, se_letters, A.lL, _, rfl, .inl (SqL.of hx), _, _, rfl, rfl, _, rfl, ?_⟩
    have el := hL.len
    by_cases c : g.letters.length ≤ i
    · have e : Ge11.step g (.arrive i) = (g, [-2]) := by
        show (match g.letters[i]? with | none => _ | some x => _) = _
        rw [List.getElem?_eq_none c]
      refine if_true_of (decide_eq_true (by rw [el]; omega)) ⟨by show 1 ≤ sizeLine; decide, fun p hp => ?_⟩
      exact finish k e S G.succ Fr.refl hp rfl
    · have hi : i < g.letters.length := Nat.lt_of_not_le c
      have hi' : i < xs.length := by omega
      refine if_false_of (decide_eq_false (by rw [el]; omega)) ?_
      obtain ⟨x, hxi⟩ : ∃ x, g.letters[i]? = some x := ⟨_, List.getElem?_eq_some_iff.mpr ⟨hi, rfl⟩⟩
      obtain ⟨v, hv, hLet⟩ := hL.get hxi
      obtain ⟨la, ldx, pd, gl, rfl, hla, _, _⟩ := id hLet
      have l30 := G.l30
      refine ⟨_, rfl, A.s, D.CS, A.sdx, _, _, rfl, S.srv, T.cl, T.at 3, se_letters, .inl ⟨rfl, _, SqL.of hx⟩, _, rfl, A.lL, xs, ((i : Nat) : Int), i, _, rfl, rfl, hx, by omega, by omega, seq_at hi', hv, ?_⟩
      have S1 := S.setLets (hL.erase i)
      obtain ⟨h, hh, gL⟩ := G.lt x (List.mem_of_getElem? hxi)
      obtain ⟨r, hr1', rfl⟩ := hist_at hh
      have hpl := S.plAt hr1'
      have gp := G.pl x.1 r.p r.hist hpl hh
      have P1 := S1.plA x.1 r hr1'
      have hl1 := S1.same _ _ hla
      refine ⟨_, rfl, A.s, D.CS, A.sdx, _, _, rfl, S1.srv, T.cl, T.at 1, se_players, _, rfl, la, D.CL, ldx, _, _, rfl, hl1, TL.cl, TL.at 0, le_rec, A.lP, _, _, _, rfl, rfl, SqL.of S1.pls, atI_nat (S1.ref hr1'), r.pa, D.CP, r.pdx, _, _, rfl, P1.pl, TP.cl, TP.at 4, pl_client, ?_⟩
      refine ⟨_, rfl, r.ca, r.cdx, _, rfl, P1.cl, fl_no (by decide +kernel), _, rfl, F, r.ca, r.cdx, r.cd, _, x, r.p.has, rfl, P1.cl, S1.same, hLet, P1.views, fun H2 s12 s21 => ⟨_, rfl, ?_⟩⟩
      have S2 := S1.grow s12
      have f2 : Fr F H A (ext F _ H2) H2 A := (Fr.own S.tags.lL).trans (Fr.grow S1.same s12)
      generalize ext F (upd H A.lL (HO.lst (xs.eraseIdx i))) H2 = F2 at S2 f2
      have hLet2 := hLet.mono f2.same
      have hl2 := s12 _ _ hl1
      have P2 := S2.plA x.1 r hr1'
      cases et : takes r.p.has x.2 with
      | false =>
        have ec := comes_no gp.hd et
        have e : Ge11.step g (.arrive i) = ({ g with letters := g.letters.eraseIdx i, players := g.players.set x.1 r.p }, Ge11.ints [x.1, x.2.tick, 0]) := by
          show (match g.letters[i]? with | none => _ | some x => _) = _
          rw [hxi]
          show ((_, _) : Ge11.St × List Int) = _
          rw [hpl]
          show (({ g with letters := g.letters.eraseIdx i, players := g.players.set x.1 (Ge11.comes r.p x.2).1, acks := if (Ge11.comes r.p x.2).2 = true then _ else _ }, Ge11.ints [x.1, x.2.tick, if (Ge11.comes r.p x.2).2 = true then 1 else 0]) : Ge11.St × List Int) = _
          rw [ec]
          rfl
        have es : g.players.set x.1 r.p = g.players := by
          apply List.ext_getElem?
          intro j
          rw [List.getElem?_set]
          by_cases q : x.1 = j
          · rw [if_pos q, if_pos (List.getElem?_eq_some_iff.mp hpl).1, ← q, hpl]
          · rw [if_neg q]
        rw [es] at e
        refine if_true_of rfl ?_
        refine ⟨_, rfl, la, D.CL, ldx, _, _, rfl, hl2, TL.cl, TL.at 0, le_rec, _, rfl, la, D.CL, ldx, _, _, rfl, hl2, TL.cl, TL.at 1, le_tick, by show 3 ≤ sizeLine; decide, fun p hp => ?_⟩
        exact finish k e S2 (G.lose i) f2 hp rfl
      | true =>
        refine if_false_of rfl ?_
        obtain ⟨b, eb⟩ := takes_base et
        have ec := comes_yes gp.hd et eb
        obtain ⟨mb, mt, sb, lb, sp, lp⟩ := gp.base gL eb
        have hnd : Nd tk r.p.has := by
          unfold Nd List.Nodup
          rw [List.pairwise_map]
          exact gp.hd.imp fun q e => by
            have q : tk _ < tk _ := q
            rw [e] at q
            exact Nat.lt_irrefl _ q
        have hlen : r.p.has.length ≤ 100 := by
          have hsub : ∀ y ∈ r.p.has.map tk, y ∈ (List.range 60) := by
            intro y hy
            obtain ⟨q, hq, rfl⟩ := List.mem_map.mp hy
            have := (gp.lo q (gp.has q hq)).2
            have t60 := G.t60
            exact List.mem_range.mpr (by show q.1 < 60; omega)
          have := List.Nodup.length_le_of_subset (l₁ := r.p.has.map tk) (l₂ := List.range 60) hnd hsub
          rw [List.length_map, List.length_range] at this
          omega
        refine ⟨_, rfl, r.ca, r.cdx, _, rfl, P2.cl, fl_no (by decide +kernel), _, rfl, F2, r.ca, r.cdx, r.cd, _, x, r.p.has, b, rfl, P2.cl, S2.same, (S2.live _ _ (S2.tags.pr x.1 r hr1').2.1).1, hLet2, P2.views, eb, takes_lt et,
          fun q hq => (gp.lo q (gp.has q hq)).1, hnd, hlen, sb, sp, by omega, by omega, fun H3 cd' s23 hca3 hvw3 => ?_⟩
        obtain ⟨t1, t2, t3⟩ := S2.tags.pr x.1 r hr1'
        have Sb := S2.back s23 P2.cl
        have f3 : Fr F H A (ext F2 H2 H3) H3 A := f2.trans (Fr.sb S2.same s23 t2 (S2.live _ _ t2).1 hca3)
        have sm3 : Same F2 (ext F2 H2 H3) := ext_sub S2.same
        have Pb := Sb.plA x.1 r hr1'
        have S3 := Sb.setPlayer (r' := { r with p := (Ge11.comes r.p x.2).1, cd := cd' }) (o := .ins D.CC r.cdx (fl clN [V.ref cd'])) hr1' (m := r.ca) (.inr (.inl t2)) ⟨rfl, rfl, rfl⟩ (by
          obtain ⟨kvs, q1, q2⟩ := Pb.sent
          rw [ec]
          exact ⟨Eq.trans (upd_ne (ne_tag t1 t2 (fun z => (nomatch z)))) Pb.pl, upd_same, ⟨kvs, Eq.trans (upd_ne (ne_tag t3 t2 (fun z => (nomatch z)))) q1, q2⟩, hvw3⟩)
        rw [upd_upd, upd_self hca3] at S3
        have f3 : Fr F H A (ext F2 H2 H3) H3 (A.put x.1 { r with p := (Ge11.comes r.p x.2).1, cd := cd' }) := ⟨f3.same, f3.keep, f3.out, f3.fno, f3.live, f3.s⟩
        generalize ext F2 H2 H3 = F3 at S3 f3 hvw3 sm3
        have hl3 := S3.same _ _ (f3.same _ _ hla)
        obtain ⟨ws, hws, hW⟩ := S3.acks
        generalize hA3 : A.put x.1 { r with p := (Ge11.comes r.p x.2).1, cd := cd' } = A3 at S3 f3 hws
        have es3 : A3.s = A.s := f3.s
        have hsrv3 := S3.srv
        rw [es3] at hsrv3
        -- self.words.append(Word(letter.receiver, letter.tick))
        refine ⟨_, rfl, A.s, D.CS, A3.sdx, _, _, rfl, hsrv3, T.cl, T.at 4, se_words, .inl ⟨rfl, _, SqL.of hws⟩, ?_⟩
        refine ⟨_, rfl, la, D.CL, ldx, _, _, rfl, hl3, TL.cl, TL.at 0, le_rec, _, rfl, la, D.CL, ldx, _, _, rfl, hl3, TL.cl, TL.at 1, le_tick, ?_⟩
        intro wx wdx nx nd ne
        refine ⟨wx, wdx, nV x.1, nV x.2.tick, rfl, upd_same, rfl, ?_⟩
        rw [upd_upd]
        generalize hH4 : upd (upd H3 wdx (.own wx)) wx (.ins D.CW wdx (fl woN [nV x.1, nV x.2.tick])) = H4
        have s34 : Same H3 H4 := fun b o hb => by
          rw [← hH4, upd_ne (ne_of_none hb nx), upd_ne (ne_of_none hb nd)]
          exact hb
        have hwx : H4 wx = some (.ins D.CW wdx (fl woN [nV x.1, nV x.2.tick])) := hH4 ▸ upd_same
        have S4 := S3.grow s34
        have f4 : Fr F H A (ext F3 H3 H4) H4 A3 := f3.trans (Fr.grow S3.same s34)
        have wat : WordAt D.CW (ext F3 H3 H4) (x.1, x.2.tick) (.ref wx) := ⟨wx, wdx, rfl, (ext_new nx).trans hwx⟩
        have hW4 := hW.mono (R' := WordAt D.CW (ext F3 H3 H4)) fun _ _ q => q.mono (ext_sub S3.same)
        generalize ext F3 H3 H4 = F4 at S4 f4 wat hW4
        have hws4 := s34 _ _ hws
        have an := G.an
        have ewl : ws.length = g.acks.length := hW.len
        refine ⟨A3.lW, ws, .ref wx, rfl, rfl, hws4, by rw [ewl]; exact Nat.lt_of_le_of_lt (Nat.le_trans an hn) (by decide), ?_⟩
        have S5 := S4.setWords (hW4.snoc wat)
        have f5 : Fr F H A F4 _ A3 := f4.trans (Fr.own (F := F4) (H := H4) (A := A3) (o := .lst (ws ++ [V.ref wx])) S4.tags.lW)
        have hl5 := S5.same _ _ (f5.same _ _ hla)
        refine ⟨_, rfl, la, D.CL, ldx, _, _, rfl, hl5, TL.cl, TL.at 0, le_rec, _, rfl, la, D.CL, ldx, _, _, rfl, hl5, TL.cl, TL.at 1, le_tick, by show 3 ≤ sizeLine; decide, fun p hp => ?_⟩
        have e : Ge11.step g (.arrive i) = ({ g with letters := g.letters.eraseIdx i, players := g.players.set x.1 (Ge11.comes r.p x.2).1, acks := g.acks ++ [(x.1, x.2.tick)] }, Ge11.ints [x.1, x.2.tick, 1]) := by
          show (match g.letters[i]? with | none => _ | some x => _) = _
          rw [hxi]
          show ((_, _) : Ge11.St × List Int) = _
          rw [hpl]
          show (({ g with letters := g.letters.eraseIdx i, players := g.players.set x.1 (Ge11.comes r.p x.2).1, acks := if (Ge11.comes r.p x.2).2 = true then _ else _ }, Ge11.ints [x.1, x.2.tick, if (Ge11.comes r.p x.2).2 = true then 1 else 0]) : Ge11.St × List Int) = _
          have e2 : (Ge11.comes r.p x.2).2 = true := by rw [ec]
          rw [if_pos e2, if_pos e2]
        refine finish k e S5 ?_ f5 hp rfl
        have em : A3.pr.map (·.hist) = A.pr.map (·.hist) := by
          rw [← hA3]
          exact set_map_same hr1' rfl
        rw [em]
        have G3 : Good (A.pr.map (·.hist)) { g with letters := g.letters.eraseIdx i, players := g.players.set x.1 (Ge11.comes r.p x.2).1 } n := (G.lose0 i).set fun h' eh' => by
          rw [hh] at eh'
          cases eh'
          rw [ec]
          exact gp.taken gL eb et
        exact G3.pushAck hh mt
end
end Net

set_option Elab.async false
set_option linter.all false
set_option maxRecDepth 100000
set_option maxHeartbeats 2000000
namespace Net
open PySem PySem.Spec PyProof.Rows L2 NM
section
variable {P : Program} {w : World} {K : PySem.W.Frag} {mg : Str → Option Value} {base : Heap} {D : Cs}
def spPla (D : Cs) : Sp := fun vs H Q _ => ∃ (F : Hp) (A : Ad) (g : Ge11.St) (n o f : Nat), vs = [.ref A.s, nV o, nV f] ∧ Srv D F H A g ∧ Good (A.pr.map (·.hist)) g n ∧ Outcome D F H A g n (.player o f) Q
theorem scPla : FnScope ["self", "own", "far"] ["self", "own", "far"] (defScope sSPlayer) := ⟨rfl, rfl, rfl, by decide +kernel, rfl, by decide +kernel, by decide +kernel⟩
theorem ok_pla {f : Addr} {fd : FuncData} (F : Fun K "add_player" "Server.add_player" sSPlayer f fd) (T : Cl K mg "Server" D.CS seN) (TP : Cl K mg "Player" D.CP plN) (M : Mgs mg) (MP : MakeOk P w K mg base 3 D.CP ["self", "own", "far"] (spPlaI D.CP D.CC)) :
    FnOk P w K mg base CX0 5 f fd ["self", "own", "far"] (spPla D) := by
  obtain ⟨f1, fd1, G1, b1, m1⟩ := MP.ex
  refine F.ok scPla (fun vs H Q E h => ?_) (fun cdv A outer s H vs Q E hr h => ?_)
  · obtain ⟨F, A, g, n, o, f, rfl, _⟩ := h
    rfl
  · obtain ⟨F, A, g, n, o, f, rfl, S, G, k⟩ := h
    refine ⟨_, pss_cons (ps_if (pt_cmpR op_gt (pe_callB (call_max2 rfl) (by rfl) M.max (by decide +kernel) (pa_cons (pv 1) (pa_cons (pv 2) pa_nil))) (pe_const M.HN) (nomark _)) (pss_one (ps_ret (pe_lst (pa_cons (pe_const M.AH) pa_nil)))) pss_nil)
      (pss_cons (ps_if (pt_cmpR op_ge (pe_callB call_len_seq (by rfl) M.len PySem.boot_len (pa_cons (pe_fld (pv 0) rfl) pa_nil)) (pe_const M.MP) (nomark _)) (pss_one (ps_ret (pe_lst (pa_cons (pe_const M.TM) pa_nil)))) pss_nil)
      (pss_cons (ps_expr (pe_bm PySem.F.plainAttrs_list PySem.F.slot_list_append PySem.F.type_list_append mt_append (pe_fld (pv 0) rfl) (pa_cons (pe_make m1 G1 hr rfl TP.mg b1 .nil pass0 (pa_cons (pv 1) (pa_cons (pv 2) pa_nil))) pa_nil)))
      (pss_one (ps_ret (pe_lst (pa_cons (pe_op op_sub (pe_callB call_len_seq (by rfl) M.len PySem.boot_len (pa_cons (pe_fld (pv 0) rfl) pa_nil)) pe_int) pa_nil)))))), ?_⟩
    refine ⟨_, rfl, _, rfl, _, _, rfl, _, _, rfl, rfl, _, rfl, ?_⟩
    rw [max_nat]
    by_cases c1 : 99 < o ∨ 99 < f
    · have e : Ge11.step g (.player o f) = (g, [-1]) := if_pos c1
      refine if_true_of (decide_eq_true (by omega)) ⟨by show 1 ≤ sizeLine; decide, fun p hp => ?_⟩
      exact finish k e S G.succ Fr.refl hp rfl
    · refine if_false_of (decide_eq_false (by omega)) ?_
      have el : (A.pr.map fun r => V.ref r.pa).length = g.players.length := by rw [← S.plE, List.length_map, List.length_map]
      refine ⟨_, rfl, A.s, D.CS, A.sdx, _, _, rfl, S.srv, T.cl, T.at 1, se_players, A.lP, _, rfl, .inl (SqL.of S.pls), _, _, rfl, rfl, _, rfl, ?_⟩
      rw [el]
      by_cases c2 : 4 ≤ g.players.length
      · have e : Ge11.step g (.player o f) = (g, [-5]) := by
          show (if _ then _ else if _ then _ else _) = _
          rw [if_neg c1, if_pos c2]
        refine if_true_of (decide_eq_true (by omega)) ⟨by show 1 ≤ sizeLine; decide, fun p hp => ?_⟩
        exact finish k e S G.succ Fr.refl hp rfl
      · have e : Ge11.step g (.player o f) = ({ g with players := g.players ++ [⟨o, f, [], (0, []), []⟩] }, Ge11.ints [g.players.length]) := by
          show (if _ then _ else if _ then _ else _) = _
          rw [if_neg c1, if_neg c2]
        refine if_false_of (decide_eq_false (by omega)) ?_
        refine ⟨_, rfl, A.s, D.CS, A.sdx, _, _, rfl, S.srv, T.cl, T.at 1, se_players, .inl ⟨rfl, _, SqL.of S.pls⟩, _, rfl, _, rfl, ?_⟩
        intro x dx nx nd ne
        refine ⟨x, dx, nV o, nV f, rfl, upd_same, fun H1 sd e0 ca cdx cd s01 nsd ne0 nca ncd hx1 hsd1 he1 hca1 hcd1 => ⟨rfl, ?_⟩⟩
        have sN : Same H (upd (upd H dx (.own x)) x (.ins D.CP dx [])) := fun b o hb => by
          rw [upd_ne (ne_of_none hb nx), upd_ne (ne_of_none hb nd)]
          exact hb
        have s1 : Same H H1 := fun b o hb => s01 b o (sN b o hb) (ne_of_none hb nx)
        have nsd0 := sN.free nsd
        have ne00 := sN.free ne0
        have nca0 := sN.free nca
        have ncd0 := sN.free ncd
        refine ⟨A.lP, _, .ref x, rfl, rfl, s1 _ _ S.pls, by rw [el]; exact Nat.lt_of_le_of_lt G.p4 (by decide), ?_⟩
        -- the new state
        have axs : x ≠ sd := fun z => by
          rw [← z, upd_same] at nsd
          cases nsd
        have axc : x ≠ ca := fun z => by
          rw [← z, upd_same] at nca
          cases nca
        have acs : ca ≠ sd := ne_of hca1 hsd1 (by intro z; cases z)
        have aes : e0 ≠ sd := ne_of he1 hsd1 (by intro z; cases z)
        have ads : cd ≠ sd := ne_of hcd1 hsd1 (by intro z; cases z)
        have aex : e0 ≠ x := ne_of he1 hx1 (by intro z; cases z)
        have aec : e0 ≠ ca := ne_of he1 hca1 (by intro z; cases z)
        have adx : cd ≠ x := ne_of hcd1 hx1 (by intro z; cases z)
        have adc : cd ≠ ca := ne_of hcd1 hca1 (by intro z; cases z)
        have T0 := S.tags
        have old : ∀ {m : Addr} {t : Tag}, A.tag m = some t → m ≠ x ∧ m ≠ ca ∧ m ≠ sd := fun {m t} h => by
          obtain ⟨_, u, hu⟩ := S.live m t h
          exact ⟨ne_of_none hu nx, ne_of_none hu nca0, ne_of_none hu nsd0⟩
        let tg : Addr → Option Tag := fun b => if b = x then some (.pl A.pr.length) else if b = ca then some (.cl A.pr.length) else if b = sd then some (.snt A.pr.length) else A.tag b
        let R : PRec := ⟨⟨o, f, [], (0, []), []⟩, [], x, dx, ca, cdx, sd, cd⟩
        let A' : Ad := { A with pr := A.pr ++ [R], tag := tg }
        let F' : Hp := fun b => if b = x ∨ b = ca ∨ b = sd then none else ext F H H1 b
        have tx : tg x = some (.pl A.pr.length) := if_pos rfl
        have tc : tg ca = some (.cl A.pr.length) := (if_neg axc.symm).trans (if_pos rfl)
        have ts : tg sd = some (.snt A.pr.length) := (if_neg axs.symm).trans ((if_neg acs.symm).trans (if_pos rfl))
        have to : ∀ b, b ≠ x → b ≠ ca → b ≠ sd → tg b = A.tag b := fun b n1 n2 n3 => (if_neg n1).trans ((if_neg n2).trans (if_neg n3))
        have told : ∀ {m : Addr} {t : Tag}, A.tag m = some t → tg m = some t := fun {m t} h => by
          obtain ⟨n1, n2, n3⟩ := old h
          rw [to m n1 n2 n3, h]
        have Fo : ∀ b, b ≠ x → b ≠ ca → b ≠ sd → F' b = ext F H H1 b := fun b n1 n2 n3 => if_neg fun z => by
          rcases z with z | z | z
          · exact n1 z
          · exact n2 z
          · exact n3 z
        have FF : Same F F' := fun b u hb => by
          have hb' := S.same b u hb
          rw [Fo b (ne_of_none hb' nx) (ne_of_none hb' nca0) (ne_of_none hb' nsd0)]
          exact ext_sub S.same b u hb
        have FH : Same F' H1 := fun b u hb => by
          by_cases q : b = x ∨ b = ca ∨ b = sd
          · have : F' b = none := if_pos q
            rw [this] at hb
            cases hb
          · have : F' b = ext F H H1 b := if_neg q
            rw [this] at hb
            exact ext_in S.same s1 b u hb
        have nP : A.tag A.lP = some .pls := T0.lP
        obtain ⟨nPx, nPc, nPs⟩ := old nP
        have lP2 : ∀ b u, b ≠ A.lP → H1 b = some u → (upd H1 A.lP (.lst ((A.pr.map fun r => V.ref r.pa) ++ [V.ref x]))) b = some u := fun b u nb hb => Eq.trans (upd_ne nb) hb
        have F'P : F' A.lP = none := by
          rw [Fo _ nPx nPc nPs]
          exact ext_none S.pls (S.live _ _ nP).1
        have own2 : ∀ {m : Addr} {t : Tag}, A.tag m = some t → t ≠ .pls → ∀ u, H m = some u → (upd H1 A.lP (.lst ((A.pr.map fun r => V.ref r.pa) ++ [V.ref x]))) m = some u := fun {m t} h n u hu => lP2 m u (ne_tag h nP n) (s1 _ _ hu)
        have S2 : Srv D F' (upd H1 A.lP (.lst ((A.pr.map fun r => V.ref r.pa) ++ [V.ref x]))) A' { g with players := g.players ++ [⟨o, f, [], (0, []), []⟩] } := by
          refine ⟨same_of_upd FH F'P, ⟨told T0.s, told T0.dT, told T0.lP, told T0.lL, told T0.lW, fun i r h => ?_⟩, fun m t h => ?_, own2 T0.s (fun z => (nomatch z)) _ S.srv, S.things.mono FF (own2 T0.dT (fun z => (nomatch z))), ?_, ?_, fun i r h => ?_, ?_, ?_⟩
          · have h : (A.pr ++ [R])[i]? = some r := h
            by_cases q : i < A.pr.length
            · rw [List.getElem?_append_left q] at h
              obtain ⟨t1, t2, t3⟩ := T0.pr i r h
              exact ⟨told t1, told t2, told t3⟩
            · rw [List.getElem?_append_right (Nat.le_of_not_lt q)] at h
              obtain ⟨rfl, e1⟩ : r = R ∧ i - A.pr.length = 0 := by
                cases q2 : i - A.pr.length with
                | zero =>
                  rw [q2] at h
                  exact ⟨(Option.some.inj h).symm, rfl⟩
                | succ m =>
                  rw [q2] at h
                  cases h
              have ei : i = A.pr.length := by omega
              rw [ei]
              exact ⟨tx, tc, ts⟩
          · have h : tg m = some t := h
            by_cases q : m = x ∨ m = ca ∨ m = sd
            · refine ⟨if_pos q, ?_⟩
              rcases q with rfl | rfl | rfl
              · exact ⟨_, lP2 _ _ nPx.symm hx1⟩
              · exact ⟨_, lP2 _ _ nPc.symm hca1⟩
              · exact ⟨_, lP2 _ _ nPs.symm hsd1⟩
            · have q1 : m ≠ x := fun z => q (.inl z)
              have q2 : m ≠ ca := fun z => q (.inr (.inl z))
              have q3 : m ≠ sd := fun z => q (.inr (.inr z))
              rw [to m q1 q2 q3] at h
              obtain ⟨l1, u, l2⟩ := S.live m t h
              refine ⟨?_, ?_⟩
              · rw [Fo m q1 q2 q3]
                exact ext_none l2 l1
              · by_cases z : m = A.lP
                · exact ⟨_, by rw [z]; exact upd_same⟩
                · exact ⟨u, lP2 m u z (s1 _ _ l2)⟩
          · show upd H1 A.lP _ A.lP = some (.lst ((A.pr ++ [R]).map fun r => V.ref r.pa))
            rw [upd_same, List.map_append]
            rfl
          · show (A.pr ++ [R]).map (·.p) = g.players ++ [_]
            rw [List.map_append, S.plE]
            rfl
          · have h : (A.pr ++ [R])[i]? = some r := h
            by_cases q : i < A.pr.length
            · rw [List.getElem?_append_left q] at h
              obtain ⟨t1, t2, t3⟩ := T0.pr i r h
              exact (S.plA i r h).mono FF (own2 t1 (fun z => (nomatch z))) (own2 t2 (fun z => (nomatch z))) (own2 t3 (fun z => (nomatch z)))
            · rw [List.getElem?_append_right (Nat.le_of_not_lt q)] at h
              have er : r = R := by
                cases q2 : i - A.pr.length with
                | zero =>
                  rw [q2] at h
                  exact (Option.some.inj h).symm
                | succ m =>
                  rw [q2] at h
                  cases h
              subst er
              have fe : F' e0 = some (.dK []) := by
                rw [Fo e0 aex aec aes, ext_new ne00]
                exact he1
              have fc : F' cd = some (.dK []) := by
                rw [Fo cd adx adc ads, ext_new ncd0]
                exact hcd1
              exact ⟨lP2 _ _ nPx.symm hx1, lP2 _ _ nPc.symm hca1, ⟨_, lP2 _ _ nPs.symm hsd1, ⟨[((0, []), .ref e0)], rfl, rfl, fun q hq => by
                rw [List.mem_singleton.mp hq]
                exact ⟨e0, rfl, [], fe, DOf.nil⟩⟩⟩, ⟨[], fc, DOf.nil⟩⟩
          · obtain ⟨ys, h1, h2⟩ := S.lets
            exact ⟨ys, own2 T0.lL (fun z => (nomatch z)) _ h1, h2.mono fun _ _ q => q.mono FF⟩
          · obtain ⟨ys, h1, h2⟩ := S.acks
            exact ⟨ys, own2 T0.lW (fun z => (nomatch z)) _ h1, h2.mono fun _ _ q => q.mono FF⟩
        have f2 : Fr F H A F' (upd H1 A.lP (.lst ((A.pr.map fun r => V.ref r.pa) ++ [V.ref x]))) A' := by
          refine ⟨FF, fun b u hb nb => lP2 b u (ne_untag nP nb).symm (s1 _ _ hb), fun b u hb nb => ?_, fun b u hb nb => ?_, fun b u hb => ?_, rfl⟩
          · show tg b = none
            rw [to b (ne_of_none hb nx) (ne_of_none hb nca0) (ne_of_none hb nsd0)]
            exact nb
          · rw [Fo b (ne_of_none hb nx) (ne_of_none hb nca0) (ne_of_none hb nsd0)]
            exact ext_none hb nb
          · by_cases z : b = A.lP
            · exact ⟨_, by rw [z]; exact upd_same⟩
            · exact ⟨u, lP2 b u z (s1 _ _ hb)⟩
        refine ⟨_, rfl, A.s, D.CS, A.sdx, _, _, rfl, S2.srv, T.cl, T.at 1, se_players, A.lP, _, rfl, .inl (SqL.of upd_same), _, _, rfl, rfl, by show 1 ≤ sizeLine; decide, fun p hp => ?_⟩
        refine finish k e S2 ?_ f2 hp ?_
        · show Good ((A.pr ++ [R]).map (·.hist)) _ _
          rw [List.map_append]
          exact G.player o f c2
        · rw [List.length_append, el]
          show [V.int (((g.players.length + 1 : Nat) : Int) - 1)] = [V.int ((g.players.length : Nat) : Int)]
          congr 2
          omega
end
end Net

set_option Elab.async false
set_option linter.all false
set_option maxRecDepth 100000
set_option maxHeartbeats 2000000
namespace Net
open PySem PySem.Spec PyProof.Rows L2 NM
section
variable {P : Program} {w : World} {K : PySem.W.Frag} {mg : Str → Option Value} {base : Heap} {D : Cs}
def spVNow (D : Cs) : Sp := fun vs H Q _ => ∃ (F : Hp) (A : Ad) (g : Ge11.St) (i : Nat) (r : PRec), vs = [.ref A.s, .ref r.pa] ∧ Srv D F H A g ∧ A.pr[i]? = some r ∧ Srt Ge11.Thing.number g.world ∧ g.world.length ≤ 20 ∧
  ∀ (H' : Hp) (d : Addr), Same H H' → H d = none → ViewD (ext F H H') (Ge11.viewOf g.world r.p.own r.p.far) d → Q (.ref d) H'
theorem scVNow : FnScope ["self", "player"] ["self", "player"] (defScope sSView) := ⟨rfl, rfl, rfl, by decide +kernel, rfl, by decide +kernel, by decide +kernel⟩
theorem ok_vnow {f : Addr} {fd : FuncData} (F : Fun K "view_now" "Server.view_now" sSView f fd) (T : Cl K mg "Server" D.CS seN) (TP : Cl K mg "Player" D.CP plN) (N : DefOk P w K mg base 2 "view_of" ["things", "own", "far"] (spView D.CT)) : FnOk P w K mg base CX0 3 f fd ["self", "player"] (spVNow D) := by
  obtain ⟨f1, fd1, G1, b1, k1, m1⟩ := N.ex
  refine F.ok scVNow (fun vs H Q E h => ?_) (fun cdv A outer s H vs Q E hr h => ?_)
  · obtain ⟨F, A, g, i, r, rfl, _⟩ := h
    rfl
  · obtain ⟨F, A, g, i, r, rfl, S, hr', sw, lw, k⟩ := h
    have P1 := S.plA i r hr'
    refine ⟨_, pss_one (ps_ret (pe_call G1 hr (by rfl) m1 k1 b1 .nil pass0 (pa_cons (pe_fld (pv 0) rfl) (pa_cons (pe_fld (pv 1) rfl) (pa_cons (pe_fld (pv 1) rfl) pa_nil))))), ?_⟩
    refine ⟨_, rfl, A.s, D.CS, A.sdx, _, _, rfl, S.srv, T.cl, T.at 0, se_things, _, rfl, r.pa, D.CP, r.pdx, _, _, rfl, P1.pl, TP.cl, TP.at 0, pl_own, _, rfl, r.pa, D.CP, r.pdx, _, _, rfl, P1.pl, TP.cl, TP.at 1, pl_far, ?_⟩
    refine ⟨A.dT, g.world, r.p.own, r.p.far, rfl, S.things.mono S.same (fun _ h => h), sw, lw, fun H' d s nd hv => ?_⟩
    exact k H' d s nd (hv.mono ext_emp)
def spNext (D : Cs) : Sp := fun vs H Q _ => ∃ (F : Hp) (A : Ad) (g : Ge11.St) (i : Nat) (r : PRec), vs = [.ref A.s, nV i] ∧ Srv D F H A g ∧ A.pr[i]? = some r ∧ Srt Ge11.Thing.number g.world ∧ g.world.length ≤ 20 ∧ GoodP g.tick r.p r.hist ∧ 1 ≤ g.tick ∧
  ∀ (H' : Hp) (v : V), Same H H' → LetterAt D.CL (ext F H H') (i, Ge11.letterFor g r.p) v → Q v H'
theorem scNext : FnScope ["self", "receiver", "player", "before"] ["self", "receiver"] (defScope sSNext) := ⟨rfl, rfl, rfl, by decide +kernel, rfl, by decide +kernel, by decide +kernel⟩
theorem ok_next {f : Addr} {fd : FuncData} (F : Fun K "next_letter" "Server.next_letter" sSNext f fd) (T : Cl K mg "Server" D.CS seN) (TP : Cl K mg "Player" D.CP plN) (TL : Cl K mg "Letter" D.CL leN) (ML : MakeOk P w K mg base 2 D.CL psLetI (spLetI D.CL))
    (MV : MethOk P w K mg base 3 D.CS "view_now" ["self", "player"] (spVNow D)) : FnOk P w K mg base CX0 4 f fd ["self", "receiver"] (spNext D) := by
  obtain ⟨f1, fd1, G1, b1, m1⟩ := ML.ex
  obtain ⟨f2, fd2, G2, b2, m2⟩ := MV.ex
  refine F.ok scNext (fun vs H Q E h => ?_) (fun cdv A outer s H vs Q E hr h => ?_)
  · obtain ⟨F, A, g, i, r, rfl, _⟩ := h
    rfl
  · obtain ⟨F, A, g, i, r, rfl, S, hr', sw, lw, gp, t1, k⟩ := h
    have hu := hu_of hr
    have P1 := S.plA i r hr'
    obtain ⟨kvs, hk, Dk⟩ := P1.sent
    refine ⟨_, pss_cons (ps_set (i := 2) scNext.nd rfl (Or.inl rfl) (pe_ix ix_list (pe_fld (pv 0) rfl) (pv 1) (fun _ _ => rfl)))
      (pss_cons (ps_set (i := 3) scNext.nd rfl (Or.inl rfl) (pe_dget hu (pe_fld (pv 2) rfl) (pe_fld (pv 2) rfl) (fun _ _ => rfl)))
      (pss_one (ps_ret (pe_make m1 G1 hr rfl TL.mg b1 .nil pass0 (pa_cons (pv 1) (pa_cons (pe_op op_add (pe_fld (pv 0) rfl) pe_int) (pa_cons (pe_fld (pv 2) rfl) (pa_cons (pv 3) (pa_cons (pe_meth (pv 0) T.cl m2 G2 hr b2 .nil pass0 (pa_cons (pv 2) pa_nil)) pa_nil))))))))), ?_⟩
    refine ⟨_, rfl, A.s, D.CS, A.sdx, _, _, rfl, S.srv, T.cl, T.at 1, se_players, _, rfl, A.lP, _, _, _, rfl, rfl, SqL.of S.pls, atI_nat (S.ref hr'), ?_⟩
    have ndh : Nd tk ((0, []) :: r.hist) := nd_cons.mpr ⟨fun z hz => Nat.ne_of_gt (gp.lo z hz).1, gp.srt.nd⟩
    obtain ⟨bv, eb, bd, rfl, hbd⟩ := Dk.get ndh gp.known
    refine ⟨_, rfl, r.pa, D.CP, r.pdx, _, _, rfl, P1.pl, TP.cl, TP.at 3, pl_sent, _, rfl, r.pa, D.CP, r.pdx, _, _, rfl, P1.pl, TP.cl, TP.at 2, pl_known, r.sd, _, rfl, eb ▸ DGet.k (k := Sum.inl ((r.p.known.1 : Nat) : Int)) hk, ?_⟩
    refine ⟨_, rfl, _, rfl, A.s, D.CS, A.sdx, _, _, rfl, S.srv, T.cl, T.at 2, se_ticks, _, _, rfl, rfl, _, rfl, r.pa, D.CP, r.pdx, _, _, rfl, P1.pl, TP.cl, TP.at 2, pl_known, _, rfl, _, rfl, A.s, A.sdx, _, rfl, S.srv, fl_no (by decide +kernel), _, rfl, ?_⟩
    refine ⟨F, A, g, i, r, rfl, S, hr', sw, lw, fun H1 d s1 nd hv => ?_⟩
    intro x dx nx ndx ne
    have sN : Same H1 (upd (upd H1 dx (.own x)) x (.ins D.CL dx [])) := fun b o hb => by
      rw [upd_ne (ne_of_none hb nx), upd_ne (ne_of_none hb ndx)]
      exact hb
    have sF1 : Same (ext F H H1) H1 := ext_in S.same s1
    have Fx : ext F H H1 x = none := sF1.free nx
    obtain ⟨sk, lk⟩ := gp.view gp.known
    refine ⟨ext F H H1, x, dx, nV i, V.int ((g.tick : Nat) - 1 + 1 : Int), nV r.p.known.1, bd, d, r.p.known.2, _, rfl, upd_same, sF1.trans sN, Fx, hbd.mono (ext_sub S.same), hv, sk, viewOf_srt sw _ _, lk, Nat.le_trans (viewOf_len _ _ _) lw, fun H2 pd gl s2 hx2 hp hg => ⟨rfl, ?_⟩⟩
    have s12 : Same H1 H2 := fun b o hb => s2 b o (sN b o hb) (ne_of_none hb nx)
    have et : ((g.tick : Nat) - 1 : Int) + 1 = ((g.tick : Nat) : Int) := by omega
    rw [et] at hx2
    have up : Same (ext (ext F H H1) (upd (upd H1 dx (.own x)) x (.ins D.CL dx [])) H2) (ext F H H2) := by
      rw [← ext_ext s1 s12]
      exact ext_up sF1 (fun b hb => sN.free hb) fun b u _ h => h
    exact k H2 _ (s1.trans s12) ⟨x, dx, pd, gl, rfl, Eq.trans (ext_new (s1.free nx)) hx2, hp.mono up, up _ _ hg⟩
end
end Net

set_option Elab.async false
set_option linter.all false
set_option maxRecDepth 100000
set_option maxHeartbeats 2000000
namespace Net
open PySem PySem.Spec PyProof.Rows L2 NM
theorem Srv.other {D : Cs} {F H : Hp} {A : Ad} {g : Ge11.St} (S : Srv D F H A g) {l : Addr} {o : HO} (t : A.tag l = none) (n : F l = none) : Srv D F (upd H l o) A g := by
  have T := S.tags
  have own : ∀ {m : Addr} {u : Tag}, A.tag m = some u → ∀ z, H m = some z → (upd H l o) m = some z := fun {m u} h z hz => Eq.trans (upd_ne (ne_untag h t)) hz
  refine ⟨same_of_upd S.same n, T, live_upd S, own T.s _ S.srv, S.things.mono (Same.refl _) (own T.dT), own T.lP _ S.pls, S.plE, fun i r h => ?_, ?_, ?_⟩
  · obtain ⟨t1, t2, t3⟩ := T.pr i r h
    exact (S.plA i r h).mono (Same.refl _) (own t1) (own t2) (own t3)
  · obtain ⟨xs, h1, h2⟩ := S.lets
    exact ⟨xs, own T.lL _ h1, h2⟩
  · obtain ⟨xs, h1, h2⟩ := S.acks
    exact ⟨xs, own T.lW _ h1, h2⟩
/-- an object outside that is changed by the caller, seen from the beginning: it was not there -/
theorem Fr.fresh {F H F' H' : Hp} {A A' : Ad} (f : Fr F H A F' H' A') {l : Addr} {o : HO} (n : H l = none) : Fr F H A F' (upd H' l o) A' := by
  refine ⟨f.same, fun b u hb t => Eq.trans (upd_ne (ne_of_none hb n)) (f.keep b u hb t), f.out, f.fno, fun b u hb => ?_, f.s⟩
  obtain ⟨z, hz⟩ := f.live b u hb
  exact ⟨z, Eq.trans (upd_ne (ne_of_none hb n)) hz⟩
def upd1 (g : Ge11.St) (r : PRec) : PRec := { r with p := NM.ticked g r.p, hist := r.hist ++ [(g.tick, Ge11.viewOf g.world r.p.own r.p.far)] }
def prI (g : Ge11.St) (pr : List PRec) (i : Nat) : List PRec := (pr.take i).map (upd1 g) ++ pr.drop i
theorem prI_at {g : Ge11.St} {pr : List PRec} {i : Nat} {r : PRec} (h : pr[i]? = some r) : (prI g pr i)[i]? = some r := by
  unfold prI
  have hl := (List.getElem?_eq_some_iff.mp h).1
  have e : ((pr.take i).map (upd1 g)).length = i := by
    rw [List.length_map, List.length_take]
    omega
  rw [List.getElem?_append_right (by omega), e, Nat.sub_self, List.getElem?_drop]
  exact h
theorem prI_put {g : Ge11.St} {pr : List PRec} {i : Nat} {r : PRec} (h : pr[i]? = some r) : (prI g pr i).set i (upd1 g r) = prI g pr (i + 1) := by
  unfold prI
  have hl := (List.getElem?_eq_some_iff.mp h).1
  have e : ((pr.take i).map (upd1 g)).length = i := by
    rw [List.length_map, List.length_take]
    omega
  have ed : pr.drop i = r :: pr.drop (i + 1) := by
    rw [List.drop_eq_getElem_cons hl, (List.getElem?_eq_some_iff.mp h).2]
  rw [List.set_append_right _ _ (by omega), e, Nat.sub_self, ed, List.set_cons_zero, take_more h, List.map_append, List.append_assoc]
  rfl
theorem prI_pa {g : Ge11.St} {pr : List PRec} {i : Nat} : (prI g pr i).map (fun r => V.ref r.pa) = pr.map fun r => V.ref r.pa := by
  unfold prI
  rw [List.map_append, List.map_map]
  have : ((fun r => V.ref r.pa) ∘ upd1 g) = fun r : PRec => V.ref r.pa := rfl
  rw [this, ← List.map_append, List.take_append_drop]
theorem prI_end {g : Ge11.St} {pr : List PRec} : prI g pr pr.length = pr.map (upd1 g) := by
  unfold prI
  rw [List.take_length, List.drop_length, List.append_nil]
theorem prI_0 {g : Ge11.St} {pr : List PRec} : prI g pr 0 = pr := by
  unfold prI
  rw [List.take_zero, List.drop_zero]
  rfl
def lettersOf (g : Ge11.St) : List (Nat × Ge11.Letter) := g.players.zipIdx.map fun p => (p.2, Ge11.letterFor g p.1)
theorem lettersOf_at {g : Ge11.St} {i : Nat} {p : Ge11.Player} (h : g.players[i]? = some p) : (lettersOf g)[i]? = some (i, Ge11.letterFor g p) := by
  unfold lettersOf
  rw [List.getElem?_map, List.getElem?_zipIdx, h]
  simp
def gI (g : Ge11.St) (pr : List PRec) (i : Nat) : Ge11.St := { g with players := (prI g pr i).map (·.p), letters := g.letters ++ (lettersOf g).take i }
def adI (A : Ad) (g : Ge11.St) (i : Nat) : Ad := { A with pr := prI g A.pr i }
section
variable {P : Program} {w : World} {K : PySem.W.Frag} {mg : Str → Option Value} {base : Heap} {D : Cs}
def spTick (D : Cs) : Sp := fun vs H Q _ => ∃ (F : Hp) (A : Ad) (g : Ge11.St) (n : Nat), vs = [.ref A.s] ∧ Srv D F H A g ∧ Good (A.pr.map (·.hist)) g n ∧ Outcome D F H A g n .tick Q
theorem scTick : FnScope ["self", "sizes", "receiver", "player", "letter"] ["self"] (defScope sSTick) := ⟨rfl, rfl, rfl, by decide +kernel, rfl, by decide +kernel, by decide +kernel⟩
theorem ok_tick {f : Addr} {fd : FuncData} (F : Fun K "run_tick" "Server.run_tick" sSTick f fd) (T : Cl K mg "Server" D.CS seN) (TP : Cl K mg "Player" D.CP plN) (TL : Cl K mg "Letter" D.CL leN) (M : Mgs mg)
    (MN : MethOk P w K mg base 4 D.CS "next_letter" ["self", "receiver"] (spNext D)) (MV : MethOk P w K mg base 3 D.CS "view_now" ["self", "player"] (spVNow D)) (MZ : MethOk P w K mg base 1 D.CL "size" ["self"] (spSize D.CL)) :
    FnOk P w K mg base CX0 5 f fd ["self"] (spTick D) := by
  obtain ⟨f1, fd1, G1, b1, m1⟩ := MN.ex
  obtain ⟨f2, fd2, G2, b2, m2⟩ := MV.ex
  obtain ⟨f3, fd3, G3, b3, m3⟩ := MZ.ex
  refine F.ok scTick (fun vs H Q E h => ?_) (fun cdv A outer s H vs Q E hr h => ?_)
  · obtain ⟨F, A, g, n, rfl, _⟩ := h
    rfl
  · obtain ⟨F, A, g, n, rfl, S, G, k⟩ := h
    have hu := hu_of hr
    have hr3 : Room 3 _ := hr.mono (by decide)
    have hr1 : Room 1 _ := hr.mono (by decide)
    obtain ⟨xs, hx, hL⟩ := S.lets
    refine ⟨_, pss_cons (ps_if (PW.pt (pw_or (pt_cmpR op_ge (pe_fld (pv 0) rfl) (pe_const M.MK) (nomark _)) (pw_or1 (pt_cmpR op_gt (pe_op op_add (pe_callB call_len_seq (by rfl) M.len PySem.boot_len (pa_cons (pe_fld (pv 0) rfl) pa_nil)) (pe_callB call_len_seq (by rfl) M.len PySem.boot_len (pa_cons (pe_fld (pv 0) rfl) pa_nil))) (pe_const M.ML) (nomark _))))) (pss_one (ps_ret (pe_lst (pa_cons (pe_const M.TM) pa_nil)))) pss_nil)
      (pss_cons (ps_set (i := 1) scTick.nd rfl (Or.inl rfl) (pe_lst pa_nil))
      (pss_cons (ps_for PassesOwn.never rfl (pi_enum (by rfl) M.enumerate (pa_cons (pe_fld (pv 0) rfl) pa_nil)) (pg_tup rfl (pgs_cons (pg_name (i := 2) scTick.nd rfl (.inl rfl)) (pgs_cons (pg_name (i := 3) scTick.nd rfl (.inl rfl)) pgs_nil)))
        (pss_cons (ps_set (i := 4) scTick.nd rfl (Or.inl rfl) (pe_meth (pv 0) T.cl m1 G1 hr b1 .nil pass0 (pa_cons (pv 2) pa_nil)))
        (pss_cons (ps_dput hu (pe_fld (pv 3) rfl) (pe_fld (pv 4) rfl) (pe_meth (pv 0) T.cl m2 G2 hr3 b2 .nil pass0 (pa_cons (pv 3) pa_nil)) rfl)
        (pss_cons (ps_expr (pe_bm PySem.F.plainAttrs_list PySem.F.slot_list_append PySem.F.type_list_append mt_append (pe_fld (pv 0) rfl) (pa_cons (pv 4) pa_nil)))
        (pss_one (ps_expr (pe_bm PySem.F.plainAttrs_list PySem.F.slot_list_append PySem.F.type_list_append mt_append (pv 1) (pa_cons (pe_meth0 (pv 4) TL.cl m3 G3 hr1 b3 .nil pass0) pa_nil))))))))
      (pss_cons (ps_fldaug (pv 0) pe_int in_add)
      (pss_one (ps_ret (pe_op op_cat (pe_lst (pa_cons (pe_fld (pv 0) rfl) (pa_cons (pe_callB call_len_seq (by rfl) M.len PySem.boot_len (pa_cons (pv 1) pa_nil)) pa_nil))) (pv 1))))))), ?_⟩
    have el := hL.len
    have epl : (A.pr.map fun r => V.ref r.pa).length = g.players.length := by rw [← S.plE, List.length_map, List.length_map]
    have t1 := G.t1
    have hA : Ans (tOr (tTest (tOp rGe (tFld K (tVar 0) "ticks") (tC (.int 59)))) (tTest (tOp rGt (tOp (rI0 fun i j => .int (i + j)) (tCB (fun xs H Q => ∃ p ys, xs = [V.ref p] ∧ (SqL K H p ys ∨ SqT K H p ys) ∧ Q (.int ys.length) H) (tCons (tFld K (tVar 0) "letters") tNil)) (tCB (fun xs H Q => ∃ p ys, xs = [V.ref p] ∧ (SqL K H p ys ∨ SqT K H p ys) ∧ Q (.int ys.length) H) (tCons (tFld K (tVar 0) "players") tNil))) (tC (.int 30)))))
        ([some (.ref A.s), none, none, none, none] : List (Option V)) H (decide (60 ≤ g.tick) || decide (30 < g.letters.length + g.players.length)) := by
      have a1 : Ans (tTest (tOp rGe (tFld K (tVar 0) "ticks") (tC (.int 59)))) ([some (.ref A.s), none, none, none, none] : List (Option V)) H (decide (60 ≤ g.tick)) :=
        ans_ge (val_fld (val_var rfl) S.srv T.cl (T.at 2) se_ticks) (decide_eq_decide.mpr (by omega))
      by_cases c : 60 ≤ g.tick
      · rw [decide_eq_true c] at a1 ⊢
        exact ans_or1 a1
      · rw [decide_eq_false c] at a1 ⊢
        refine ans_or a1 fun Q q => ?_
        refine ⟨_, rfl, A.s, D.CS, A.sdx, _, _, rfl, S.srv, T.cl, T.at 3, se_letters, A.lL, _, rfl, .inl (SqL.of hx), _, rfl, A.s, D.CS, A.sdx, _, _, rfl, S.srv, T.cl, T.at 1, se_players, A.lP, _, rfl, .inl (SqL.of S.pls), _, _, rfl, rfl, _, _, rfl, rfl, _, rfl, ?_⟩
        rw [el, epl, show decide ((30 : Int) < ((g.letters.length : Nat) : Int) + ((g.players.length : Nat) : Int)) = decide (30 < g.letters.length + g.players.length) from decide_eq_decide.mpr (by omega)]
        exact q
    by_cases c : 60 ≤ g.tick ∨ 30 < g.letters.length + g.players.length
    · have e : Ge11.step g .tick = (g, [-5]) := if_pos c
      refine st_yes (hA.to (by rw [Bool.or_eq_true, decide_eq_true_eq, decide_eq_true_eq]; exact c)) ⟨by show 1 ≤ sizeLine; decide, fun p hp => ?_⟩
      exact finish k e S G.succ Fr.refl hp rfl
    · have c1 : ¬ 60 ≤ g.tick := fun z => c (.inl z)
      have c2 : ¬ 30 < g.letters.length + g.players.length := fun z => c (.inr z)
      have e : Ge11.step g .tick = ({ g with tick := g.tick + 1, players := g.players.map (NM.ticked g), letters := g.letters ++ lettersOf g }, Ge11.ints ([g.tick, (lettersOf g).length] ++ (lettersOf g).map fun x => Ge11.size x.2.delta)) := if_neg c
      refine st_no (hA.to (by rw [decide_eq_false c1, decide_eq_false c2]; rfl)) ?_
      refine ⟨Nat.zero_le _, fun l nl => ?_⟩
      have sl : Same H (upd H l (.lst [])) := same_upd nl
      have nlF : F l = none := S.same.free nl
      have nlt : A.tag l = none := by
        cases q : A.tag l with
        | none => rfl
        | some t =>
          obtain ⟨_, o, ho⟩ := S.live l t q
          rw [nl] at ho
          cases ho
      have S0 : Srv D F (upd H l (.lst [])) A g := S.other nlt nlF
      have f0 : Fr F H A F (upd H l (.lst [])) A := Fr.refl.fresh nl
      refine ⟨_, rfl, A.s, D.CS, A.sdx, _, _, rfl, S0.srv, T.cl, T.at 1, se_players, A.lP, _, rfl, SqL.of S0.pls, ?_⟩
      have len4 : A.pr.length = g.players.length := by rw [← S.plE, List.length_map]
      have lsl : (lettersOf g).length = g.players.length := by
        unfold lettersOf
        rw [List.length_map, List.length_zipIdx]
      refine for_it (walk_enum (K := K) (a := A.lP) (xs := A.pr.map fun r => V.ref r.pa))
        (fun i σ H' => ∃ (z2 z3 z4 : Option V) (F' : Hp), σ = [some (.ref A.s), some (.ref l), z2, z3, z4] ∧ Srv D F' H' (adI A g i) (gI g A.pr i) ∧ Fr F H A F' H' (adI A g i) ∧ F' l = none ∧ H' l = some (.lst (((lettersOf g).take i).map fun x => nV (Ge11.size x.2.delta))))
        ⟨none, none, none, F, rfl, ?_, ?_, nlF, upd_same⟩ ?_ ?_ ?_
      · have e0 : adI A g 0 = A := by
          unfold adI
          rw [prI_0]
        have e1 : gI g A.pr 0 = g := by
          unfold gI
          rw [prI_0, S.plE, List.take_zero, List.append_nil]
        rw [e0, e1]
        exact S0
      · have e0 : adI A g 0 = A := by
          unfold adI
          rw [prI_0]
        rw [e0]
        exact f0
      · rintro i σ H' _ ⟨_, _, _, F', _, S', _⟩
        have := S'.pls
        rw [show (adI A g i).pr.map (fun r => V.ref r.pa) = A.pr.map fun r => V.ref r.pa from prI_pa] at this
        exact SqL.of this
      · rintro i y σ H' H1 hi ⟨z2, z3, z4, F', rfl, S', f', fl', hl'⟩ ⟨tt, u1, u2, rfl, ntt, rfl, ⟨rfl⟩, hu2⟩
        obtain ⟨r, hr0, rfl⟩ := map_at hu2
        have hri : (adI A g i).pr[i]? = some r := prI_at hr0
        have hpl : g.players[i]? = some r.p := S.plAt hr0
        have gp : GoodP g.tick r.p r.hist := G.pl i r.p r.hist hpl (by rw [List.getElem?_map, hr0]; rfl)
        have s1 := same_upd (o := .tup [.int ((i : Nat) : Int), .ref r.pa]) ntt
        have S1 := S'.grow s1
        have f1' := f'.trans (Fr.grow S'.same s1)
        have fl1 : ext F' H' (upd H' tt (.tup [.int ((i : Nat) : Int), .ref r.pa])) l = none := ext_none hl' fl'
        have hl1 := s1 _ _ hl'
        refine ⟨tt, _, rfl, SqT.of upd_same, rfl, _, _, rfl, _, _, rfl, rfl, ?_⟩
        generalize ext F' H' (upd H' tt (.tup [.int ((i : Nat) : Int), .ref r.pa])) = F1 at S1 f1' fl1
        generalize upd H' tt (.tup [.int ((i : Nat) : Int), .ref r.pa]) = H1 at S1 f1' hl1
        clear s1 ntt hl' fl' S' f'
        -- letter = self.next_letter(receiver)
        refine ⟨_, rfl, A.s, A.sdx, _, rfl, S1.srv, fl_no (by decide +kernel), _, rfl, F1, adI A g i, gI g A.pr i, i, r, rfl, S1, hri, G.srt, G.len, gp, t1, fun H2 v s12 hLet => ?_⟩
        have S2 := S1.grow s12
        have f2' := f1'.trans (Fr.grow S1.same s12)
        have fl2 : ext F1 H1 H2 l = none := ext_none hl1 fl1
        have hl2 := s12 _ _ hl1
        generalize ext F1 H1 H2 = F2 at S2 f2' fl2 hLet
        obtain ⟨la, ldx, pd, gl, rfl, hla, hvp, hgl⟩ := id hLet
        clear s12 hl1 fl1 S1 f1'
        -- player.sent[letter.tick] = self.view_now(player)
        refine ⟨_, rfl, A.s, A.sdx, _, rfl, S2.srv, fl_no (by decide +kernel), _, rfl, F2, adI A g i, gI g A.pr i, i, r, rfl, S2, hri, G.srt, G.len, fun H3 d s23 nd hv => ?_⟩
        have S3 := S2.grow s23
        have f3' := f2'.trans (Fr.grow S2.same s23)
        have fl3 : ext F2 H2 H3 l = none := ext_none hl2 fl2
        have hl3 := s23 _ _ hl2
        have hLet3 := hLet.mono (ext_sub (H' := H3) S2.same)
        generalize ext F2 H2 H3 = F3 at S3 f3' fl3 hv hLet3
        clear s23 hl2 fl2 S2 f2' hLet
        obtain ⟨la', ldx', pd', gl', ela, hla3, hvp3, hgl3⟩ := id hLet3
        cases ela
        have P3 := S3.plA i r hri
        obtain ⟨kvs, hk, Dk⟩ := P3.sent
        have t60 := G.t60
        have hlen : r.hist.length ≤ 60 := by
          have hsub : ∀ y ∈ r.hist.map tk, y ∈ (List.range 60) := by
            intro y hy
            obtain ⟨q, hq, rfl⟩ := List.mem_map.mp hy
            have := (gp.lo q hq).2
            exact List.mem_range.mpr (by show q.1 < 60; omega)
          have := List.Nodup.length_le_of_subset (l₁ := r.hist.map tk) (l₂ := List.range 60) gp.srt.nd hsub
          rw [List.length_map, List.length_range] at this
          exact this
        refine ⟨_, rfl, r.pa, D.CP, r.pdx, _, _, rfl, P3.pl, TP.cl, TP.at 3, pl_sent, _, rfl, la, D.CL, ldx', _, _, rfl, S3.same _ _ hla3, TL.cl, TL.at 1, le_tick, r.sd, _, rfl, DPut.k (k := Sum.inl ((g.tick : Nat) : Int)) hk (by
          rw [Dk.len, List.length_cons]
          have : (61 : Nat) < sizeLine := by decide
          omega), ?_⟩
        obtain ⟨u1, u2, u3⟩ := S3.tags.pr i r hri
        have S4 := S3.setPlayer (r' := upd1 g r) (o := .dK (putK kvs (Sum.inl ((g.tick : Nat) : Int)) (.ref d))) hri (m := r.sd) (.inr (.inr u3)) ⟨rfl, rfl, rfl⟩ (by
          refine ⟨Eq.trans (upd_ne (ne_tag u1 u3 (fun z => (nomatch z)))) P3.pl, Eq.trans (upd_ne (ne_tag u2 u3 (fun z => (nomatch z)))) P3.cl, ⟨_, upd_same, ?_⟩, P3.views⟩
          refine Dk.add (x := (g.tick, Ge11.viewOf g.world r.p.own r.p.far)) (fun y hy => ?_) ⟨d, rfl, hv⟩
          rcases List.mem_cons.mp hy with rfl | hy
          · exact Nat.ne_of_lt t1
          · exact Nat.ne_of_lt (gp.lo y hy).2)
        have f4' := f3'.trans ((Fr.own (F := F3) (H := H3) (A := adI A g i) (o := .dK (putK kvs (Sum.inl ((g.tick : Nat) : Int)) (.ref d))) u3).put (i := i) (r := upd1 g r))
        have nlsd : l ≠ r.sd := ne_of hl3 hk (by intro z; cases z)
        have hl4 : (upd H3 r.sd (.dK (putK kvs (Sum.inl ((g.tick : Nat) : Int)) (.ref d)))) l = some (.lst (((lettersOf g).take i).map fun x => nV (Ge11.size x.2.delta))) := Eq.trans (upd_ne nlsd) hl3
        generalize upd H3 r.sd (.dK (putK kvs (Sum.inl ((g.tick : Nat) : Int)) (.ref d))) = H4 at S4 f4' hl4
        have ea : (adI A g i).put i (upd1 g r) = adI A g (i + 1) := by
          unfold adI Ad.put
          rw [prI_put hr0]
        rw [ea] at S4 f4'
        clear S3 f3' hl3 hk Dk P3
        obtain ⟨ls, hls, hLs⟩ := S4.lets
        have hll : ls.length < sizeLine := by
          rw [hLs.len]
          show (g.letters ++ (lettersOf g).take i).length < sizeLine
          rw [List.length_append, List.length_take]
          have : (100 : Nat) < sizeLine := by decide
          have := G.l30
          have := G.p4
          omega
        refine ⟨_, rfl, A.s, D.CS, A.sdx, _, _, rfl, S4.srv, T.cl, T.at 3, se_letters, .inl ⟨rfl, _, SqL.of hls⟩, _, rfl, A.lL, ls, .ref la, rfl, rfl, hls, hll, ?_⟩
        have S5 := S4.setLets (hLs.snoc hLet3)
        have f5' := f4'.trans (Fr.own (F := F3) (H := H4) (A := adI A g (i + 1)) (o := .lst (ls ++ [V.ref la])) S4.tags.lL)
        have nlL : l ≠ A.lL := (ne_untag (A := A) S.tags.lL nlt).symm
        have hl5 : (upd H4 A.lL (.lst (ls ++ [V.ref la]))) l = some (.lst (((lettersOf g).take i).map fun x => nV (Ge11.size x.2.delta))) := Eq.trans (upd_ne nlL) hl4
        have hla5 : (upd H4 A.lL (.lst (ls ++ [V.ref la]))) la = _ := S5.same _ _ hla3
        have hLet5 : LetterAt D.CL (upd H4 A.lL (.lst (ls ++ [V.ref la]))) (i, Ge11.letterFor g r.p) (.ref la) := hLet3.mono S5.same
        have estep : (lettersOf g).take (i + 1) = (lettersOf g).take i ++ [(i, Ge11.letterFor g r.p)] := take_more (lettersOf_at hpl)
        have eg : ({ ({ gI g A.pr i with players := (gI g A.pr i).players.set i (upd1 g r).p } : Ge11.St) with letters := g.letters ++ (lettersOf g).take i ++ [(i, Ge11.letterFor g r.p)] } : Ge11.St) = gI g A.pr (i + 1) := by
          unfold gI
          rw [estep, ← prI_put hr0, set_map, List.append_assoc]
        have S5 : Srv D F3 (upd H4 A.lL (.lst (ls ++ [V.ref la]))) (adI A g (i + 1)) (gI g A.pr (i + 1)) := by
          rw [← eg]
          exact S5
        have f5' : Fr F H A F3 (upd H4 A.lL (.lst (ls ++ [V.ref la]))) (adI A g (i + 1)) := f5'
        generalize upd H4 A.lL (.lst (ls ++ [V.ref la])) = H5 at S5 f5' hl5 hla5 hLet5
        -- sizes.append(letter.size())
        refine ⟨_, rfl, .inl ⟨rfl, _, SqL.of hl5⟩, _, rfl, la, ldx', _, rfl, hla5, fl_no (by decide +kernel), _, (i, Ge11.letterFor g r.p), rfl, hLet5, ?_⟩
        have hzl : (((lettersOf g).take i).map fun x => nV (Ge11.size x.2.delta)).length < sizeLine := by
          rw [List.length_map, List.length_take]
          have : (100 : Nat) < sizeLine := by decide
          have := G.p4
          omega
        refine ⟨l, _, _, rfl, rfl, hl5, hzl, ?_⟩
        refine ⟨_, _, _, F3, rfl, S5.other nlt fl3, f5'.fresh nl, fl3, ?_⟩
        rw [upd_same, estep, List.map_append]
        rfl
      · rintro σ H' ⟨z2, z3, z4, F', rfl, S', f', fl', hl'⟩
        have en : (A.pr.map fun r => V.ref r.pa).length = A.pr.length := List.length_map _
        rw [en] at S' f' hl'
        have eL : (lettersOf g).take A.pr.length = lettersOf g := by
          rw [len4, ← lsl]
          exact List.take_length
        rw [eL] at hl'
        refine ⟨_, rfl, A.s, D.CS, A.sdx, _, _, rfl, S'.srv, T.cl, T.at 2, se_ticks, _, _, rfl, rfl, A.sdx, _, S'.srv, fl_few (by show 5 < 1000; decide), ?_⟩
        have S1 := S'.setTick (t := g.tick + 1)
        rw [fl_put (k := "ticks") 2 (by decide +kernel) rfl]
        have es : (srV (adI A g A.pr.length) (gI g A.pr A.pr.length)).set 2 (.int (((gI g A.pr A.pr.length).tick : Nat) - 1 + 1 : Int)) = srV (adI A g A.pr.length) { gI g A.pr A.pr.length with tick := g.tick + 1 } := by
          show [_, _, V.int ((g.tick : Nat) - 1 + 1 : Int), _, _] = [_, _, V.int (((g.tick + 1 : Nat) : Int) - 1), _, _]
          have : ((g.tick : Nat) - 1 + 1 : Int) = ((g.tick + 1 : Nat) : Int) - 1 := by omega
          rw [this]
        rw [es]
        have f1' := f'.trans (Fr.own (F := F') (H := H') (A := adI A g A.pr.length) (o := .ins D.CS A.sdx (fl seN (srV (adI A g A.pr.length) { gI g A.pr A.pr.length with tick := g.tick + 1 }))) S'.tags.s)
        have nls : l ≠ A.s := (ne_untag (A := A) S.tags.s nlt).symm
        have hl1 := Eq.trans (upd_ne (H := H') (o := .ins D.CS A.sdx (fl seN (srV (adI A g A.pr.length) { gI g A.pr A.pr.length with tick := g.tick + 1 }))) nls) hl'
        have S1 : Srv D F' (upd H' A.s (.ins D.CS A.sdx (fl seN (srV (adI A g A.pr.length) { gI g A.pr A.pr.length with tick := g.tick + 1 })))) (adI A g A.pr.length) { gI g A.pr A.pr.length with tick := g.tick + 1 } := S1
        have f1' : Fr F H A F' (upd H' A.s (.ins D.CS A.sdx (fl seN (srV (adI A g A.pr.length) { gI g A.pr A.pr.length with tick := g.tick + 1 })))) (adI A g A.pr.length) := f1'
        generalize upd H' A.s (.ins D.CS A.sdx (fl seN (srV (adI A g A.pr.length) { gI g A.pr A.pr.length with tick := g.tick + 1 }))) = H1 at S1 f1' hl1
        refine ⟨_, rfl, A.s, D.CS, A.sdx, _, _, rfl, S1.srv, T.cl, T.at 2, se_ticks, _, rfl, l, _, rfl, .inl (SqL.of hl1), by show 2 ≤ sizeLine; decide, fun q hq => ?_⟩
        have sq := same_upd (o := .lst [V.int (((g.tick + 1 : Nat) : Int) - 1), V.int ((((lettersOf g).map fun x => nV (Ge11.size x.2.delta)).length : Nat) : Int)]) hq
        refine ⟨_, rfl, q, l, _, _, rfl, rfl, upd_same, sq _ _ hl1, ?_, fun p hp => ?_⟩
        · show 2 + ((lettersOf g).map fun x => nV (Ge11.size x.2.delta)).length ≤ sizeLine
          rw [List.length_map, lsl]
          have : (100 : Nat) < sizeLine := by decide
          have := G.p4
          omega
        · have eg : ({ gI g A.pr A.pr.length with tick := g.tick + 1 } : Ge11.St) = { g with tick := g.tick + 1, players := g.players.map (NM.ticked g), letters := g.letters ++ lettersOf g } := by
            unfold gI
            rw [eL, prI_end, List.map_map, ← S.plE, List.map_map]
            rfl
          rw [eg] at S1
          refine finish k e (S1.grow sq) ?_ (f1'.trans (Fr.grow S1.same sq)) hp ?_
          · show Good ((prI g A.pr A.pr.length).map (·.hist)) _ _
            rw [prI_end, List.map_map]
            have G2 := Good.ticked (L := A.pr.map fun r => (r.p, r.hist)) (g := g) (n := n) (by rw [List.map_map]; exact G) (by rw [List.map_map]; exact S.plE.symm) c1 c2
            rw [List.map_map] at G2
            exact G2
          · show [V.int (((g.tick + 1 : Nat) : Int) - 1), V.int ((((lettersOf g).map fun x => nV (Ge11.size x.2.delta)).length : Nat) : Int)] ++ (lettersOf g).map (fun x => nV (Ge11.size x.2.delta)) = _
            have : ((g.tick + 1 : Nat) : Int) - 1 = ((g.tick : Nat) : Int) := by omega
            rw [this, List.length_map]
            unfold Ge11.ints
            rw [List.map_map, List.map_append, List.map_map]
            rfl
end
end Net

set_option Elab.async false
set_option linter.all false
set_option maxHeartbeats 1000000
/-! How the flat list is read: calls, one behind another. -/
namespace NM
open Ge11
def nums (p : Int) : Nat := if p = 0 then 5 else if p = 2 then 2 else if p = 3 ∨ p = 10 ∨ p = 12 then 0 else 1
/-- a call by its numbers -/
inductive Dec : Int → List Int → Call → Prop
  | thing (n x y l : Nat) (h : Bool) : Dec 0 [(n : Int), (x : Int), (y : Int), (l : Int), if h = true then 1 else 0] (.thing ⟨n, x, y, l, h⟩)
  | gone (n : Nat) : Dec 1 [(n : Int)] (.gone n)
  | player (o f : Nat) : Dec 2 [(o : Int), (f : Int)] (.player o f)
  | tick : Dec 3 [] .tick
  | arrive (i : Nat) : Dec 4 [(i : Int)] (.arrive i)
  | lose (i : Nat) : Dec 5 [(i : Int)] (.lose i)
  | ackArrive (i : Nat) : Dec 6 [(i : Int)] (.ackArrive i)
  | ackLose (i : Nat) : Dec 7 [(i : Int)] (.ackLose i)
  | sees (i : Nat) : Dec 8 [(i : Int)] (.sees i)
  | has (i : Nat) : Dec 9 [(i : Int)] (.has i)
  | onTheWay : Dec 10 [] .onTheWay
  | would (i : Nat) : Dec 11 [(i : Int)] (.would i)
  | state : Dec 12 [] .state
theorem nat_of {z : Int} (h : Ge11Neutral.nat z = true) : ∃ n : Nat, z = (n : Int) := by
  unfold Ge11Neutral.nat at h
  rw [Bool.and_eq_true, decide_eq_true_eq] at h
  exact ⟨z.toNat, by omega⟩
theorem callOf_nats {l : List Int} {x : Call} (h : Ge11Neutral.callOf l = some x) : ∃ ns : List Nat, l = ns.map (fun n : Nat => (n : Int)) ∧ Ge11Neutral.callIn ns = some x := by
  unfold Ge11Neutral.callOf at h
  cases e : l.all Ge11Neutral.nat with
  | false =>
    rw [e, if_pos rfl] at h
    cases h
  | true =>
    rw [e, if_neg (by decide)] at h
    refine ⟨l.map Int.toNat, ?_, h⟩
    rw [List.map_map]
    have : ∀ z ∈ l, ((fun n : Nat => (n : Int)) ∘ Int.toNat) z = z := by
      intro z hz
      obtain ⟨n, rfl⟩ := nat_of (List.all_eq_true.mp e z hz)
      rfl
    rw [List.map_congr_left this, List.map_id']
theorem callIn_dec {ns : List Nat} {x : Call} (h : Ge11Neutral.callIn ns = some x) : ∃ p a, ns.map (fun n : Nat => (n : Int)) = p :: a ∧ Dec p a x := by
  unfold Ge11Neutral.callIn at h
  split at h
  · rename_i n a b l hh
    unfold Ge11Neutral.bit at h
    by_cases c0 : hh = 0
    · rw [if_pos c0] at h
      cases h
      rw [c0]
      exact ⟨_, _, rfl, Dec.thing n a b l false⟩
    · rw [if_neg c0] at h
      by_cases c1 : hh = 1
      · rw [if_pos c1] at h
        cases h
        rw [c1]
        exact ⟨_, _, rfl, Dec.thing n a b l true⟩
      · rw [if_neg c1] at h
        cases h
  all_goals first
    | (cases h; exact ⟨_, _, rfl, by constructor⟩)
    | cases h
theorem callOf_dec {l : List Int} {x : Call} (h : Ge11Neutral.callOf l = some x) : ∃ p a, l = p :: a ∧ Dec p a x := by
  obtain ⟨ns, rfl, h'⟩ := callOf_nats h
  exact callIn_dec h'
theorem dec_nums {p : Int} {a : List Int} {x : Call} (h : Dec p a x) : a.length = nums p := by
  cases h <;> rfl
theorem dec_le {p : Int} {a : List Int} {x : Call} (h : Dec p a x) : p ≤ 12 := by
  cases h <;> decide
/-- one call of the flat list -/
structure One (c : List (List Int)) (p : Int) (a : List Int) (x : Call) : Prop where
  is : c = [p :: a]
  wh : (PyGe11.whole c).headD [] = p :: a
  cl : Ge11Neutral.callOf (p :: a) = some x
  dec : Dec p a x
theorem row_step {c : Prop} [Decidable c] {x : Nat × Nat} {r : Option (Nat × Nat)} {n k : Nat} (hx : x.2 = 0) (h : (if c then some x else r) = some (n, k)) : k = 0 ∨ r = some (n, k) := by
  by_cases q : c
  · rw [if_pos q] at h
    rw [Option.some.inj h] at hx
    exact .inl hx
  · rw [if_neg q] at h
    exact .inr h
theorem shape_rows {p : Int} {n k : Nat} (h : PyGe11.shape p = some (n, k)) : k = 0 := by
  unfold PyGe11.shape at h
  iterate 13 (
    rcases row_step rfl h with e | h
    · exact e)
  cases h
theorem whole_dec {p : Int} {a : List Int} {x : Call} (h : Dec p a x) : PyGe11.whole [p :: a] = [p :: a] := by
  cases h <;> rfl
theorem whole_one {p : Int} {a : List Int} : (PyGe11.whole [p :: a]).headD [] = p :: a := by
  unfold PyGe11.whole
  split <;> first | rfl | (rename_i e; cases e; rfl)
theorem one_of {c : List (List Int)} (h : PyFlat.okCall PyGe11.shape c) (h2 : Ge11Neutral.asked1 ((PyGe11.whole c).headD []) = true) : ∃ p a x, One c p a x := by
  obtain ⟨p, a, xs, rfl, hs⟩ := h
  have e := shape_rows hs
  have : xs = [] := List.eq_nil_of_length_eq_zero e
  subst this
  rw [whole_one] at h2
  unfold Ge11Neutral.asked1 at h2
  obtain ⟨x, hx⟩ := Option.isSome_iff_exists.mp h2
  obtain ⟨q, b, e, d⟩ := callOf_dec hx
  cases e
  exact ⟨p, a, x, rfl, whole_one, hx, d⟩
/-- the lines of calls, each read -/
inductive Lines : List (List (List Int)) → List (Int × List Int × Call) → Prop
  | nil : Lines [] []
  | cons {c cs p a x r} : One c p a x → Lines cs r → Lines (c :: cs) ((p, a, x) :: r)
theorem lines_of : ∀ (cs : List (List (List Int))), (∀ c ∈ cs, PyFlat.okCall PyGe11.shape c) → (∀ c ∈ cs, Ge11Neutral.asked1 ((PyGe11.whole c).headD []) = true) → ∃ L, Lines cs L
  | [], _, _ => ⟨[], .nil⟩
  | c :: cs, h1, h2 => by
    obtain ⟨p, a, x, o⟩ := one_of (h1 c (List.mem_cons.mpr (.inl rfl))) (h2 c (List.mem_cons.mpr (.inl rfl)))
    obtain ⟨L, hL⟩ := lines_of cs (fun d hd => h1 d (List.mem_cons.mpr (.inr hd))) (fun d hd => h2 d (List.mem_cons.mpr (.inr hd)))
    exact ⟨_, .cons o hL⟩
/-- the flat list of what is read -/
def flat : List (Int × List Int × Call) → List Int
  | [] => []
  | (p, a, _) :: r => p :: a ++ flat r
def runs : St → List (Int × List Int × Call) → St
  | g, [] => g
  | g, (_, _, x) :: r => runs (step g x).1 r
def says : St → List (Int × List Int × Call) → List Int
  | _, [] => []
  | g, (_, _, x) :: r => ((step g x).2.length : Int) :: (step g x).2 ++ says (step g x).1 r
theorem lines_flat {cs : List (List (List Int))} {L : List (Int × List Int × Call)} (h : Lines cs L) : PyFlat.put cs = flat L := by
  induction h with
  | nil => rfl
  | cons o _ ih =>
    rw [o.is]
    show (_ :: _ ++ PyFlat.putRows []) ++ PyFlat.put _ = _
    rw [ih]
    show (_ ++ []) ++ _ = _
    rw [List.append_nil]
    rfl
theorem lines_says {cs : List (List (List Int))} {L : List (Int × List Int × Call)} (h : Lines cs L) : ∀ g : St, PyFlat.told (PyFlat.played (fun s c => Ge11Neutral.step s (c.headD [])) g (cs.map PyGe11.whole)) = says g L := by
  induction h with
  | nil => exact fun _ => rfl
  | @cons c cs p a x r o _ ih =>
    intro g
    have e : Ge11Neutral.step g ((PyGe11.whole c).headD []) = step g x := by
      rw [o.wh]
      unfold Ge11Neutral.step
      rw [o.cl]
    show PyFlat.told ((Ge11Neutral.step g ((PyGe11.whole c).headD [])).2 :: PyFlat.played _ (Ge11Neutral.step g ((PyGe11.whole c).headD [])).1 (cs.map PyGe11.whole)) = _
    rw [e]
    show ((step g x).2.length : Int) :: (step g x).2 ++ PyFlat.told (PyFlat.played _ (step g x).1 (cs.map PyGe11.whole)) = _
    rw [ih]
    rfl
theorem runs_snoc : ∀ (L : List (Int × List Int × Call)) (g : St) (q : Int × List Int × Call), runs g (L ++ [q]) = (step (runs g L) q.2.2).1
  | [], _, _ => rfl
  | (_, _, x) :: r, g, q => runs_snoc r (step g x).1 q
theorem says_snoc : ∀ (L : List (Int × List Int × Call)) (g : St) (q : Int × List Int × Call), says g (L ++ [q]) = says g L ++ (((step (runs g L) q.2.2).2.length : Int) :: (step (runs g L) q.2.2).2)
  | [], _, _ => by
    show _ :: (_ ++ []) = [] ++ _
    rw [List.append_nil]
    rfl
  | (_, _, x) :: r, g, q => by
    show _ :: ((step g x).2 ++ says (step g x).1 (r ++ [q])) = (_ :: ((step g x).2 ++ says (step g x).1 r)) ++ _
    rw [says_snoc r (step g x).1 q]
    show _ = _ :: (((step g x).2 ++ says (step g x).1 r) ++ _)
    rw [List.append_assoc]
    rfl
theorem flat_append : ∀ (L M : List (Int × List Int × Call)), flat (L ++ M) = flat L ++ flat M
  | [], _ => rfl
  | (p, a, _) :: r, M => by
    show p :: (a ++ flat (r ++ M)) = p :: (a ++ flat r) ++ flat M
    rw [flat_append r M]
    show _ = p :: ((a ++ flat r) ++ flat M)
    rw [List.append_assoc]
theorem lines_dec {cs : List (List (List Int))} {L : List (Int × List Int × Call)} (h : Lines cs L) : ∀ q ∈ L, Dec q.1 q.2.1 q.2.2 := by
  induction h with
  | nil => exact fun q hq => nomatch hq
  | cons o _ ih =>
    intro q hq
    rcases List.mem_cons.mp hq with rfl | hq
    · exact o.dec
    · exact ih q hq
theorem lines_len {cs : List (List (List Int))} {L : List (Int × List Int × Call)} (h : Lines cs L) : L.length = cs.length := by
  induction h with
  | nil => rfl
  | cons _ _ ih => rw [List.length_cons, List.length_cons, ih]
/-- all that is asked, in one -/
theorem read_all {l : List Int} (h : PyGe11.answers_asked l = true) : ∃ L : List (Int × List Int × Call), l = flat L ∧ (∀ q ∈ L, Dec q.1 q.2.1 q.2.2) ∧ PyGe11.answers l = says Ge11.init L ∧ L.length ≤ 40 ∧ (says Ge11.init L).length ≤ 10000000 := by
  unfold PyGe11.answers_asked at h
  cases e : PyFlat.calls PyGe11.shape l.length l with
  | none =>
    rw [e] at h
    cases h
  | some raw =>
    rw [e] at h
    have h' : (!raw.isEmpty && PyFlat.atMost 40 raw && PyInside.calls PyGe11.bound raw && Ge11Neutral.asked ((raw.map PyGe11.whole).map fun c => c.headD []) && PyFlat.short 10000000 (PyGe11.answers l)) = true := h
    rw [Bool.and_eq_true, Bool.and_eq_true, Bool.and_eq_true, Bool.and_eq_true] at h'
    obtain ⟨⟨⟨⟨_, h40⟩, _⟩, hask⟩, hshort⟩ := h'
    obtain ⟨el, hok⟩ := PyFlat.put_calls _ _ _ e
    unfold Ge11Neutral.asked at hask
    rw [Bool.and_eq_true] at hask
    have h1 : ∀ c ∈ raw, Ge11Neutral.asked1 ((PyGe11.whole c).headD []) = true := fun c hc => List.all_eq_true.mp hask.1 _ (List.mem_map.mpr ⟨_, List.mem_map.mpr ⟨c, hc, rfl⟩, rfl⟩)
    obtain ⟨L, hL⟩ := lines_of raw hok h1
    have ea : PyGe11.answers l = says Ge11.init L := by
      unfold PyGe11.answers PyGe11.calls
      rw [e]
      exact lines_says hL Ge11.init
    refine ⟨L, el.trans (lines_flat hL), ?_, ea, ?_, ?_⟩
    · exact lines_dec hL
    · rw [lines_len hL]
      exact of_decide_eq_true h40
    · rw [← ea]
      exact of_decide_eq_true hshort
end NM

set_option Elab.async false
set_option linter.all false
set_option maxRecDepth 100000
set_option maxHeartbeats 2000000
/-! xs.extend of a tuple; max of a dict's keys -/
namespace Net
open PySem PySem.Spec PyProof.Rows L2 NM
theorem meets_extT (l : Addr) (xs : Array Value) (n : Nat) (b : Addr) (ys : Array Value) (m : Nat) (od : Option Addr) (sl : Array (Option Value))
    (h0 : ¬ (!xs.isEmpty && Builtin.List.listTooLong (xs.size + ys.size)) = true) (h1 : xs.size ≤ sizeLine) (h2 : xs.size + ys.size ≤ sizeLine + 1) :
    Meets (Builtin.«list.extend» ⟨[.ref l, .ref b], []⟩) (fun _ R s =>
      s.heap.get? l = some { cls := .type "list", dict := none, data := .seq xs n, slots := #[] } ∧
      s.heap.get? b = some { cls := .type "tuple", dict := od, data := .seq ys m, slots := sl } ∧
      R (.ok (.ret Value.none)) { s with heap := s.heap.update l (Obj.mapSeq fun x => x ++ ys), toks := s.toks }) :=
  .of_wp fun prog w A R s h => by
    obtain ⟨hp, g, d, tk, os⟩ := s
    obtain ⟨hl, hb, h⟩ := h
    have f1 := AutoSeq1.sub_tuple_tuple
    have f2 := AutoSeq1.sub_list_list
    have f3 := AutoSeq1.sub_tuple_list
    have f4 := AutoSeq1.sub_list_tuple
    have hz : (xs ++ ys).size ≤ sizeLine + 1 := by
      rw [Array.size_append]
      exact h2
    wp_walk using (wpAny_updateSeq hl rfl (hz := h1) (_hz' := hz)), AutoSeq1.wpAny_loadPart' hl, AutoSeq1.wpAny_loadPart' hb
    exact ⟨_, rfl, h⟩
section
variable {X : Cx}
/-- xs.extend(t), t a tuple -/
def rExtT (K : PySem.W.Frag) : V → List V → Hp → VK → Prop := fun x vs H Q => ∃ (l b : Addr) (xs zs : List V), x = .ref l ∧ vs = [.ref b] ∧ H l = some (.lst xs) ∧ SqT K H b zs ∧
  xs.length + zs.length ≤ sizeLine ∧ Q .non (upd H l (.lst (xs ++ zs)))
theorem mt_extT : MtM X "list.extend" (rExtT X.K) := by
  intro pins s σ H x vs v us Q I rx rv h
  obtain ⟨l, b, xs, zs, rfl, rfl, hH, hB, hz, q⟩ := h
  cases rx
  obtain ⟨u, rfl, ru⟩ := rv.one
  cases ru
  obtain ⟨z, its, n, r, hl, e⟩ := I.lstM hH
  obtain ⟨it2, r2, ⟨o, eo, co, m, do_⟩, z2⟩ := I.tuple hB
  have l2 := r2.length
  obtain ⟨oc, od, odat, osl⟩ := o
  cases co
  cases do_
  have hsz : its.toArray.size + it2.toArray.size ≤ sizeLine := by
    rw [List.size_toArray, List.size_toArray]
    omega
  have hlong : ¬ (!its.toArray.isEmpty && Builtin.List.listTooLong (its.toArray.size + it2.toArray.size)) = true := fun w => by
    rw [notLongL hsz, Bool.and_false] at w
    cases w
  refine call_meets F.slot_list_extend ⟨_, e, rfl⟩ F.entry_list_extend (F.args_list_extend_2 _ _)
    (meets_extT l its.toArray n b it2.toArray m od osl hlong (by rw [List.size_toArray]; omega) (by omega)) ⟨e, eo, ?_⟩
  refine ⟨.non, _, I.lset (its' := its ++ it2) hH e (by simp) (r.append r2) ?_, rfl, q⟩
  rw [List.length_append]
  omega
/-- max(d) of a dict of ints -/
theorem call_maxDI (hc : X.calm = true) : CallR X (.builtin "max") (fun xs H Q => ∃ (a : Addr) (kvs : List (Key × V)) (ks : List Int), xs = [.ref a] ∧ Rd H a (.dK kvs) ∧ kvs.map (·.1) = ks.map Sum.inl ∧ 0 < ks.length ∧
    ∀ m, m ∈ ks → (∀ y ∈ ks, y ≤ m) → Q (.int m) H) := by
  intro pins s σ H xs us Q I r q
  obtain ⟨a, kvs, ks, rfl, hd, hks, hpos, q⟩ := q
  obtain ⟨u, rfl, rx⟩ := vals1 r
  cases rx
  obtain ⟨z, lo, vs, rel, dd⟩ := dk_rd I.hok hd
  obtain ⟨ep, hat⟩ := dd.dictAt
  have hkeys : vs.map (·.1) = ks.map Sum.inl := rel.keys.symm.trans hks
  have hl : vs.length = ks.length := by
    have e := congrArg List.length hkeys
    rw [List.length_map, List.length_map] at e
    exact e
  have hP : ∀ (i : Nat) (v : Value), (∃ k x, vs[i]? = some (k, x) ∧ (mixKind X.prog X.w).is k v = true) → ∃ t, v = .int (ks.getD i 0) t := by
    rintro i v ⟨k, x, e1, e2⟩
    have e3 : (vs.map (·.1))[i]? = some k := by rw [List.getElem?_map, e1]; rfl
    rw [hkeys, List.getElem?_map] at e3
    obtain ⟨y, ey, rfl⟩ := Option.map_eq_some_iff.mp e3
    rcases keyIs_shape (show keyIs (Sum.inl y) v = true from e2) with ⟨j, t, ek, ev⟩ | ⟨w, t, ek, ev⟩
    · cases ek
      refine ⟨t, ?_⟩
      rw [ev, List.getD_eq_getElem?_getD, ey]
      rfl
    · cases ek
  refine call_max_walk (wpAny_pyIter_dict lo hat ?_)
  refine ⟨_, [_, a], [_], _, _, _, _, rfl, Walks.dictKeys (knd := mixKind X.prog X.w) (A := X.A.in1) (I.ok.hd hc) s.heap.objs.size a (Nat.ne_of_lt hat.lt_size) vs ep, ⟨⟨_, Heap.get?_push_size _ rfl, rfl, rfl⟩, hat.push _⟩, fun e he => ?_, by omega, CmpOf.ints_gt (fun i => ks.getD i 0) hP, fun v h' tk hv hk => ?_⟩
  · rw [Heap.size_push]
    rcases List.mem_cons.mp he with w | w
    · rw [w]
      exact Nat.lt_succ_self _
    · rw [List.mem_singleton.mp w]
      exact Nat.lt_succ_of_lt hat.lt_size
  · obtain ⟨t, rfl⟩ := hP _ v hv
    obtain ⟨h1, h2⟩ := argBest_gt (fun i => ks.getD i 0) (vs.length - 1)
    have kept : ∀ e o, s.heap.get? e = some o → h'.get? e = some o := fun e o w => by
      refine hk e o (fun hm => ?_) (Heap.get?_push_of_some _ w)
      have lt := Heap.lt_size w
      rw [List.mem_singleton.mp hm] at lt
      exact Nat.lt_irrefl _ lt
    refine ⟨.int _, H, I.kept kept, ⟨t, rfl⟩, q _ ?_ fun y hy => ?_⟩
    · generalize argBest _ _ = j at h1
      have hj : j < ks.length := by omega
      rw [List.getD_eq_getElem?_getD, List.getElem?_eq_getElem hj]
      exact List.getElem_mem hj
    · obtain ⟨j, hj, rfl⟩ := List.mem_iff_getElem.mp hy
      have := h2 j (by omega)
      rw [List.getD_eq_getElem?_getD, List.getElem?_eq_getElem hj] at this
      exact this
end
end Net

set_option Elab.async false
set_option linter.all false
set_option maxRecDepth 100000
set_option maxHeartbeats 2000000
namespace Net
open PySem PySem.Spec PyProof.Rows L2 NM
/-! ### told_view -/
def row4 (x : Nat × Nat × Nat × Nat) : List Nat := [x.1, x.2.1, x.2.2.1, x.2.2.2]
def toldI (v : Ge11.View) (i : Nat) : List Nat := v.length :: (v.take i).flatMap row4
theorem row4_len : ∀ l : List (Nat × Nat × Nat × Nat), (l.flatMap row4).length = 4 * l.length
  | [] => rfl
  | x :: l => by
    rw [List.flatMap_cons, List.length_append, row4_len l, List.length_cons]
    show 4 + _ = _
    omega
theorem toldI_len {v : Ge11.View} {i : Nat} (h : v.length ≤ 20) : (toldI v i).length ≤ 81 := by
  unfold toldI
  rw [List.length_cons, row4_len, List.length_take]
  omega
theorem toldI_more {v : Ge11.View} {i : Nat} {x : Nat × Nat × Nat × Nat} (h : v[i]? = some x) : toldI v (i + 1) = toldI v i ++ row4 x := by
  unfold toldI
  rw [take_more h, List.flatMap_append, List.flatMap_cons, List.flatMap_nil, List.append_nil]
  rfl
theorem toldI_end (v : Ge11.View) : toldI v v.length = Ge11.viewRow v := by
  unfold toldI
  rw [List.take_length]
  rfl
theorem viewRow_len {v : Ge11.View} (h : v.length ≤ 20) : (Ge11.viewRow v).length ≤ 81 := by
  rw [← toldI_end]
  exact toldI_len h
section
variable {P : Program} {w : World} {K : PySem.W.Frag} {mg : Str → Option Value} {base : Heap}
def spTold : Sp := fun vs H Q _ => ∃ (F : Hp) (d : Addr) (v : Ge11.View), vs = [.ref d] ∧ Same F H ∧ ViewP F v d ∧ Srt vk v ∧ v.length ≤ 20 ∧
  ∀ (H' : Hp) (r : Addr), Same H H' → H r = none → H' r = some (.lst ((Ge11.viewRow v).map nV)) → Q (.ref r) H'
theorem scTold : FnScope ["view", "told", "number"] ["view"] (defScope sTold) := ⟨rfl, rfl, rfl, by decide +kernel, rfl, by decide +kernel, by decide +kernel⟩
theorem ok_told {f : Addr} {fd : FuncData} (F : Fun K "told_view" "told_view" sTold f fd) (mL : mg "len" = none) (mS : mg "sorted" = none) : FnOk P w K mg base CX0 1 f fd ["view"] spTold := by
  refine F.ok scTold (fun vs H Q E h => ?_) (fun cdv A outer s H vs Q E hr h => ?_)
  · obtain ⟨F, d, v, rfl, _⟩ := h
    rfl
  · obtain ⟨F, d, v, rfl, sF, ⟨kvs, es, hd0, hD, pw⟩, sv, lv, k⟩ := h
    have hu := hu_of hr
    have hd := sF _ _ hd0
    refine ⟨_, pss_cons (ps_set (i := 1) scTold.nd rfl (Or.inl rfl) (pe_lst (pa_cons (pe_callB call_lenD (by rfl) mL PySem.boot_len (pa_cons (pv 0) pa_nil)) pa_nil)))
      (pss_cons (ps_for PassesOwn.never rfl (pi_list (pe_callB (call_sortedDI rfl) (by rfl) mS (by decide +kernel) (pa_cons (pv 0) pa_nil))) (pg_name (i := 2) scTold.nd rfl (Or.inl rfl))
        (pss_cons (ps_expr (pe_bm PySem.F.plainAttrs_list PySem.F.slot_list_append PySem.F.type_list_append mt_append (pv 1) (pa_cons (pv 2) pa_nil)))
        (pss_one (ps_expr (pe_bm PySem.F.plainAttrs_list PySem.F.slot_list_extend PySem.F.type_list_extend mt_extT (pv 1) (pa_cons (pe_dget hu (pv 0) (pv 2) (fun _ _ => rfl)) pa_nil))))))
      (pss_one (ps_ret (pv 1)))), ?_⟩
    have lk : kvs.length = v.length := by rw [hD.len, pw.length_eq]
    refine ⟨_, rfl, d, kvs, rfl, hd, by show 1 ≤ sizeLine; decide, fun t ht => ?_⟩
    have s1 : Same H (upd H t (.lst [V.int ((kvs.length : Nat) : Int)])) := same_upd ht
    have hnd : Nd vk es := (nd_perm pw).mpr sv.nd
    refine ⟨_, rfl, d, kvs, _, rfl, .inl (s1 _ _ hd), hD.keys, by rw [List.length_map, pw.length_eq]; omega, fun ys p py sy hp => ?_⟩
    have ey := keys_sorted pw sv py sy
    subst ey
    have ntp : t ≠ p := fun q => by
      rw [← q, upd_same] at hp
      cases hp
    refine ⟨p, rfl, ⟨_, SqL.of upd_same⟩, for_list (K := K) (a := p) (xs := (v.map fun x => ((vk x : Nat) : Int)).map V.int)
      (fun i σ H' => ∃ (a : Option V), σ = [some (.ref d), some (.ref t), a] ∧ Same H H' ∧ H' p = some (.lst ((v.map fun x => ((vk x : Nat) : Int)).map V.int)) ∧ H' t = some (.lst ((toldI v i).map nV)))
      ⟨none, rfl, s1.trans (same_upd hp), upd_same, ?_⟩
      (fun i σ H' _ ⟨_, _, _, hp', _⟩ => SqL.of hp') ?_ ?_⟩
    · rw [upd_ne ntp, upd_same, lk]
      rfl
    · rintro i y σ H' hi ⟨a, rfl, sH, hp', ht'⟩
      obtain ⟨z, hz, rfl⟩ := map_at hi
      obtain ⟨x, hx, rfl⟩ := map_at hz
      obtain ⟨xv, ex, tt, rfl, htt0⟩ := hD.get hnd (pw.mem_iff.mpr (List.mem_of_getElem? hx))
      have htt := sH _ _ (sF _ _ htt0)
      have nlt := toldI_len (i := i) lv
      have big : (1000 : Nat) < sizeLine := by decide
      refine ⟨_, rfl, .inl ⟨rfl, _, SqL.of ht'⟩, _, rfl, t, _, _, rfl, rfl, ht', by rw [List.length_map]; omega, ?_⟩
      have ndt : d ≠ t := ne_of_none hd ht
      have nttt : tt ≠ t := ne_of_none (sF _ _ htt0) ht
      refine ⟨_, rfl, .inl ⟨rfl, _, SqL.of upd_same⟩, _, rfl, _, rfl, d, _, rfl, ex ▸ DGet.k (k := Sum.inl ((vk x : Nat) : Int)) (Eq.trans (upd_ne ndt) (sH _ _ hd)), t, tt, _, _, rfl, rfl, upd_same, SqT.of (Eq.trans (upd_ne nttt) htt), ?_, ?_⟩
      · rw [List.length_append, List.length_map]
        show _ + 1 + 3 ≤ _
        omega
      · rw [upd_upd]
        refine ⟨_, rfl, fun b o hb => ?_, ?_, ?_⟩
        · rw [upd_ne (ne_of_none hb ht)]
          exact sH b o hb
        · rw [upd_ne ntp.symm]
          exact hp'
        · rw [upd_same, toldI_more hx, List.map_append, List.append_assoc]
          rfl
    · rintro σ H' ⟨a, rfl, sH, hp', ht'⟩
      refine ⟨_, rfl, k H' t sH ht ?_⟩
      rw [List.length_map, List.length_map, toldI_end] at ht'
      exact ht'
end
end Net

set_option Elab.async false
set_option linter.all false
set_option maxRecDepth 100000
set_option maxHeartbeats 2000000
namespace Net
open PySem PySem.Spec PyProof.Rows L2 NM
theorem ints_nV (l : List Nat) : (Ge11.ints l).map V.int = l.map nV := by
  unfold Ge11.ints
  rw [List.map_map]
  rfl
/-- a call that only asks: new things alone -/
theorem finishN {D : Cs} {F H H' : Hp} {A : Ad} {g : Ge11.St} {n : Nat} {c : Ge11.Call} {Q : VK} {r : Addr} {ans : List Int} (k : Outcome D F H A g n c Q) (e : Ge11.step g c = (g, ans)) (S : Srv D F H A g) (G : Good (A.pr.map (·.hist)) g n)
    (s : Same H H') (nr : H r = none) (hr : H' r = some (.lst (ans.map V.int))) : Q (.ref r) H' := by
  refine k (ext F H H') H' A r ?_ ?_ (Fr.grow S.same s) ?_
  · rw [e]
    exact S.grow s
  · rw [e]
    exact G.succ
  · rw [e, ext_new nr]
    exact hr
section
variable {P : Program} {w : World} {K : PySem.W.Frag} {mg : Str → Option Value} {base : Heap} {D : Cs}
/-! ### word_lost -/
def spWLost (D : Cs) : Sp := fun vs H Q _ => ∃ (F : Hp) (A : Ad) (g : Ge11.St) (n i : Nat), vs = [.ref A.s, nV i] ∧ Srv D F H A g ∧ Good (A.pr.map (·.hist)) g n ∧ n ≤ 1000 ∧ Outcome D F H A g n (.ackLose i) Q
theorem scWLost : FnScope ["self", "place"] ["self", "place"] (defScope sSWLost) := ⟨rfl, rfl, rfl, by decide +kernel, rfl, by decide +kernel, by decide +kernel⟩
theorem ok_wlost {f : Addr} {fd : FuncData} (F : Fun K "word_lost" "Server.word_lost" sSWLost f fd) (T : Cl K mg "Server" D.CS seN) (M : Mgs mg) : FnOk P w K mg base CX0 1 f fd ["self", "place"] (spWLost D) := by
  refine F.ok scWLost (fun vs H Q E h => ?_) (fun cdv A outer s H vs Q E hr h => ?_)
  · obtain ⟨F, A, g, n, i, rfl, _⟩ := h
    rfl
  · obtain ⟨F, A, g, n, i, rfl, S, G, hn, k⟩ := h
    obtain ⟨xs, hx, hL⟩ := S.acks
    refine ⟨_, pss_cons (ps_if (pt_cmpR op_ge (pv 1) (pe_callB call_len_seq (by rfl) M.len PySem.boot_len (pa_cons (pe_fld (pv 0) rfl) pa_nil)) (nomark _)) (pss_one (ps_ret (pe_lst (pa_cons (pe_const M.NS) pa_nil)))) pss_nil)
      (pss_cons (ps_expr (pe_bm PySem.F.plainAttrs_list PySem.F.slot_list_pop PySem.F.type_list_pop mt_popAt (pe_fld (pv 0) rfl) (pa_cons (pv 1) pa_nil)))
      (pss_one (ps_ret (pe_lst (pa_cons (pe_callB call_len_seq (by rfl) M.len PySem.boot_len (pa_cons (pe_fld (pv 0) rfl) pa_nil)) pa_nil))))), ?_⟩
    refine ⟨_, rfl, _, rfl, A.s, D.CS, A.sdx, _, _, rfl, S.srv, T.cl, T.at 4, se_words, A.lW, _, rfl, .inl (SqL.of hx), _, _, rfl, rfl, _, rfl, ?_⟩
    have el := hL.len
    by_cases c : g.acks.length ≤ i
    · have e : Ge11.step g (.ackLose i) = (g, [-2]) := if_pos c
      refine if_true_of (decide_eq_true (by rw [el]; omega)) ⟨by show 1 ≤ sizeLine; decide, fun p hp => ?_⟩
      exact finish k e S G.succ Fr.refl hp rfl
    · have e : Ge11.step g (.ackLose i) = ({ g with acks := g.acks.eraseIdx i }, Ge11.ints [g.acks.length - 1]) := if_neg c
      have hi : i < xs.length := by omega
      refine if_false_of (decide_eq_false (by rw [el]; omega)) ?_
      obtain ⟨x, hxi⟩ : ∃ x, xs[i]? = some x := ⟨_, List.getElem?_eq_some_iff.mpr ⟨hi, rfl⟩⟩
      have an := G.an
      refine ⟨_, rfl, A.s, D.CS, A.sdx, _, _, rfl, S.srv, T.cl, T.at 4, se_words, .inl ⟨rfl, _, SqL.of hx⟩, _, rfl, A.lW, xs, ((i : Nat) : Int), i, x, rfl, rfl, hx, by omega, by omega, seq_at hi, hxi, ?_⟩
      have S1 := S.setWords (hL.erase i)
      refine ⟨_, rfl, A.s, D.CS, A.sdx, _, _, rfl, S1.srv, T.cl, T.at 4, se_words, A.lW, _, rfl, .inl (SqL.of upd_same), by show 1 ≤ sizeLine; decide, fun p hp => ?_⟩
      refine finish k e S1 (G.ackLose i) (Fr.own S.tags.lW) hp ?_
      rw [List.length_eraseIdx, if_pos hi, el]
      rfl
/-! ### sees -/
theorem pl_len {F H : Hp} {A : Ad} {g : Ge11.St} (S : Srv D F H A g) : (A.pr.map fun r => V.ref r.pa).length = g.players.length := by rw [← S.plE, List.length_map, List.length_map]
/-- the i-th player, if it is there -/
theorem pl_at {F H : Hp} {A : Ad} {g : Ge11.St} {n i : Nat} (S : Srv D F H A g) (G : Good (A.pr.map (·.hist)) g n) (c : i < g.players.length) :
    ∃ r, A.pr[i]? = some r ∧ g.players[i]? = some r.p ∧ GoodP g.tick r.p r.hist := by
  obtain ⟨r, hr, e⟩ := S.at (List.getElem?_eq_some_iff.mpr ⟨c, rfl⟩)
  have hp := S.plAt hr
  exact ⟨r, hr, hp, G.pl i r.p r.hist hp (by rw [List.getElem?_map, hr]; rfl)⟩
def spSees (D : Cs) : Sp := fun vs H Q _ => ∃ (F : Hp) (A : Ad) (g : Ge11.St) (n i : Nat), vs = [.ref A.s, nV i] ∧ Srv D F H A g ∧ Good (A.pr.map (·.hist)) g n ∧ Outcome D F H A g n (.sees i) Q
theorem scSees : FnScope ["self", "number"] ["self", "number"] (defScope sSSees) := ⟨rfl, rfl, rfl, by decide +kernel, rfl, by decide +kernel, by decide +kernel⟩
theorem ok_sees {f : Addr} {fd : FuncData} (F : Fun K "sees" "Server.sees" sSSees f fd) (T : Cl K mg "Server" D.CS seN) (M : Mgs mg) (NT : DefOk P w K mg base 1 "told_view" ["view"] spTold)
    (MV : MethOk P w K mg base 3 D.CS "view_now" ["self", "player"] (spVNow D)) : FnOk P w K mg base CX0 4 f fd ["self", "number"] (spSees D) := by
  obtain ⟨f1, fd1, G1, b1, k1, m1⟩ := NT.ex
  obtain ⟨f2, fd2, G2, b2, m2⟩ := MV.ex
  refine F.ok scSees (fun vs H Q E h => ?_) (fun cdv A outer s H vs Q E hr h => ?_)
  · obtain ⟨F, A, g, n, i, rfl, _⟩ := h
    rfl
  · obtain ⟨F, A, g, n, i, rfl, S, G, k⟩ := h
    have hr1 : Room 1 _ := hr.mono (by decide)
    refine ⟨_, pss_cons (ps_if (pt_cmpR op_ge (pv 1) (pe_callB call_len_seq (by rfl) M.len PySem.boot_len (pa_cons (pe_fld (pv 0) rfl) pa_nil)) (nomark _)) (pss_one (ps_ret (pe_lst (pa_cons (pe_const M.NS) pa_nil)))) pss_nil)
      (pss_one (ps_ret (pe_call G1 hr1 (by rfl) m1 k1 b1 .nil pass0 (pa_cons (pe_meth (pv 0) T.cl m2 G2 hr b2 .nil pass0 (pa_cons (pe_ix ix_list (pe_fld (pv 0) rfl) (pv 1) (fun _ _ => rfl)) pa_nil)) pa_nil)))), ?_⟩
    refine ⟨_, rfl, _, rfl, A.s, D.CS, A.sdx, _, _, rfl, S.srv, T.cl, T.at 1, se_players, A.lP, _, rfl, .inl (SqL.of S.pls), _, _, rfl, rfl, _, rfl, ?_⟩
    have el := pl_len S
    by_cases c : g.players.length ≤ i
    · have e : Ge11.step g (.sees i) = (g, [-2]) := by
        show ((g, match g.players[i]? with | none => _ | some q => _) : Ge11.St × List Int) = _
        rw [List.getElem?_eq_none c]
      refine if_true_of (decide_eq_true (by rw [el]; omega)) ⟨by show 1 ≤ sizeLine; decide, fun p hp => ?_⟩
      exact finish k e S G.succ Fr.refl hp rfl
    · refine if_false_of (decide_eq_false (by rw [el]; omega)) ?_
      obtain ⟨r, hr0, hpl, gp⟩ := pl_at S G (Nat.lt_of_not_le c)
      have e : Ge11.step g (.sees i) = (g, Ge11.ints (Ge11.viewRow (Ge11.viewOf g.world r.p.own r.p.far))) := by
        show ((g, match g.players[i]? with | none => _ | some q => _) : Ge11.St × List Int) = _
        rw [hpl]
      refine ⟨_, rfl, A.s, A.sdx, _, rfl, S.srv, fl_no (by decide +kernel), _, rfl, A.s, D.CS, A.sdx, _, _, rfl, S.srv, T.cl, T.at 1, se_players, _, rfl, A.lP, _, _, _, rfl, rfl, SqL.of S.pls, atI_nat (S.ref hr0), ?_⟩
      refine ⟨F, A, g, i, r, rfl, S, hr0, G.srt, G.len, fun H1 d s1 nd hv => ?_⟩
      refine ⟨ext F H H1, d, _, rfl, ext_in S.same s1, hv.p, viewOf_srt G.srt _ _, Nat.le_trans (viewOf_len _ _ _) G.len, fun H2 t s2 nt ht => ?_⟩
      refine finishN k e S G (s1.trans s2) (s1.free nt) ?_
      rw [ht, ints_nV]
end
end Net

set_option Elab.async false
set_option linter.all false
set_option maxRecDepth 100000
set_option maxHeartbeats 2000000
namespace Net
open PySem PySem.Spec PyProof.Rows L2 NM
section
variable {P : Program} {w : World} {K : PySem.W.Frag} {mg : Str → Option Value} {base : Heap} {D : Cs}
/-- a client has views of at most sixty ticks -/
theorem has_len {T : Nat} {p : Ge11.Player} {h : List TV} (gp : GoodP T p h) (t : T ≤ 60) : p.has.length ≤ 60 := by
  have nd : (p.has.map tk).Nodup := by
    unfold List.Nodup
    rw [List.pairwise_map]
    exact gp.hd.imp fun q => Nat.ne_of_gt q
  have hsub : ∀ y ∈ p.has.map tk, y ∈ List.range 60 := by
    intro y hy
    obtain ⟨q, hq, rfl⟩ := List.mem_map.mp hy
    have := (gp.lo q (gp.has q hq)).2
    exact List.mem_range.mpr (by show q.1 < 60; omega)
  have := List.Nodup.length_le_of_subset nd hsub
  rw [List.length_map, List.length_range] at this
  exact this
/-! ### has -/
def hasRow : List TV → List Int
  | [] => [-6]
  | x :: l => Ge11.ints ([x.1, l.length + 1] ++ Ge11.viewRow x.2)
theorem step_has {g : Ge11.St} {i : Nat} {q : Ge11.Player} (h : g.players[i]? = some q) : Ge11.step g (.has i) = (g, hasRow q.has) := by
  obtain ⟨a, b, c, d, hs⟩ := q
  show ((g, match g.players[i]? with | none => _ | some q => _) : Ge11.St × List Int) = _
  rw [h]
  cases hs <;> rfl
def spHas (D : Cs) : Sp := fun vs H Q _ => ∃ (F : Hp) (A : Ad) (g : Ge11.St) (n i : Nat), vs = [.ref A.s, nV i] ∧ Srv D F H A g ∧ Good (A.pr.map (·.hist)) g n ∧ Outcome D F H A g n (.has i) Q
theorem scHas : FnScope ["self", "number", "views", "newest"] ["self", "number"] (defScope sSHas) := ⟨rfl, rfl, rfl, by decide +kernel, rfl, by decide +kernel, by decide +kernel⟩
theorem ok_has {f : Addr} {fd : FuncData} (F : Fun K "has" "Server.has" sSHas f fd) (T : Cl K mg "Server" D.CS seN) (TP : Cl K mg "Player" D.CP plN) (TC : Cl K mg "Client" D.CC clN) (M : Mgs mg) (NT : DefOk P w K mg base 1 "told_view" ["view"] spTold) :
    FnOk P w K mg base CX0 2 f fd ["self", "number"] (spHas D) := by
  obtain ⟨f1, fd1, G1, b1, k1, m1⟩ := NT.ex
  refine F.ok scHas (fun vs H Q E h => ?_) (fun cdv A outer s H vs Q E hr h => ?_)
  · obtain ⟨F, A, g, n, i, rfl, _⟩ := h
    rfl
  · obtain ⟨F, A, g, n, i, rfl, S, G, k⟩ := h
    have hu := hu_of hr
    refine ⟨_, pss_cons (ps_if (pt_cmpR op_ge (pv 1) (pe_callB call_len_seq (by rfl) M.len PySem.boot_len (pa_cons (pe_fld (pv 0) rfl) pa_nil)) (nomark _)) (pss_one (ps_ret (pe_lst (pa_cons (pe_const M.NS) pa_nil)))) pss_nil)
      (pss_cons (ps_set (i := 2) scHas.nd rfl (Or.inl rfl) (pe_fld (pe_fld (pe_ix ix_list (pe_fld (pv 0) rfl) (pv 1) (fun _ _ => rfl)) rfl) rfl))
      (pss_cons (ps_if (pt_cmpR op_eq (pe_callB call_lenD (by rfl) M.len PySem.boot_len (pa_cons (pv 2) pa_nil)) pe_int (nomark _)) (pss_one (ps_ret (pe_lst (pa_cons (pe_const M.NV) pa_nil)))) pss_nil)
      (pss_cons (ps_set (i := 3) scHas.nd rfl (Or.inl rfl) (pe_callB (call_maxDI rfl) (by rfl) M.max (by decide +kernel) (pa_cons (pv 2) pa_nil)))
      (pss_one (ps_ret (pe_op op_cat (pe_lst (pa_cons (pv 3) (pa_cons (pe_callB call_lenD (by rfl) M.len PySem.boot_len (pa_cons (pv 2) pa_nil)) pa_nil)))
        (pe_call G1 hr (by rfl) m1 k1 b1 .nil pass0 (pa_cons (pe_dget hu (pv 2) (pv 3) (fun _ _ => rfl)) pa_nil)))))))), ?_⟩
    refine ⟨_, rfl, _, rfl, A.s, D.CS, A.sdx, _, _, rfl, S.srv, T.cl, T.at 1, se_players, A.lP, _, rfl, .inl (SqL.of S.pls), _, _, rfl, rfl, _, rfl, ?_⟩
    have el := pl_len S
    by_cases c : g.players.length ≤ i
    · have e : Ge11.step g (.has i) = (g, [-2]) := by
        show ((g, match g.players[i]? with | none => _ | some q => _) : Ge11.St × List Int) = _
        rw [List.getElem?_eq_none c]
      refine if_true_of (decide_eq_true (by rw [el]; omega)) ⟨by show 1 ≤ sizeLine; decide, fun p hp => ?_⟩
      exact finish k e S G.succ Fr.refl hp rfl
    · refine if_false_of (decide_eq_false (by rw [el]; omega)) ?_
      obtain ⟨r, hr0, hpl, gp⟩ := pl_at S G (Nat.lt_of_not_le c)
      have P1 := S.plA i r hr0
      obtain ⟨kvs, hk0, hD⟩ := P1.views
      have hk := S.same _ _ hk0
      have lk : kvs.length = r.p.has.length := by rw [hD.len, List.length_reverse]
      have e0 : Ge11.step g (.has i) = (g, hasRow r.p.has) := step_has hpl
      refine ⟨_, rfl, A.s, D.CS, A.sdx, _, _, rfl, S.srv, T.cl, T.at 1, se_players, _, rfl, A.lP, _, _, _, rfl, rfl, SqL.of S.pls, atI_nat (S.ref hr0), r.pa, D.CP, r.pdx, _, _, rfl, P1.pl, TP.cl, TP.at 4, pl_client, r.ca, D.CC, r.cdx, _, _, rfl, P1.cl, TC.cl, TC.at 0, cl_views, ?_⟩
      refine ⟨_, rfl, r.cd, kvs, rfl, hk, rfl, _, rfl, ?_⟩
      cases eh : r.p.has with
      | nil =>
        rw [eh] at e0 lk
        refine if_true_of (decide_eq_true (by rw [lk]; rfl)) ⟨by show 1 ≤ sizeLine; decide, fun p hp => ?_⟩
        exact finish k e0 S G.succ Fr.refl hp rfl
      | cons x l =>
        have l60 := has_len gp G.t60
        have hd := gp.hd
        have hx : x ∈ r.p.has := by
          rw [eh]
          exact List.mem_cons.mpr (.inl rfl)
        have nd : Nd tk r.p.has.reverse := by
          refine nd_rev ?_
          unfold Nd List.Nodup
          rw [List.pairwise_map]
          exact hd.imp fun q => Nat.ne_of_gt q
        have e : Ge11.step g (.has i) = (g, Ge11.ints ([x.1, l.length + 1] ++ Ge11.viewRow x.2)) := by
          rw [e0, eh]
          rfl
        have lx : r.p.has.length = l.length + 1 := by rw [eh]; rfl
        refine if_false_of (decide_eq_false (fun z => ?_)) ?_
        · have z := V.int.inj z
          omega
        refine ⟨_, rfl, r.cd, kvs, _, rfl, .inl hk, hD.keys, by rw [List.length_map, List.length_reverse]; omega, fun m hm hle => ?_⟩
        have em : m = ((x.1 : Nat) : Int) := by
          obtain ⟨y, hy, rfl⟩ := List.mem_map.mp hm
          have hy := List.mem_reverse.mp hy
          have h1 := hle ((tk x : Nat) : Int) (List.mem_map.mpr ⟨x, List.mem_reverse.mpr hx, rfl⟩)
          have h1' : x.1 ≤ y.1 := by
            have h1 : ((x.1 : Nat) : Int) ≤ ((y.1 : Nat) : Int) := h1
            omega
          rw [eh] at hy hd
          rcases List.mem_cons.mp hy with rfl | hy
          · rfl
          · have := (List.pairwise_cons.mp hd).1 y hy
            omega
        subst em
        refine ⟨_, rfl, _, rfl, r.cd, kvs, rfl, hk, by show 2 ≤ sizeLine; decide, fun q hq => ?_⟩
        have sq := same_upd (o := .lst [V.int ((x.1 : Nat) : Int), V.int ((kvs.length : Nat) : Int)]) hq
        obtain ⟨u, hu1, d, rfl, hvp⟩ := hD.get nd (List.mem_reverse.mpr hx)
        obtain ⟨sx, lx20⟩ := gp.vw x (gp.has x hx)
        refine ⟨_, rfl, _, rfl, r.cd, _, rfl, hu1 ▸ DGet.k (k := Sum.inl ((x.1 : Nat) : Int)) (sq _ _ hk), F, d, x.2, rfl, S.same.trans sq, hvp, sx, lx20, fun H2 t s2 nt ht => ?_⟩
        have hq2 := s2 _ _ (upd_same (H := H) (a := q))
        refine ⟨q, t, _, _, rfl, rfl, hq2, ht, ?_, fun p hp => ?_⟩
        · have := viewRow_len lx20
          have big : (1000 : Nat) < sizeLine := by decide
          rw [List.length_map]
          show 2 + _ ≤ _
          omega
        · have s02 := sq.trans s2
          refine finishN k e S G (s02.trans (same_upd hp)) (s02.free hp) ?_
          rw [upd_same, ints_nV, List.map_append, lk, lx]
          rfl
end
end Net

set_option Elab.async false
set_option linter.all false
set_option maxRecDepth 100000
set_option maxHeartbeats 2000000
namespace Net
open PySem PySem.Spec PyProof.Rows L2 NM
section
variable {P : Program} {w : World} {K : PySem.W.Frag} {mg : Str → Option Value} {base : Heap} {D : Cs}
/-! ### would -/
def spWould (D : Cs) : Sp := fun vs H Q _ => ∃ (F : Hp) (A : Ad) (g : Ge11.St) (n i : Nat), vs = [.ref A.s, nV i] ∧ Srv D F H A g ∧ Good (A.pr.map (·.hist)) g n ∧ Outcome D F H A g n (.would i) Q
theorem scWould : FnScope ["self", "number", "letter"] ["self", "number"] (defScope sSWould) := ⟨rfl, rfl, rfl, by decide +kernel, rfl, by decide +kernel, by decide +kernel⟩
theorem ok_would {f : Addr} {fd : FuncData} (F : Fun K "would" "Server.would" sSWould f fd) (T : Cl K mg "Server" D.CS seN) (TL : Cl K mg "Letter" D.CL leN) (M : Mgs mg) (NT : DefOk P w K mg base 1 "told_view" ["view"] spTold)
    (MN : MethOk P w K mg base 4 D.CS "next_letter" ["self", "receiver"] (spNext D)) : FnOk P w K mg base CX0 5 f fd ["self", "number"] (spWould D) := by
  obtain ⟨f1, fd1, G1, b1, k1, m1⟩ := NT.ex
  obtain ⟨f2, fd2, G2, b2, m2⟩ := MN.ex
  refine F.ok scWould (fun vs H Q E h => ?_) (fun cdv A outer s H vs Q E hr h => ?_)
  · obtain ⟨F, A, g, n, i, rfl, _⟩ := h
    rfl
  · obtain ⟨F, A, g, n, i, rfl, S, G, k⟩ := h
    have hr1 : Room 1 _ := hr.mono (by decide)
    refine ⟨_, pss_cons (ps_if (pt_cmpR op_ge (pv 1) (pe_callB call_len_seq (by rfl) M.len PySem.boot_len (pa_cons (pe_fld (pv 0) rfl) pa_nil)) (nomark _)) (pss_one (ps_ret (pe_lst (pa_cons (pe_const M.NS) pa_nil)))) pss_nil)
      (pss_cons (ps_set (i := 2) scWould.nd rfl (Or.inl rfl) (pe_meth (pv 0) T.cl m2 G2 hr b2 .nil pass0 (pa_cons (pv 1) pa_nil)))
      (pss_one (ps_ret (pe_op op_cat (pe_op op_cat (pe_op op_cat (pe_lst (pa_cons (pe_fld (pv 2) rfl) (pa_cons (pe_fld (pv 2) rfl) pa_nil))) (pe_call G1 hr1 (by rfl) m1 k1 b1 .nil pass0 (pa_cons (pe_fld (pv 2) rfl) pa_nil)))
        (pe_lst (pa_cons (pe_callB call_len_seq (by rfl) M.len PySem.boot_len (pa_cons (pe_fld (pv 2) rfl) pa_nil)) pa_nil))) (pe_fld (pv 2) rfl))))), ?_⟩
    refine ⟨_, rfl, _, rfl, A.s, D.CS, A.sdx, _, _, rfl, S.srv, T.cl, T.at 1, se_players, A.lP, _, rfl, .inl (SqL.of S.pls), _, _, rfl, rfl, _, rfl, ?_⟩
    have el := pl_len S
    by_cases c : g.players.length ≤ i
    · have e : Ge11.step g (.would i) = (g, [-2]) := by
        show ((g, match g.players[i]? with | none => _ | some q => _) : Ge11.St × List Int) = _
        rw [List.getElem?_eq_none c]
      refine if_true_of (decide_eq_true (by rw [el]; omega)) ⟨by show 1 ≤ sizeLine; decide, fun p hp => ?_⟩
      exact finish k e S G.succ Fr.refl hp rfl
    · refine if_false_of (decide_eq_false (by rw [el]; omega)) ?_
      obtain ⟨r, hr0, hpl, gp⟩ := pl_at S G (Nat.lt_of_not_le c)
      have e : Ge11.step g (.would i) = (g, Ge11.ints (Ge11.letterRow (Ge11.letterFor g r.p))) := by
        show ((g, match g.players[i]? with | none => _ | some q => _) : Ge11.St × List Int) = _
        rw [hpl]
      refine ⟨_, rfl, A.s, A.sdx, _, rfl, S.srv, fl_no (by decide +kernel), _, rfl, F, A, g, i, r, rfl, S, hr0, G.srt, G.len, gp, G.t1, fun H1 v s1 hLet => ?_⟩
      have sF1 : Same (ext F H H1) H1 := ext_in S.same s1
      generalize ext F H H1 = F1 at hLet sF1
      obtain ⟨la, ldx, pd, gl, rfl, hla0, hvp, hgl0⟩ := hLet
      have hla := sF1 _ _ hla0
      have hgl := sF1 _ _ hgl0
      generalize hl : Ge11.letterFor g r.p = l at *
      have lput : Srt vk l.delta.put ∧ l.delta.put.length ≤ 20 ∧ l.delta.gone.length ≤ 20 := by
        rw [← hl]
        have sv : Srt vk (Ge11.viewOf g.world r.p.own r.p.far) := viewOf_srt G.srt _ _
        have lv : (Ge11.viewOf g.world r.p.own r.p.far).length ≤ 20 := Nat.le_trans (viewOf_len _ _ _) G.len
        refine ⟨sv.filter _, Nat.le_trans (List.length_filter_le _ _) lv, ?_⟩
        show (List.map _ (List.filter _ r.p.known.2)).length ≤ 20
        rw [List.length_map]
        exact Nat.le_trans (List.length_filter_le _ _) (gp.view gp.known).2
      obtain ⟨sp, lp, lg⟩ := lput
      have big : (1000 : Nat) < sizeLine := by decide
      have lrow := viewRow_len lp
      -- [letter.tick, letter.since]
      refine ⟨_, rfl, la, D.CL, ldx, _, _, rfl, hla, TL.cl, TL.at 1, le_tick, _, rfl, la, D.CL, ldx, _, _, rfl, hla, TL.cl, TL.at 2, le_since, by show 2 ≤ sizeLine; decide, fun q hq => ?_⟩
      have s2 := same_upd (o := .lst [nV l.tick, nV l.since]) hq
      have hq2 : (upd H1 q (.lst [nV l.tick, nV l.since])) q = some (.lst [nV l.tick, nV l.since]) := upd_same
      generalize upd H1 q (.lst [nV l.tick, nV l.since]) = H2 at s2 hq2
      -- told_view(letter.put)
      refine ⟨_, rfl, la, D.CL, ldx, _, _, rfl, s2 _ _ hla, TL.cl, TL.at 3, le_put, F1, pd, l.delta.put, rfl, sF1.trans s2, hvp.p, sp, lp, fun H3 t s3 nt ht => ?_⟩
      have hq3 := s3 _ _ hq2
      refine ⟨q, t, _, _, rfl, rfl, hq3, ht, ?_, fun x hx => ?_⟩
      · rw [List.length_map]
        show 2 + _ ≤ _
        omega
      have s4 := same_upd (o := .lst ([nV l.tick, nV l.since] ++ (Ge11.viewRow l.delta.put).map nV)) hx
      have hx4 : (upd H3 x (.lst ([nV l.tick, nV l.since] ++ (Ge11.viewRow l.delta.put).map nV))) x = some _ := upd_same
      generalize upd H3 x (.lst ([nV l.tick, nV l.since] ++ (Ge11.viewRow l.delta.put).map nV)) = H4 at s4 hx4
      have s14 := (s2.trans s3).trans s4
      -- [len(letter.gone)]
      refine ⟨_, rfl, la, D.CL, ldx, _, _, rfl, s14 _ _ hla, TL.cl, TL.at 4, le_gone, gl, _, rfl, .inl (SqL.of (s14 _ _ hgl)), by show 1 ≤ sizeLine; decide, fun y hy => ?_⟩
      have lgn : (l.delta.gone.map nV).length = l.delta.gone.length := List.length_map _
      have s5 := same_upd (o := .lst [V.int (((l.delta.gone.map nV).length : Nat) : Int)]) hy
      have hy5 : (upd H4 y (.lst [V.int (((l.delta.gone.map nV).length : Nat) : Int)])) y = some _ := upd_same
      generalize upd H4 y (.lst [V.int (((l.delta.gone.map nV).length : Nat) : Int)]) = H5 at s5 hy5
      refine ⟨x, y, _, _, rfl, rfl, s5 _ _ hx4, hy5, ?_, fun z hz => ?_⟩
      · rw [List.length_append, List.length_map]
        show 2 + _ + 1 ≤ _
        omega
      have s6 := same_upd (o := .lst ([nV l.tick, nV l.since] ++ (Ge11.viewRow l.delta.put).map nV ++ [V.int (((l.delta.gone.map nV).length : Nat) : Int)])) hz
      have hz6 : (upd H5 z (.lst ([nV l.tick, nV l.since] ++ (Ge11.viewRow l.delta.put).map nV ++ [V.int (((l.delta.gone.map nV).length : Nat) : Int)]))) z = some _ := upd_same
      generalize upd H5 z (.lst ([nV l.tick, nV l.since] ++ (Ge11.viewRow l.delta.put).map nV ++ [V.int (((l.delta.gone.map nV).length : Nat) : Int)])) = H6 at s6 hz6
      have s16 := (s14.trans s5).trans s6
      refine ⟨_, rfl, la, D.CL, ldx, _, _, rfl, s16 _ _ hla, TL.cl, TL.at 4, le_gone, z, gl, _, _, rfl, rfl, hz6, s16 _ _ hgl, ?_, fun p hp => ?_⟩
      · rw [List.length_append, List.length_append, List.length_map, List.length_map]
        show 2 + _ + 1 + _ ≤ _
        omega
      have s06 := s1.trans s16
      refine finishN k e S G (s06.trans (same_upd hp)) (s06.free hp) ?_
      rw [upd_same, ints_nV, lgn]
      unfold Ge11.letterRow
      rw [List.map_append, List.map_append, List.append_assoc ([nV l.tick, nV l.since] ++ (Ge11.viewRow l.delta.put).map nV)]
      rfl
end
end Net

set_option Elab.async false
set_option linter.all false
set_option maxRecDepth 100000
set_option maxHeartbeats 2000000
namespace Net
open PySem PySem.Spec PyProof.Rows L2 NM
/-! ### rows, one behind another -/
def rowsI {α : Type} (f : α → List Nat) (es : List α) (i : Nat) : List Nat := (es.take i).flatMap f
theorem rowsI_more {α : Type} {f : α → List Nat} {es : List α} {i : Nat} {x : α} (h : es[i]? = some x) : rowsI f es (i + 1) = rowsI f es i ++ f x := by
  unfold rowsI
  rw [take_more h, List.flatMap_append, List.flatMap_cons, List.flatMap_nil, List.append_nil]
theorem flat_len {α : Type} {f : α → List Nat} {m : Nat} (h : ∀ x, (f x).length = m) : ∀ l : List α, (l.flatMap f).length = m * l.length
  | [] => rfl
  | x :: l => by
    rw [List.flatMap_cons, List.length_append, flat_len h l, h x, List.length_cons, Nat.mul_succ]
    omega
theorem rowsI_len {α : Type} {f : α → List Nat} {m : Nat} (h : ∀ x, (f x).length = m) {es : List α} {i : Nat} : (rowsI f es i).length ≤ m * es.length := by
  unfold rowsI
  rw [flat_len h, List.length_take]
  exact Nat.mul_le_mul_left m (Nat.min_le_right _ _)
theorem rowsI_end {α : Type} (f : α → List Nat) (es : List α) : rowsI f es es.length = es.flatMap f := by
  unfold rowsI
  rw [List.take_length]
theorem LstOf.got {α : Type} {R : α → V → Prop} {xs : List V} {es : List α} (h : LstOf R xs es) {i : Nat} {v : V} (hv : xs[i]? = some v) : ∃ x, es[i]? = some x ∧ R x v := by
  obtain ⟨L, rfl, rfl, h⟩ := h
  obtain ⟨q, hq, rfl⟩ := map_at hv
  exact ⟨q.1, by rw [List.getElem?_map, hq]; rfl, h q (List.mem_of_getElem? hq)⟩
def rowL (x : Nat × Ge11.Letter) : List Nat := [x.1, x.2.tick, x.2.since, Ge11.size x.2.delta]
def rowW (x : Nat × Nat) : List Nat := [x.1, x.2]
section
variable {P : Program} {w : World} {K : PySem.W.Frag} {mg : Str → Option Value} {base : Heap} {D : Cs}
/-! ### on_the_way -/
def spWay (D : Cs) : Sp := fun vs H Q _ => ∃ (F : Hp) (A : Ad) (g : Ge11.St) (n : Nat), vs = [.ref A.s] ∧ Srv D F H A g ∧ Good (A.pr.map (·.hist)) g n ∧ n ≤ 1000 ∧ Outcome D F H A g n .onTheWay Q
theorem scWay : FnScope ["self", "told", "letter", "word"] ["self"] (defScope sSWay) := ⟨rfl, rfl, rfl, by decide +kernel, rfl, by decide +kernel, by decide +kernel⟩
theorem ok_way {f : Addr} {fd : FuncData} (F : Fun K "on_the_way" "Server.on_the_way" sSWay f fd) (T : Cl K mg "Server" D.CS seN) (TL : Cl K mg "Letter" D.CL leN) (TW : Cl K mg "Word" D.CW woN) (M : Mgs mg) (MZ : MethOk P w K mg base 1 D.CL "size" ["self"] (spSize D.CL)) :
    FnOk P w K mg base CX0 2 f fd ["self"] (spWay D) := by
  obtain ⟨f3, fd3, G3, b3, m3⟩ := MZ.ex
  refine F.ok scWay (fun vs H Q E h => ?_) (fun cdv A outer s H vs Q E hr h => ?_)
  · obtain ⟨F, A, g, n, rfl, _⟩ := h
    rfl
  · obtain ⟨F, A, g, n, rfl, S, G, hn, k⟩ := h
    obtain ⟨xs, hx, hL⟩ := S.lets
    obtain ⟨ws, hw, hW⟩ := S.acks
    refine ⟨_, pss_cons (ps_set (i := 1) scWay.nd rfl (Or.inl rfl) (pe_lst (pa_cons (pe_callB call_len_seq (by rfl) M.len PySem.boot_len (pa_cons (pe_fld (pv 0) rfl) pa_nil)) pa_nil)))
      (pss_cons (ps_for PassesOwn.never rfl (pi_list (pe_fld (pv 0) rfl)) (pg_name (i := 2) scWay.nd rfl (Or.inl rfl))
        (pss_one (ps_expr (pe_bm PySem.F.plainAttrs_list PySem.F.slot_list_extend PySem.F.type_list_extend mt_extend (pv 1) (pa_cons (pe_lst (pa_cons (pe_fld (pv 2) rfl) (pa_cons (pe_fld (pv 2) rfl) (pa_cons (pe_fld (pv 2) rfl) (pa_cons (pe_meth0 (pv 2) TL.cl m3 G3 hr b3 .nil pass0) pa_nil))))) pa_nil)))))
      (pss_cons (ps_expr (pe_bm PySem.F.plainAttrs_list PySem.F.slot_list_append PySem.F.type_list_append mt_append (pv 1) (pa_cons (pe_callB call_len_seq (by rfl) M.len PySem.boot_len (pa_cons (pe_fld (pv 0) rfl) pa_nil)) pa_nil)))
      (pss_cons (ps_for PassesOwn.never rfl (pi_list (pe_fld (pv 0) rfl)) (pg_name (i := 3) scWay.nd rfl (Or.inl rfl))
        (pss_one (ps_expr (pe_bm PySem.F.plainAttrs_list PySem.F.slot_list_extend PySem.F.type_list_extend mt_extend (pv 1) (pa_cons (pe_lst (pa_cons (pe_fld (pv 3) rfl) (pa_cons (pe_fld (pv 3) rfl) pa_nil))) pa_nil)))))
      (pss_one (ps_ret (pv 1)))))), ?_⟩
    have el := hL.len
    have ew := hW.len
    have l30 := G.l30
    have an := G.an
    have big : (10000 : Nat) < sizeLine := by decide
    have lL : ∀ j, (rowsI rowL g.letters j).length ≤ 4 * g.letters.length := fun j => rowsI_len (f := rowL) (m := 4) fun _ => rfl
    have lW : ∀ j, (rowsI rowW g.acks j).length ≤ 2 * g.acks.length := fun j => rowsI_len (f := rowW) (m := 2) fun _ => rfl
    refine ⟨_, rfl, A.s, D.CS, A.sdx, _, _, rfl, S.srv, T.cl, T.at 3, se_letters, A.lL, _, rfl, .inl (SqL.of hx), by show 1 ≤ sizeLine; decide, fun t ht => ?_⟩
    have s1 := same_upd (o := .lst [V.int ((xs.length : Nat) : Int)]) ht
    refine ⟨_, rfl, A.s, D.CS, A.sdx, _, _, rfl, s1 _ _ S.srv, T.cl, T.at 3, se_letters, A.lL, rfl, ⟨_, SqL.of (s1 _ _ hx)⟩, for_list (K := K) (a := A.lL) (xs := xs)
      (fun i σ H' => ∃ (a : Option V), σ = [some (.ref A.s), some (.ref t), a, none] ∧ Same H H' ∧ H' t = some (.lst ((g.letters.length :: rowsI rowL g.letters i).map nV)))
      ⟨none, rfl, s1, ?_⟩ (fun i σ H' _ ⟨_, _, sH, _⟩ => SqL.of (sH _ _ hx)) ?_ ?_⟩
    · rw [upd_same, el]
      rfl
    · rintro i y σ H' hi ⟨a, rfl, sH, ht'⟩
      obtain ⟨x, hxi, hLet⟩ := hL.got hi
      have hLet' := hLet.mono (S.same.trans sH)
      obtain ⟨la, ldx, pd, gl, rfl, hla, _, _⟩ := id hLet'
      refine ⟨_, rfl, .inl ⟨rfl, _, SqL.of ht'⟩, _, rfl, la, D.CL, ldx, _, _, rfl, hla, TL.cl, TL.at 0, le_rec, _, rfl, la, D.CL, ldx, _, _, rfl, hla, TL.cl, TL.at 1, le_tick, _, rfl, la, D.CL, ldx, _, _, rfl, hla, TL.cl, TL.at 2, le_since, _, rfl, la, ldx, _, rfl, hla, fl_no (by decide +kernel), _, x, rfl, hLet', by show 4 ≤ sizeLine; decide, fun q hq => ?_⟩
      have ntq : t ≠ q := ne_of_none ht' hq
      refine ⟨t, q, _, _, rfl, rfl, Eq.trans (upd_ne ntq) ht', upd_same, ?_, ?_⟩
      · have := lL i
        rw [List.length_map, List.length_cons]
        show _ + 1 + 4 ≤ _
        omega
      · refine ⟨_, rfl, fun b o hb => ?_, ?_⟩
        · rw [upd_ne (ne_of_none hb ht), upd_ne (ne_of_none (sH _ _ hb) hq)]
          exact sH b o hb
        · rw [upd_same, rowsI_more hxi, List.map_cons, List.map_cons, List.map_append]
          rfl
    · rintro σ H' ⟨a, rfl, sH, ht'⟩
      rw [el, rowsI_end] at ht'
      have lLe : (g.letters.flatMap rowL).length = 4 * g.letters.length := flat_len (f := rowL) (m := 4) (fun _ => rfl) _
      refine ⟨_, rfl, .inl ⟨rfl, _, SqL.of ht'⟩, _, rfl, A.s, D.CS, A.sdx, _, _, rfl, sH _ _ S.srv, T.cl, T.at 4, se_words, A.lW, _, rfl, .inl (SqL.of (sH _ _ hw)), t, _, _, rfl, rfl, ht', ?_, ?_⟩
      · rw [List.length_map, List.length_cons]
        omega
      have s2 : Same H (upd H' t (.lst ((g.letters.length :: g.letters.flatMap rowL).map nV ++ [V.int ((ws.length : Nat) : Int)]))) := fun b o hb => by
        rw [upd_ne (ne_of_none hb ht)]
        exact sH b o hb
      refine ⟨_, rfl, A.s, D.CS, A.sdx, _, _, rfl, s2 _ _ S.srv, T.cl, T.at 4, se_words, A.lW, rfl, ⟨_, SqL.of (s2 _ _ hw)⟩, for_list (K := K) (a := A.lW) (xs := ws)
        (fun i σ H' => ∃ (b : Option V), σ = [some (.ref A.s), some (.ref t), a, b] ∧ Same H H' ∧ H' t = some (.lst ((g.letters.length :: g.letters.flatMap rowL ++ g.acks.length :: rowsI rowW g.acks i).map nV)))
        ⟨none, rfl, s2, ?_⟩ (fun i σ H' _ ⟨_, _, sH, _⟩ => SqL.of (sH _ _ hw)) ?_ ?_⟩
      · rw [upd_same, ew, List.map_append]
        rfl
      · rintro i y σ H' hi ⟨b, rfl, sH, ht'⟩
        obtain ⟨x, hxi, hWd⟩ := hW.got hi
        obtain ⟨wa, wdx, rfl, hwa⟩ := hWd.mono (S.same.trans sH)
        refine ⟨_, rfl, .inl ⟨rfl, _, SqL.of ht'⟩, _, rfl, wa, D.CW, wdx, _, _, rfl, hwa, TW.cl, TW.at 0, wo_sender, _, rfl, wa, D.CW, wdx, _, _, rfl, hwa, TW.cl, TW.at 1, wo_tick, by show 2 ≤ sizeLine; decide, fun q hq => ?_⟩
        have ntq : t ≠ q := ne_of_none ht' hq
        refine ⟨t, q, _, _, rfl, rfl, Eq.trans (upd_ne ntq) ht', upd_same, ?_, ?_⟩
        · have := lW i
          rw [List.length_map, List.length_append, List.length_cons, List.length_cons, lLe]
          show _ + 2 ≤ _
          omega
        · refine ⟨_, rfl, fun c o hc => ?_, ?_⟩
          · rw [upd_ne (ne_of_none hc ht), upd_ne (ne_of_none (sH _ _ hc) hq)]
            exact sH c o hc
          · rw [upd_same, rowsI_more hxi]
            simp only [List.map_append, List.map_cons, List.append_assoc, List.cons_append]
            rfl
      · rintro σ H' ⟨b, rfl, sH, ht'⟩
        rw [ew, rowsI_end] at ht'
        have e : Ge11.step g .onTheWay = (g, Ge11.ints (g.letters.length :: g.letters.flatMap rowL ++ g.acks.length :: g.acks.flatMap rowW)) := rfl
        refine ⟨_, rfl, finishN k e S G sH ht ?_⟩
        rw [ht', ints_nV]
end
end Net

set_option Elab.async false
set_option linter.all false
set_option maxRecDepth 100000
set_option maxHeartbeats 2000000
namespace Net
open PySem PySem.Spec PyProof.Rows L2 NM
theorem hist_len {T : Nat} {p : Ge11.Player} {h : List TV} (gp : GoodP T p h) (t : T ≤ 60) : h.length ≤ 60 := by
  have hsub : ∀ y ∈ h.map tk, y ∈ List.range 60 := by
    intro y hy
    obtain ⟨q, hq, rfl⟩ := List.mem_map.mp hy
    have := (gp.lo q hq).2
    exact List.mem_range.mpr (by show q.1 < 60; omega)
  have := List.Nodup.length_le_of_subset (l₁ := h.map tk) (l₂ := List.range 60) gp.srt.nd hsub
  rw [List.length_map, List.length_range] at this
  exact this
theorem filter_more {α : Type} (c : α → Bool) {l : List α} {i : Nat} {x : α} (h : l[i]? = some x) : (l.take (i + 1)).filter c = (l.take i).filter c ++ (if c x = true then [x] else []) := by
  rw [take_more h, List.filter_append]
  congr 1
  by_cases q : c x = true
  · rw [if_pos q, List.filter_cons, if_pos q]
    rfl
  · rw [if_neg q, List.filter_cons, if_neg q]
    rfl
section
variable {P : Program} {w : World} {K : PySem.W.Frag} {mg : Str → Option Value} {base : Heap} {D : Cs} {CP : Addr}
/-! ### sent_since_known -/
def spSince (CP : Addr) : Sp := fun vs H Q _ => ∃ (R : TV → V → Prop) (pa pdx sd ca : Addr) (p : Ge11.Player) (kvs : List (Key × V)) (hist : List TV), vs = [.ref pa] ∧ H pa = some (.ins CP pdx (fl plN (plV p sd ca))) ∧ H sd = some (.dK kvs) ∧ DOf tk R kvs hist ∧ hist.length ≤ 100 ∧
  ∀ H', Same H H' → Q (nV (hist.filter fun x => decide (p.known.1 < x.1)).length) H'
theorem scSince : FnScope ["self", "tick"] ["self"] (defScope sPlaSent) := ⟨rfl, rfl, rfl, by decide +kernel, rfl, by decide +kernel, by decide +kernel⟩
theorem ok_since {f : Addr} {fd : FuncData} (F : Fun K "sent_since_known" "Player.sent_since_known" sPlaSent f fd) (T : Cl K mg "Player" CP plN) (mL : mg "len" = none) : FnOk P w K mg base CX0 1 f fd ["self"] (spSince CP) := by
  refine F.ok scSince (fun vs H Q E h => ?_) (fun cdv A outer s H vs Q E hr h => ?_)
  · obtain ⟨R, pa, pdx, sd, ca, p, kvs, hist, rfl, _⟩ := h
    rfl
  · obtain ⟨R, pa, pdx, sd, ca, p, kvs, hist, rfl, hp, hsd, hD, h100, k⟩ := h
    refine ⟨_, pss_one (ps_lock (ps_ret (pe_callB call_len_seq (by rfl) mL PySem.boot_len (pa_cons (pe_lc (own := [("tick", 1)]) (g := gName 1) (tt := tTest (tOp rGt (tVar 1) (tFld K (tVar 0) "known"))) rfl scSince.nd (pi_keys (pe_fld (pv 0) rfl))
      (blkOk_by (own := [("tick", 1)]) (N := ["self", "tick"]) (sc := defScope sPlaSent) (by decide +kernel)) (fun _ _ _ _ _ => pg_name (i := 1) scSince.nd rfl (Or.inl rfl)) (fun _ _ _ _ _ => pts_one (pt_cmpR op_gt (pv 1) (pe_fld (pv 0) rfl) (nomark _))) (fun _ _ _ _ _ => pv 1)) pa_nil)))), ?_⟩
    refine ⟨sd, .dK kvs, hsd, trivial, fun od => ?_⟩
    have nps : pa ≠ sd := ne_of hp hsd (by intro z; cases z)
    have hp0 : (upd H sd (.frz od (.dK kvs))) pa = _ := Eq.trans (upd_ne nps) hp
    refine ⟨_, rfl, pa, CP, pdx, _, _, rfl, hp0, T.cl, T.at 3, pl_sent, sd, od, rfl, .inl ⟨kvs, upd_same, fun L hL => ?_⟩⟩
    have e0 : (upd H sd (.frz od (.dK kvs))) sd = some (.frz od (.dK kvs)) := upd_same
    have s0 := same_upd (o := .lst []) hL
    refine lc_it walk_keys (fun i H' => Same (upd H sd (.frz od (.dK kvs))) H' ∧ H' L = some (.lst (((hist.take i).filter fun x => decide (p.known.1 < x.1)).map fun x => nV x.1)))
      ⟨s0, upd_same⟩ (fun i H' _ ⟨sH, _⟩ => sH _ _ e0) ?_ ?_
    · rintro i x H' H'' hi ⟨sH, hL'⟩ ⟨rfl, kk, vv, hkk, rfl⟩
      obtain ⟨e, he, rfl, _⟩ := enc_at hD hkk
      have step := filter_more (fun x : TV => decide (p.known.1 < x.1)) he
      refine ⟨rfl, _, rfl, _, rfl, pa, CP, pdx, _, _, rfl, sH _ _ hp0, T.cl, T.at 2, pl_known, _, _, rfl, rfl, _, rfl, ?_⟩
      by_cases q : p.known.1 < e.1
      · rw [if_pos (decide_eq_true q)] at step
        refine if_true_of (decide_eq_true (by show ((p.known.1 : Nat) : Int) < ((e.1 : Nat) : Int); omega)) ⟨_, rfl, _, hL', ?_, fun b o hb => ?_, ?_⟩
        · rw [List.length_map]
          refine Nat.lt_of_le_of_lt (List.length_filter_le _ _) ?_
          rw [List.length_take]
          have : (100 : Nat) < sizeLine := by decide
          omega
        · rw [upd_ne (ne_of_none hb hL)]
          exact sH b o hb
        · rw [upd_same, step, List.map_append]
          rfl
      · rw [if_neg (by rw [decide_eq_false q]; decide), List.append_nil] at step
        refine if_false_of (decide_eq_false (by show ¬ ((p.known.1 : Nat) : Int) < ((e.1 : Nat) : Int); omega)) ⟨sH, ?_⟩
        rw [step]
        exact hL'
    · rintro H' ⟨sH, hL'⟩
      refine ⟨L, _, rfl, .inl (SqL.of hL'), sH _ _ e0, ?_⟩
      rw [hD.len, List.take_length, List.length_map]
      refine k _ fun b o hb => ?_
      by_cases q : b = sd
      · subst q
        rw [upd_same, ← hsd, hb]
      · rw [upd_ne q]
        exact sH b o (Eq.trans (upd_ne q) hb)
/-! ### state -/
def rowP (p : Ge11.Player) : List Nat := [p.known.1, p.sent.length, p.has.length]
def spState (D : Cs) : Sp := fun vs H Q _ => ∃ (F : Hp) (A : Ad) (g : Ge11.St) (n : Nat), vs = [.ref A.s] ∧ Srv D F H A g ∧ Good (A.pr.map (·.hist)) g n ∧ Outcome D F H A g n .state Q
theorem scState : FnScope ["self", "told", "player"] ["self"] (defScope sSState) := ⟨rfl, rfl, rfl, by decide +kernel, rfl, by decide +kernel, by decide +kernel⟩
theorem ok_state {f : Addr} {fd : FuncData} (F : Fun K "state" "Server.state" sSState f fd) (T : Cl K mg "Server" D.CS seN) (TP : Cl K mg "Player" D.CP plN) (TC : Cl K mg "Client" D.CC clN) (M : Mgs mg) (MS : MethOk P w K mg base 1 D.CP "sent_since_known" ["self"] (spSince D.CP)) :
    FnOk P w K mg base CX0 2 f fd ["self"] (spState D) := by
  obtain ⟨f3, fd3, G3, b3, m3⟩ := MS.ex
  refine F.ok scState (fun vs H Q E h => ?_) (fun cdv A outer s H vs Q E hr h => ?_)
  · obtain ⟨F, A, g, n, rfl, _⟩ := h
    rfl
  · obtain ⟨F, A, g, n, rfl, S, G, k⟩ := h
    obtain ⟨kvs, es, hd, hD, pw⟩ := S.things
    refine ⟨_, pss_cons (ps_set (i := 1) scState.nd rfl (Or.inl rfl) (pe_lst (pa_cons (pe_op op_add (pe_fld (pv 0) rfl) pe_int) (pa_cons (pe_callB call_lenD (by rfl) M.len PySem.boot_len (pa_cons (pe_fld (pv 0) rfl) pa_nil)) (pa_cons (pe_callB call_len_seq (by rfl) M.len PySem.boot_len (pa_cons (pe_fld (pv 0) rfl) pa_nil)) pa_nil)))))
      (pss_cons (ps_for PassesOwn.never rfl (pi_list (pe_fld (pv 0) rfl)) (pg_name (i := 2) scState.nd rfl (Or.inl rfl))
        (pss_one (ps_expr (pe_bm PySem.F.plainAttrs_list PySem.F.slot_list_extend PySem.F.type_list_extend mt_extend (pv 1) (pa_cons (pe_lst (pa_cons (pe_fld (pv 2) rfl) (pa_cons (pe_meth0 (pv 2) TP.cl m3 G3 hr b3 .nil pass0) (pa_cons (pe_callB call_lenD (by rfl) M.len PySem.boot_len (pa_cons (pe_fld (pe_fld (pv 2) rfl) rfl) pa_nil)) pa_nil)))) pa_nil)))))
      (pss_one (ps_ret (pv 1)))), ?_⟩
    have el := pl_len S
    have p4 := G.p4
    have t1 := G.t1
    have big : (10000 : Nat) < sizeLine := by decide
    have lP : ∀ j, (rowsI rowP g.players j).length ≤ 3 * g.players.length := fun j => rowsI_len (f := rowP) (m := 3) fun _ => rfl
    refine ⟨_, rfl, A.s, D.CS, A.sdx, _, _, rfl, S.srv, T.cl, T.at 2, se_ticks, _, _, rfl, rfl, _, rfl, A.s, D.CS, A.sdx, _, _, rfl, S.srv, T.cl, T.at 0, se_things, A.dT, kvs, rfl, hd, _, rfl, A.s, D.CS, A.sdx, _, _, rfl, S.srv, T.cl, T.at 1, se_players, A.lP, _, rfl, .inl (SqL.of S.pls), by show 3 ≤ sizeLine; decide, fun t ht => ?_⟩
    have s1 := same_upd (o := .lst [V.int (((g.tick : Nat) : Int) - 1 + 1), V.int ((kvs.length : Nat) : Int), V.int (((A.pr.map fun r => V.ref r.pa).length : Nat) : Int)]) ht
    refine ⟨_, rfl, A.s, D.CS, A.sdx, _, _, rfl, s1 _ _ S.srv, T.cl, T.at 1, se_players, A.lP, rfl, ⟨_, SqL.of (s1 _ _ S.pls)⟩, for_list (K := K) (a := A.lP) (xs := A.pr.map fun r => V.ref r.pa)
      (fun i σ H' => ∃ (a : Option V), σ = [some (.ref A.s), some (.ref t), a] ∧ Same H H' ∧ H' t = some (.lst (([g.tick, g.world.length, g.players.length] ++ rowsI rowP g.players i).map nV)))
      ⟨none, rfl, s1, ?_⟩ (fun i σ H' _ ⟨_, _, sH, _⟩ => SqL.of (sH _ _ S.pls)) ?_ ?_⟩
    · have et : ((g.tick : Nat) : Int) - 1 + 1 = ((g.tick : Nat) : Int) := by omega
      have ek : kvs.length = g.world.length := by rw [hD.len, pw.length_eq]
      rw [upd_same]
      show some (HO.lst [V.int (((g.tick : Nat) : Int) - 1 + 1), _, _]) = _
      rw [et, ek, el]
      rfl
    · rintro i y σ H' hi ⟨a, rfl, sH, ht'⟩
      obtain ⟨r, hr0, rfl⟩ := map_at hi
      have hpl := S.plAt hr0
      have gp : GoodP g.tick r.p r.hist := G.pl i r.p r.hist hpl (by rw [List.getElem?_map, hr0]; rfl)
      have P1 := S.plA i r hr0
      obtain ⟨ks, hks, hS⟩ := P1.sent
      obtain ⟨kv, hkv0, hV⟩ := P1.views
      have hkv := S.same _ _ hkv0
      have h60 := hist_len gp G.t60
      refine ⟨_, rfl, .inl ⟨rfl, _, SqL.of ht'⟩, _, rfl, r.pa, D.CP, r.pdx, _, _, rfl, sH _ _ P1.pl, TP.cl, TP.at 2, pl_known, _, rfl, r.pa, r.pdx, _, rfl, sH _ _ P1.pl, fl_no (by decide +kernel), _, r.pa, r.pdx, r.sd, r.ca, r.p, ks, _, rfl, sH _ _ P1.pl, sH _ _ hks, hS, by rw [List.length_cons]; omega, fun H1 s2 => ?_⟩
      have sH1 := sH.trans s2
      have ht1 := s2 _ _ ht'
      refine ⟨_, rfl, r.pa, D.CP, r.pdx, _, _, rfl, sH1 _ _ P1.pl, TP.cl, TP.at 4, pl_client, r.ca, D.CC, r.cdx, _, _, rfl, sH1 _ _ P1.cl, TC.cl, TC.at 0, cl_views, r.cd, kv, rfl, sH1 _ _ hkv, by show 3 ≤ sizeLine; decide, fun q hq => ?_⟩
      have ntq : t ≠ q := ne_of_none ht1 hq
      refine ⟨t, q, _, _, rfl, rfl, Eq.trans (upd_ne ntq) ht1, upd_same, ?_, ?_⟩
      · have := lP i
        rw [List.length_map, List.length_append]
        show 3 + _ + 3 ≤ _
        omega
      · refine ⟨_, rfl, fun b o hb => ?_, ?_⟩
        · rw [upd_ne (ne_of_none hb ht), upd_ne (ne_of_none (sH1 _ _ hb) hq)]
          exact sH1 b o hb
        · have e1 : (((0, []) :: r.hist).filter fun x : TV => decide (r.p.known.1 < x.1)).length = r.p.sent.length := by
            rw [gp.sent, List.length_reverse, List.filter_cons, if_neg (by rw [decide_eq_false (Nat.not_lt_zero _)]; decide)]
          have e2 : kv.length = r.p.has.length := by rw [hV.len, List.length_reverse]
          rw [upd_same, rowsI_more hpl, e1, e2, List.map_append, List.map_append, List.map_append, List.append_assoc]
          rfl
    · rintro σ H' ⟨a, rfl, sH, ht'⟩
      rw [el, rowsI_end] at ht'
      have e : Ge11.step g .state = (g, Ge11.ints ([g.tick, g.world.length, g.players.length] ++ g.players.flatMap rowP)) := rfl
      refine ⟨_, rfl, finishN k e S G sH ht ?_⟩
      rw [ht', ints_nV]
end
end Net

set_option Elab.async false
set_option linter.all false
set_option maxRecDepth 100000
set_option maxHeartbeats 4000000
namespace Net
open PySem PySem.Spec PyProof.Rows L2 NM
structure Codes (mg : Str → Option Value) : Prop where
  c0 : Cn mg "THING" 0
  c1 : Cn mg "GONE" 1
  c2 : Cn mg "PLAYER" 2
  c3 : Cn mg "TICK" 3
  c4 : Cn mg "ARRIVE" 4
  c5 : Cn mg "LOSE" 5
  c6 : Cn mg "WORD_ARRIVES" 6
  c7 : Cn mg "WORD_LOST" 7
structure Asks (mg : Str → Option Value) : Prop where
  c8 : Cn mg "SEES" 8
  c9 : Cn mg "HAS" 9
  c10 : Cn mg "ON_THE_WAY" 10
  c11 : Cn mg "WOULD" 11
/-- a test against a code -/
theorem code_no {p z : Int} {A B : Prop} (h : p ≠ z) (b : B) : if decide (V.int p = V.int z) = true then A else B :=
  if_false_of (decide_eq_false fun q => h (V.int.inj q)) b
theorem code_yes {p : Int} {A B : Prop} (a : A) : if decide (V.int p = V.int p) = true then A else B := if_true_of (decide_eq_true rfl) a
section
variable {P : Program} {w : World} {K : PySem.W.Frag} {mg : Str → Option Value} {base : Heap} {D : Cs}
def spAsk (D : Cs) : Sp := fun vs H Q _ => ∃ (F : Hp) (A : Ad) (g : Ge11.St) (n : Nat) (p : Int) (a : List Int) (x : Ge11.Call) (nl : Addr), vs = [.ref A.s, .int p, .ref nl] ∧ F nl = some (.lst (a.map V.int)) ∧ Dec p a x ∧ 8 ≤ p ∧
  Srv D F H A g ∧ Good (A.pr.map (·.hist)) g n ∧ n ≤ 1000 ∧ Outcome D F H A g n x Q
theorem scAsk : FnScope ["server", "call", "numbers"] ["server", "call", "numbers"] (defScope sAsk) := ⟨rfl, rfl, rfl, by decide +kernel, rfl, by decide +kernel, by decide +kernel⟩
theorem ok_ask {f : Addr} {fd : FuncData} (F : Fun K "answer_of_asking" "answer_of_asking" sAsk f fd) (T : Cl K mg "Server" D.CS seN) (C : Asks mg)
    (M8 : MethOk P w K mg base 4 D.CS "sees" ["self", "number"] (spSees D)) (M9 : MethOk P w K mg base 2 D.CS "has" ["self", "number"] (spHas D)) (M10 : MethOk P w K mg base 2 D.CS "on_the_way" ["self"] (spWay D))
    (M11 : MethOk P w K mg base 5 D.CS "would" ["self", "number"] (spWould D)) (M12 : MethOk P w K mg base 2 D.CS "state" ["self"] (spState D)) :
    FnOk P w K mg base CX0 6 f fd ["server", "call", "numbers"] (spAsk D) := by
  obtain ⟨f8, fd8, G8, b8, m8⟩ := M8.ex
  obtain ⟨f9, fd9, G9, b9, m9⟩ := M9.ex
  obtain ⟨f10, fd10, G10, b10, m10⟩ := M10.ex
  obtain ⟨f11, fd11, G11, b11, m11⟩ := M11.ex
  obtain ⟨f12, fd12, G12, b12, m12⟩ := M12.ex
  refine F.ok scAsk (fun vs H Q E h => ?_) (fun cdv A outer s H vs Q E hr h => ?_)
  · obtain ⟨F, A, g, n, p, a, x, nl, rfl, _⟩ := h
    rfl
  · obtain ⟨F, A, g, n, p, a, x, nl, rfl, hnl, dec, hp8, S, G, hn, k⟩ := h
    have hr2 : Room 2 _ := hr.mono (by decide)
    have hr4 : Room 4 _ := hr.mono (by decide)
    refine ⟨_, pss_cons (ps_if (pt_cmpR op_eq (pv 1) (pe_const C.c8) (nomark _)) (pss_one (ps_ret (pe_meth (pv 0) T.cl m8 G8 hr4 b8 .nil pass0 (pa_cons (pe_ix ix_list (pv 2) pe_int (fun _ _ => rfl)) pa_nil)))) pss_nil)
      (pss_cons (ps_if (pt_cmpR op_eq (pv 1) (pe_const C.c9) (nomark _)) (pss_one (ps_ret (pe_meth (pv 0) T.cl m9 G9 hr2 b9 .nil pass0 (pa_cons (pe_ix ix_list (pv 2) pe_int (fun _ _ => rfl)) pa_nil)))) pss_nil)
      (pss_cons (ps_if (pt_cmpR op_eq (pv 1) (pe_const C.c10) (nomark _)) (pss_one (ps_ret (pe_meth0 (pv 0) T.cl m10 G10 hr2 b10 .nil pass0))) pss_nil)
      (pss_cons (ps_if (pt_cmpR op_eq (pv 1) (pe_const C.c11) (nomark _)) (pss_one (ps_ret (pe_meth (pv 0) T.cl m11 G11 hr b11 .nil pass0 (pa_cons (pe_ix ix_list (pv 2) pe_int (fun _ _ => rfl)) pa_nil)))) pss_nil)
      (pss_one (ps_ret (pe_meth0 (pv 0) T.cl m12 G12 hr2 b12 .nil pass0)))))), ?_⟩
    have hnH := S.same _ _ hnl
    cases dec with
    | sees c =>
      refine ⟨_, rfl, rfl, _, rfl, code_yes ?_⟩
      exact ⟨_, rfl, A.s, A.sdx, _, rfl, S.srv, fl_no (by decide +kernel), _, rfl, nl, _, _, _, rfl, rfl, SqL.of hnH, at_of (j := 0) rfl rfl, F, A, g, n, c, rfl, S, G, k⟩
    | has c =>
      refine ⟨_, rfl, rfl, _, rfl, code_no (by decide) ?_⟩
      refine ⟨_, rfl, rfl, _, rfl, code_yes ?_⟩
      exact ⟨_, rfl, A.s, A.sdx, _, rfl, S.srv, fl_no (by decide +kernel), _, rfl, nl, _, _, _, rfl, rfl, SqL.of hnH, at_of (j := 0) rfl rfl, F, A, g, n, c, rfl, S, G, k⟩
    | onTheWay =>
      refine ⟨_, rfl, rfl, _, rfl, code_no (by decide) ?_⟩
      refine ⟨_, rfl, rfl, _, rfl, code_no (by decide) ?_⟩
      refine ⟨_, rfl, rfl, _, rfl, code_yes ?_⟩
      exact ⟨_, rfl, A.s, A.sdx, _, rfl, S.srv, fl_no (by decide +kernel), F, A, g, n, rfl, S, G, hn, k⟩
    | would c =>
      refine ⟨_, rfl, rfl, _, rfl, code_no (by decide) ?_⟩
      refine ⟨_, rfl, rfl, _, rfl, code_no (by decide) ?_⟩
      refine ⟨_, rfl, rfl, _, rfl, code_no (by decide) ?_⟩
      refine ⟨_, rfl, rfl, _, rfl, code_yes ?_⟩
      exact ⟨_, rfl, A.s, A.sdx, _, rfl, S.srv, fl_no (by decide +kernel), _, rfl, nl, _, _, _, rfl, rfl, SqL.of hnH, at_of (j := 0) rfl rfl, F, A, g, n, c, rfl, S, G, k⟩
    | state =>
      refine ⟨_, rfl, rfl, _, rfl, code_no (by decide) ?_⟩
      refine ⟨_, rfl, rfl, _, rfl, code_no (by decide) ?_⟩
      refine ⟨_, rfl, rfl, _, rfl, code_no (by decide) ?_⟩
      refine ⟨_, rfl, rfl, _, rfl, code_no (by decide) ?_⟩
      exact ⟨_, rfl, A.s, A.sdx, _, rfl, S.srv, fl_no (by decide +kernel), F, A, g, n, rfl, S, G, k⟩
    | _ => exact absurd hp8 (by decide)
def spAns1 (D : Cs) (top : Int) : Sp := fun vs H Q _ => ∃ (F : Hp) (A : Ad) (g : Ge11.St) (n : Nat) (p : Int) (a : List Int) (x : Ge11.Call) (nl : Addr), vs = [.ref A.s, .int p, .ref nl] ∧ F nl = some (.lst (a.map V.int)) ∧ Dec p a x ∧ p ≤ top ∧
  Srv D F H A g ∧ Good (A.pr.map (·.hist)) g n ∧ n ≤ 1000 ∧ Outcome D F H A g n x Q
theorem scAns1 : FnScope ["server", "call", "numbers"] ["server", "call", "numbers"] (defScope sAns1) := ⟨rfl, rfl, rfl, by decide +kernel, rfl, by decide +kernel, by decide +kernel⟩
theorem ok_ans1 {f : Addr} {fd : FuncData} (F : Fun K "answer_of" "answer_of" sAns1 f fd) (T : Cl K mg "Server" D.CS seN) (TT : Cl K mg "Thing" D.CT thN) (C : Codes mg)
    (M0 : MethOk P w K mg base 1 D.CS "put_thing" ["self", "number", "thing"] (spThing D)) (MT : MakeOk P w K mg base 1 D.CT ["self", "column", "row", "look", "hidden"] (spThingI D.CT))
    (M1 : MethOk P w K mg base 1 D.CS "take_thing_away" ["self", "number"] (spGoneT D)) (M2 : MethOk P w K mg base 5 D.CS "add_player" ["self", "own", "far"] (spPla D)) (M3 : MethOk P w K mg base 5 D.CS "run_tick" ["self"] (spTick D))
    (M4 : MethOk P w K mg base 3 D.CS "letter_arrives" ["self", "place"] (spArr D)) (M5 : MethOk P w K mg base 1 D.CS "letter_lost" ["self", "place"] (spLost D)) (M6 : MethOk P w K mg base 1 D.CS "word_arrives" ["self", "place"] (spWord D))
    (M7 : MethOk P w K mg base 1 D.CS "word_lost" ["self", "place"] (spWLost D)) (N8 : DefOk P w K mg base 6 "answer_of_asking" ["server", "call", "numbers"] (spAsk D)) :
    FnOk P w K mg base CX0 7 f fd ["server", "call", "numbers"] (spAns1 D 12) := by
  obtain ⟨f0, fd0, G0, b0, m0⟩ := M0.ex
  obtain ⟨fT, fdT, GT, bT, mT⟩ := MT.ex
  obtain ⟨f1, fd1, G1, b1, m1⟩ := M1.ex
  obtain ⟨f2, fd2, G2, b2, m2⟩ := M2.ex
  obtain ⟨f3, fd3, G3, b3, m3⟩ := M3.ex
  obtain ⟨f4, fd4, G4, b4, m4⟩ := M4.ex
  obtain ⟨f5, fd5, G5, b5, m5⟩ := M5.ex
  obtain ⟨f6, fd6, G6, b6, m6⟩ := M6.ex
  obtain ⟨f7, fd7, G7, b7, m7⟩ := M7.ex
  obtain ⟨f8, fd8, G8, b8, k8, m8⟩ := N8.ex
  refine F.ok scAns1 (fun vs H Q E h => ?_) (fun cdv A outer s H vs Q E hr h => ?_)
  · obtain ⟨F, A, g, n, p, a, x, nl, rfl, _⟩ := h
    rfl
  · obtain ⟨F, A, g, n, p, a, x, nl, rfl, hnl, dec, hp6, S, G, hn, k⟩ := h
    have hr1 : Room 1 _ := hr.mono (by decide)
    have hr2 : Room 2 _ := hr.mono (by decide)
    have hr3 : Room 3 _ := hr.mono (by decide)
    have hr5 : Room 5 _ := hr.mono (by decide)
    refine ⟨_, pss_cons (ps_if (pt_cmpR op_eq (pv 1) (pe_const C.c0) (nomark _)) (pss_one (ps_ret (pe_meth (pv 0) T.cl m0 G0 hr1 b0 .nil pass0 (pa_cons (pe_ix ix_list (pv 2) pe_int (fun _ _ => rfl)) (pa_cons (pe_make mT GT hr2 rfl TT.mg bT .nil pass0 (pa_cons (pe_ix ix_list (pv 2) pe_int (fun _ _ => rfl)) (pa_cons (pe_ix ix_list (pv 2) pe_int (fun _ _ => rfl)) (pa_cons (pe_ix ix_list (pv 2) pe_int (fun _ _ => rfl)) (pa_cons (pe_ix ix_list (pv 2) pe_int (fun _ _ => rfl)) pa_nil))))) pa_nil))))) pss_nil)
      (pss_cons (ps_if (pt_cmpR op_eq (pv 1) (pe_const C.c1) (nomark _)) (pss_one (ps_ret (pe_meth (pv 0) T.cl m1 G1 hr1 b1 .nil pass0 (pa_cons (pe_ix ix_list (pv 2) pe_int (fun _ _ => rfl)) pa_nil)))) pss_nil)
      (pss_cons (ps_if (pt_cmpR op_eq (pv 1) (pe_const C.c2) (nomark _)) (pss_one (ps_ret (pe_meth (pv 0) T.cl m2 G2 hr5 b2 .nil pass0 (pa_cons (pe_ix ix_list (pv 2) pe_int (fun _ _ => rfl)) (pa_cons (pe_ix ix_list (pv 2) pe_int (fun _ _ => rfl)) pa_nil))))) pss_nil)
      (pss_cons (ps_if (pt_cmpR op_eq (pv 1) (pe_const C.c3) (nomark _)) (pss_one (ps_ret (pe_meth0 (pv 0) T.cl m3 G3 hr5 b3 .nil pass0))) pss_nil)
      (pss_cons (ps_if (pt_cmpR op_eq (pv 1) (pe_const C.c4) (nomark _)) (pss_one (ps_ret (pe_meth (pv 0) T.cl m4 G4 hr3 b4 .nil pass0 (pa_cons (pe_ix ix_list (pv 2) pe_int (fun _ _ => rfl)) pa_nil)))) pss_nil)
      (pss_cons (ps_if (pt_cmpR op_eq (pv 1) (pe_const C.c5) (nomark _)) (pss_one (ps_ret (pe_meth (pv 0) T.cl m5 G5 hr1 b5 .nil pass0 (pa_cons (pe_ix ix_list (pv 2) pe_int (fun _ _ => rfl)) pa_nil)))) pss_nil)
      (pss_cons (ps_if (pt_cmpR op_eq (pv 1) (pe_const C.c6) (nomark _)) (pss_one (ps_ret (pe_meth (pv 0) T.cl m6 G6 hr1 b6 .nil pass0 (pa_cons (pe_ix ix_list (pv 2) pe_int (fun _ _ => rfl)) pa_nil)))) pss_nil)
      (pss_cons (ps_if (pt_cmpR op_eq (pv 1) (pe_const C.c7) (nomark _)) (pss_one (ps_ret (pe_meth (pv 0) T.cl m7 G7 hr1 b7 .nil pass0 (pa_cons (pe_ix ix_list (pv 2) pe_int (fun _ _ => rfl)) pa_nil)))) pss_nil)
      (pss_one (ps_ret (pe_call G8 hr (by rfl) m8 k8 b8 .nil pass0 (pa_cons (pv 0) (pa_cons (pv 1) (pa_cons (pv 2) pa_nil))))))))))))), ?_⟩
    have hnH := S.same _ _ hnl
    cases dec with
    | thing c x y l h =>
      refine ⟨_, rfl, rfl, _, rfl, code_yes ?_⟩
      refine ⟨_, rfl, A.s, A.sdx, _, rfl, S.srv, fl_no (by decide +kernel), _, rfl, nl, _, _, _, rfl, rfl, SqL.of hnH, at_of (j := 0) rfl rfl, ?_⟩
      refine ⟨_, rfl, nl, _, _, _, rfl, rfl, SqL.of hnH, at_of (j := 1) rfl rfl, _, rfl, nl, _, _, _, rfl, rfl, SqL.of hnH, at_of (j := 2) rfl rfl, _, rfl, nl, _, _, _, rfl, rfl, SqL.of hnH, at_of (j := 3) rfl rfl, _, rfl, nl, _, _, _, rfl, rfl, SqL.of hnH, at_of (j := 4) rfl rfl, ?_⟩
      intro tx tdx nx nd ne
      refine ⟨tx, tdx, _, _, _, _, rfl, upd_same, rfl, ?_⟩
      rw [upd_upd]
      generalize hH1 : upd (upd H tdx (.own tx)) tx (.ins D.CT tdx (fl thN [V.int ((x : Nat) : Int), V.int ((y : Nat) : Int), V.int ((l : Nat) : Int), V.int (if h = true then 1 else 0)])) = H1
      have s1 : Same H H1 := fun b o hb => by
        rw [← hH1, upd_ne (ne_of_none hb nx), upd_ne (ne_of_none hb nd)]
        exact hb
      refine ⟨ext F H H1, A, g, n, ⟨c, x, y, l, h⟩, .ref tx, rfl, S.grow s1, G, ⟨tx, tdx, rfl, ?_⟩, fun F' H' A' r S' G' f' e' => k F' H' A' r S' G' ((Fr.grow S.same s1).trans f') e'⟩
      rw [ext_new nx, ← hH1, upd_same]
      rfl
    | gone c =>
      refine ⟨_, rfl, rfl, _, rfl, code_no (by decide) ?_⟩
      refine ⟨_, rfl, rfl, _, rfl, code_yes ?_⟩
      exact ⟨_, rfl, A.s, A.sdx, _, rfl, S.srv, fl_no (by decide +kernel), _, rfl, nl, _, _, _, rfl, rfl, SqL.of hnH, at_of (j := 0) rfl rfl, F, A, g, n, c, rfl, S, G, k⟩
    | player o f =>
      refine ⟨_, rfl, rfl, _, rfl, code_no (by decide) ?_⟩
      refine ⟨_, rfl, rfl, _, rfl, code_no (by decide) ?_⟩
      refine ⟨_, rfl, rfl, _, rfl, code_yes ?_⟩
      exact ⟨_, rfl, A.s, A.sdx, _, rfl, S.srv, fl_no (by decide +kernel), _, rfl, nl, _, _, _, rfl, rfl, SqL.of hnH, at_of (j := 0) rfl rfl, _, rfl, nl, _, _, _, rfl, rfl, SqL.of hnH, at_of (j := 1) rfl rfl, F, A, g, n, o, f, rfl, S, G, k⟩
    | tick =>
      refine ⟨_, rfl, rfl, _, rfl, code_no (by decide) ?_⟩
      refine ⟨_, rfl, rfl, _, rfl, code_no (by decide) ?_⟩
      refine ⟨_, rfl, rfl, _, rfl, code_no (by decide) ?_⟩
      refine ⟨_, rfl, rfl, _, rfl, code_yes ?_⟩
      exact ⟨_, rfl, A.s, A.sdx, _, rfl, S.srv, fl_no (by decide +kernel), F, A, g, n, rfl, S, G, k⟩
    | arrive c =>
      refine ⟨_, rfl, rfl, _, rfl, code_no (by decide) ?_⟩
      refine ⟨_, rfl, rfl, _, rfl, code_no (by decide) ?_⟩
      refine ⟨_, rfl, rfl, _, rfl, code_no (by decide) ?_⟩
      refine ⟨_, rfl, rfl, _, rfl, code_no (by decide) ?_⟩
      refine ⟨_, rfl, rfl, _, rfl, code_yes ?_⟩
      exact ⟨_, rfl, A.s, A.sdx, _, rfl, S.srv, fl_no (by decide +kernel), _, rfl, nl, _, _, _, rfl, rfl, SqL.of hnH, at_of (j := 0) rfl rfl, F, A, g, n, c, rfl, S, G, hn, k⟩
    | lose c =>
      refine ⟨_, rfl, rfl, _, rfl, code_no (by decide) ?_⟩
      refine ⟨_, rfl, rfl, _, rfl, code_no (by decide) ?_⟩
      refine ⟨_, rfl, rfl, _, rfl, code_no (by decide) ?_⟩
      refine ⟨_, rfl, rfl, _, rfl, code_no (by decide) ?_⟩
      refine ⟨_, rfl, rfl, _, rfl, code_no (by decide) ?_⟩
      refine ⟨_, rfl, rfl, _, rfl, code_yes ?_⟩
      exact ⟨_, rfl, A.s, A.sdx, _, rfl, S.srv, fl_no (by decide +kernel), _, rfl, nl, _, _, _, rfl, rfl, SqL.of hnH, at_of (j := 0) rfl rfl, F, A, g, n, c, rfl, S, G, k⟩
    | ackArrive c =>
      refine ⟨_, rfl, rfl, _, rfl, code_no (by decide) ?_⟩
      refine ⟨_, rfl, rfl, _, rfl, code_no (by decide) ?_⟩
      refine ⟨_, rfl, rfl, _, rfl, code_no (by decide) ?_⟩
      refine ⟨_, rfl, rfl, _, rfl, code_no (by decide) ?_⟩
      refine ⟨_, rfl, rfl, _, rfl, code_no (by decide) ?_⟩
      refine ⟨_, rfl, rfl, _, rfl, code_no (by decide) ?_⟩
      refine ⟨_, rfl, rfl, _, rfl, code_yes ?_⟩
      exact ⟨_, rfl, A.s, A.sdx, _, rfl, S.srv, fl_no (by decide +kernel), _, rfl, nl, _, _, _, rfl, rfl, SqL.of hnH, at_of (j := 0) rfl rfl, F, A, g, n, c, rfl, S, G, hn, k⟩
    | ackLose c =>
      refine ⟨_, rfl, rfl, _, rfl, code_no (by decide) ?_⟩
      refine ⟨_, rfl, rfl, _, rfl, code_no (by decide) ?_⟩
      refine ⟨_, rfl, rfl, _, rfl, code_no (by decide) ?_⟩
      refine ⟨_, rfl, rfl, _, rfl, code_no (by decide) ?_⟩
      refine ⟨_, rfl, rfl, _, rfl, code_no (by decide) ?_⟩
      refine ⟨_, rfl, rfl, _, rfl, code_no (by decide) ?_⟩
      refine ⟨_, rfl, rfl, _, rfl, code_no (by decide) ?_⟩
      refine ⟨_, rfl, rfl, _, rfl, code_yes ?_⟩
      exact ⟨_, rfl, A.s, A.sdx, _, rfl, S.srv, fl_no (by decide +kernel), _, rfl, nl, _, _, _, rfl, rfl, SqL.of hnH, at_of (j := 0) rfl rfl, F, A, g, n, c, rfl, S, G, hn, k⟩
    | sees c =>
      refine ⟨_, rfl, rfl, _, rfl, code_no (by decide) ?_⟩
      refine ⟨_, rfl, rfl, _, rfl, code_no (by decide) ?_⟩
      refine ⟨_, rfl, rfl, _, rfl, code_no (by decide) ?_⟩
      refine ⟨_, rfl, rfl, _, rfl, code_no (by decide) ?_⟩
      refine ⟨_, rfl, rfl, _, rfl, code_no (by decide) ?_⟩
      refine ⟨_, rfl, rfl, _, rfl, code_no (by decide) ?_⟩
      refine ⟨_, rfl, rfl, _, rfl, code_no (by decide) ?_⟩
      refine ⟨_, rfl, rfl, _, rfl, code_no (by decide) ?_⟩
      exact ⟨_, rfl, _, rfl, _, rfl, F, A, g, n, _, _, _, nl, rfl, hnl, Dec.sees c, by decide, S, G, hn, k⟩
    | has c =>
      refine ⟨_, rfl, rfl, _, rfl, code_no (by decide) ?_⟩
      refine ⟨_, rfl, rfl, _, rfl, code_no (by decide) ?_⟩
      refine ⟨_, rfl, rfl, _, rfl, code_no (by decide) ?_⟩
      refine ⟨_, rfl, rfl, _, rfl, code_no (by decide) ?_⟩
      refine ⟨_, rfl, rfl, _, rfl, code_no (by decide) ?_⟩
      refine ⟨_, rfl, rfl, _, rfl, code_no (by decide) ?_⟩
      refine ⟨_, rfl, rfl, _, rfl, code_no (by decide) ?_⟩
      refine ⟨_, rfl, rfl, _, rfl, code_no (by decide) ?_⟩
      exact ⟨_, rfl, _, rfl, _, rfl, F, A, g, n, _, _, _, nl, rfl, hnl, Dec.has c, by decide, S, G, hn, k⟩
    | onTheWay =>
      refine ⟨_, rfl, rfl, _, rfl, code_no (by decide) ?_⟩
      refine ⟨_, rfl, rfl, _, rfl, code_no (by decide) ?_⟩
      refine ⟨_, rfl, rfl, _, rfl, code_no (by decide) ?_⟩
      refine ⟨_, rfl, rfl, _, rfl, code_no (by decide) ?_⟩
      refine ⟨_, rfl, rfl, _, rfl, code_no (by decide) ?_⟩
      refine ⟨_, rfl, rfl, _, rfl, code_no (by decide) ?_⟩
      refine ⟨_, rfl, rfl, _, rfl, code_no (by decide) ?_⟩
      refine ⟨_, rfl, rfl, _, rfl, code_no (by decide) ?_⟩
      exact ⟨_, rfl, _, rfl, _, rfl, F, A, g, n, _, _, _, nl, rfl, hnl, Dec.onTheWay, by decide, S, G, hn, k⟩
    | would c =>
      refine ⟨_, rfl, rfl, _, rfl, code_no (by decide) ?_⟩
      refine ⟨_, rfl, rfl, _, rfl, code_no (by decide) ?_⟩
      refine ⟨_, rfl, rfl, _, rfl, code_no (by decide) ?_⟩
      refine ⟨_, rfl, rfl, _, rfl, code_no (by decide) ?_⟩
      refine ⟨_, rfl, rfl, _, rfl, code_no (by decide) ?_⟩
      refine ⟨_, rfl, rfl, _, rfl, code_no (by decide) ?_⟩
      refine ⟨_, rfl, rfl, _, rfl, code_no (by decide) ?_⟩
      refine ⟨_, rfl, rfl, _, rfl, code_no (by decide) ?_⟩
      exact ⟨_, rfl, _, rfl, _, rfl, F, A, g, n, _, _, _, nl, rfl, hnl, Dec.would c, by decide, S, G, hn, k⟩
    | state =>
      refine ⟨_, rfl, rfl, _, rfl, code_no (by decide) ?_⟩
      refine ⟨_, rfl, rfl, _, rfl, code_no (by decide) ?_⟩
      refine ⟨_, rfl, rfl, _, rfl, code_no (by decide) ?_⟩
      refine ⟨_, rfl, rfl, _, rfl, code_no (by decide) ?_⟩
      refine ⟨_, rfl, rfl, _, rfl, code_no (by decide) ?_⟩
      refine ⟨_, rfl, rfl, _, rfl, code_no (by decide) ?_⟩
      refine ⟨_, rfl, rfl, _, rfl, code_no (by decide) ?_⟩
      refine ⟨_, rfl, rfl, _, rfl, code_no (by decide) ?_⟩
      exact ⟨_, rfl, _, rfl, _, rfl, F, A, g, n, _, _, _, nl, rfl, hnl, Dec.state, by decide, S, G, hn, k⟩
end
end Net

set_option Elab.async false
set_option linter.all false
set_option maxRecDepth 100000
set_option maxHeartbeats 4000000
namespace NM
open Ge11
theorem says_append : ∀ (L M : List (Int × List Int × Call)) (g : St), says g (L ++ M) = says g L ++ says (runs g L) M
  | [], _, _ => rfl
  | (_, _, x) :: r, M, g => by
    show _ :: ((step g x).2 ++ says (step g x).1 (r ++ M)) = (_ :: ((step g x).2 ++ says (step g x).1 r)) ++ _
    rw [says_append r M (step g x).1]
    show _ = _ :: (((step g x).2 ++ says (step g x).1 r) ++ _)
    rw [List.append_assoc]
    rfl
end NM
namespace Net
open PySem PySem.Spec PyProof.Rows L2 NM
theorem cut_mid {xs ys zs : List V} {lo hi : Int} (h1 : lo = ((xs.length : Nat) : Int)) (h2 : hi = ((xs.length + ys.length : Nat) : Int)) : cutV (xs ++ ys ++ zs) (some lo) (some hi) = ys := by
  subst h1 h2
  unfold cutV
  have l : (xs ++ ys ++ zs).length = xs.length + ys.length + zs.length := by rw [List.length_append, List.length_append]
  rw [HT.sIx_nat, HT.sIx_nat, l, Nat.min_eq_left (by omega), Nat.min_eq_left (by omega), List.append_assoc, List.drop_left, Nat.add_sub_cancel_left, List.take_left]
/-- the written table of how many numbers follow -/
structure Tab (K : PySem.W.Frag) (mg : Str → Option Value) (xs : List Int) : Prop where
  ex : ∃ t, mg "NUMBERS_OF_CALL" = some (.ref t) ∧ ∀ H, SqT K H t (xs.map V.int)
section
variable {P : Program} {w : World} {K : PySem.W.Frag} {mg : Str → Option Value} {base : Heap} {D : Cs}
def spAnsN (top : Int) (K : PySem.W.Frag) : Sp := fun vs H Q _ => ∃ (a : Addr) (ns : List Int) (L : List (Int × List Int × Ge11.Call)), vs = [.ref a] ∧ SqL K H a (ns.map V.int) ∧ ns = flat L ∧ (∀ q ∈ L, Dec q.1 q.2.1 q.2.2 ∧ q.1 ≤ top) ∧ L.length ≤ 40 ∧ (says Ge11.init L).length ≤ 10000000 ∧
  ∀ (H' : Hp) (p : Addr), H' p = some (.lst ((says Ge11.init L).map V.int)) → Q (.ref p) H'
theorem scAns : FnScope ["calls", "server", "answered", "at", "call", "behind", "answer"] ["calls"] (defScope sAns) := ⟨rfl, rfl, rfl, by decide +kernel, rfl, by decide +kernel, by decide +kernel⟩
theorem ok_ans {top : Int} {tab : List Int} {f : Addr} {fd : FuncData} (F : Fun K "answers" "answers" sAns f fd) (TS : Cl K mg "Server" D.CS seN) (mL : mg "len" = none) (TB : Tab K mg tab) (htab : ∀ p a x, Dec p a x → p ≤ top → 0 ≤ p ∧ tab[p.toNat]? = some ((nums p : Nat) : Int))
    (MS : MakeOk P w K mg base 1 D.CS ["self"] (spSrvI D.CS)) (N1 : DefOk P w K mg base 7 "answer_of" ["server", "call", "numbers"] (spAns1 D top)) : FnOk P w K mg base CX0 8 f fd ["calls"] (spAnsN top K) := by
  obtain ⟨f1, fd1, G1, b1, m1⟩ := MS.ex
  obtain ⟨f2, fd2, G2, b2, k2, m2⟩ := N1.ex
  obtain ⟨tt, mt, ht⟩ := TB.ex
  refine F.ok scAns (fun vs H Q E h => ?_) (fun cdv A outer s H vs Q E hr h => ?_)
  · obtain ⟨a, ns, L, rfl, _⟩ := h
    rfl
  · obtain ⟨a, ns, L, rfl, hS, rfl, hdec, h40, hsz, k⟩ := h
    have hr2 : Room 2 _ := hr.mono (by decide)
    refine ⟨_, pss_cons (ps_set (i := 1) scAns.nd rfl (Or.inl rfl) (pe_make0 m1 G1 hr2 rfl TS.mg b1 .nil pass0)) (pss_cons (ps_set (i := 2) scAns.nd rfl (Or.inl rfl) (pe_lst pa_nil)) (pss_cons (ps_set (i := 3) scAns.nd rfl (Or.inl rfl) pe_int)
      (pss_cons (ps_while PassesOwn.never (pt_cmpR op_lt (pv 3) (pe_callB call_len_seq (by rfl) mL PySem.boot_len (pa_cons (pv 0) pa_nil)) (nomark _))
        (pss_cons (ps_set (i := 4) scAns.nd rfl (Or.inl rfl) (pe_ix ix_list (pv 0) (pv 3) (fun _ _ => rfl)))
        (pss_cons (ps_set (i := 5) scAns.nd rfl (Or.inl rfl) (pe_op op_add (pe_op op_add (pv 3) pe_int) (pe_ix ix_tup (pe_glob (v := .ref tt) rfl mt rfl) (pv 4) (fun _ _ => rfl))))
        (pss_cons (ps_set (i := 6) scAns.nd rfl (Or.inl rfl) (pe_call G2 hr (by rfl) m2 k2 b2 .nil pass0 (pa_cons (pv 1) (pa_cons (pv 4) (pa_cons (pe_slice sl_list (pv 0) (po_some (pe_op op_add (pv 3) pe_int)) (po_some (pv 5))) pa_nil)))))
        (pss_cons (ps_expr (pe_bm PySem.F.plainAttrs_list PySem.F.slot_list_append PySem.F.type_list_append mt_append (pv 2) (pa_cons (pe_callB call_len_seq (by rfl) mL PySem.boot_len (pa_cons (pv 6) pa_nil)) pa_nil)))
        (pss_cons (ps_expr (pe_bm PySem.F.plainAttrs_list PySem.F.slot_list_extend PySem.F.type_list_extend mt_extend (pv 2) (pa_cons (pv 6) pa_nil)))
        (pss_one (ps_set (i := 3) scAns.nd rfl (Or.inl rfl) (pv 5)))))))))
      (pss_one (ps_ret (pv 2)))))), ?_⟩
    -- server = Server()
    intro x dx nx nd ne
    refine ⟨x, dx, rfl, upd_same, fun H1 dT lP lL lW s01 n1 n2 n3 n4 ndp hx1 hdT hlP hlL hlW => ⟨rfl, ?_⟩⟩
    have sN : Same H (upd (upd H dx (.own x)) x (.ins D.CS dx [])) := fun b o hb => by
      rw [upd_ne (ne_of_none hb nx), upd_ne (ne_of_none hb nd)]
      exact hb
    have s1 : Same H H1 := fun b o hb => s01 b o (sN b o hb) (ne_of_none hb nx)
    have q1 := sN.free n1
    have q2 := sN.free n2
    have q3 := sN.free n3
    have q4 := sN.free n4
    have e1 : dT ≠ lP ∧ dT ≠ lL ∧ dT ≠ lW ∧ lP ≠ lL ∧ lP ≠ lW ∧ lL ≠ lW := by
      simp only [List.nodup_cons, List.mem_cons, List.not_mem_nil, not_or, or_false] at ndp
      exact ⟨ndp.1.1, ndp.1.2.1, ndp.1.2.2, ndp.2.1.1, ndp.2.1.2, ndp.2.2.1⟩
    have ex : ∀ {b : Addr}, (upd (upd H dx (.own x)) x (.ins D.CS dx [])) b = none → x ≠ b := fun {b} hb z => by
      rw [← z, upd_same] at hb
      cases hb
    let tg : Addr → Option Tag := fun b => if b = x then some .srv else if b = dT then some .things else if b = lP then some .pls else if b = lL then some .lets else if b = lW then some .words else none
    have t1 : tg x = some .srv := if_pos rfl
    have t2 : tg dT = some .things := (if_neg (ex n1).symm).trans (if_pos rfl)
    have t3 : tg lP = some .pls := (if_neg (ex n2).symm).trans ((if_neg e1.1.symm).trans (if_pos rfl))
    have t4 : tg lL = some .lets := (if_neg (ex n3).symm).trans ((if_neg e1.2.1.symm).trans ((if_neg e1.2.2.2.1.symm).trans (if_pos rfl)))
    have t5 : tg lW = some .words := (if_neg (ex n4).symm).trans ((if_neg e1.2.2.1.symm).trans ((if_neg e1.2.2.2.2.1.symm).trans ((if_neg e1.2.2.2.2.2.symm).trans (if_pos rfl))))
    have tno : ∀ b, b ≠ x → b ≠ dT → b ≠ lP → b ≠ lL → b ≠ lW → tg b = none := fun b a1 a2 a3 a4 a5 => (if_neg a1).trans ((if_neg a2).trans ((if_neg a3).trans ((if_neg a4).trans (if_neg a5))))
    have tyes : ∀ b t, tg b = some t → b = x ∨ b = dT ∨ b = lP ∨ b = lL ∨ b = lW := fun b t hb => by
      refine Classical.byContradiction fun z => ?_
      simp only [not_or] at z
      rw [tno b z.1 z.2.1 z.2.2.1 z.2.2.2.1 z.2.2.2.2] at hb
      cases hb
    let A0 : Ad := ⟨x, dx, dT, lP, lL, lW, [], tg⟩
    have S1 : Srv D emp H1 A0 Ge11.init := by
      refine ⟨fun _ _ h => (nomatch h), ⟨t1, t2, t3, t4, t5, fun i r h => (nomatch h)⟩, fun m t h => ⟨rfl, ?_⟩, hx1, ⟨[], [], hdT, DOf.nil, List.Perm.refl _⟩, hlP, rfl, fun i r h => (nomatch h), ⟨[], hlL, LstOf.nil⟩, ⟨[], hlW, LstOf.nil⟩⟩
      rcases tyes m t h with rfl | rfl | rfl | rfl | rfl
      · exact ⟨_, hx1⟩
      · exact ⟨_, hdT⟩
      · exact ⟨_, hlP⟩
      · exact ⟨_, hlL⟩
      · exact ⟨_, hlW⟩
    have kp1 : ∀ b o, H b = some o → H1 b = some o ∧ tg b = none := fun b o hb => ⟨s1 b o hb, tno b (ne_of_none hb nx) (ne_of_none hb q1) (ne_of_none hb q2) (ne_of_none hb q3) (ne_of_none hb q4)⟩
    -- answered = []; at = 0
    refine ⟨Nat.zero_le _, fun l nl => ?_⟩
    have nlt : tg l = none := by
      cases q : tg l with
      | none => rfl
      | some t =>
        obtain ⟨_, o, ho⟩ := S1.live l t q
        rw [nl] at ho
        cases ho
    have S2 : Srv D emp (upd H1 l (.lst [])) A0 Ge11.init := S1.other nlt rfl
    refine ⟨fun m σ H' => ∃ (done rest : List (Int × List Int × Ge11.Call)) (F' : Hp) (A' : Ad) (z4 z5 z6 : Option V), L = done ++ rest ∧ m = rest.length ∧ σ = [some (.ref a), some (.ref x), some (.ref l), some (.int (((flat done).length : Nat) : Int)), z4, z5, z6] ∧ A'.s = x ∧
        Srv D F' H' A' (runs Ge11.init done) ∧ Good (A'.pr.map (·.hist)) (runs Ge11.init done) done.length ∧ (∀ b o, H b = some o → H' b = some o ∧ A'.tag b = none) ∧ F' l = none ∧ A'.tag l = none ∧ H' l = some (.lst ((says Ge11.init done).map V.int)),
      ⟨L.length, [], L, emp, A0, none, none, none, rfl, rfl, rfl, rfl, S2, good_init, fun b o hb => ⟨Eq.trans (upd_ne (ne_of_none (kp1 b o hb).1 nl)) (kp1 b o hb).1, (kp1 b o hb).2⟩, rfl, nlt, upd_same⟩, ?_⟩
    have nl0 : H l = none := s1.free nl
    clear S1 S2 kp1 nlt nl
    rintro m σ H2 ⟨done, rest, F2, A2, z4, z5, z6, eL, rfl, rfl, eA, S, G, kp, fl2, tl2, hl2⟩
    have sH : Same H H2 := fun b o hb => (kp b o hb).1
    have hS2 := sH.seq hS
    refine ⟨_, rfl, _, rfl, a, _, rfl, .inl hS2, _, _, rfl, rfl, _, rfl, ?_⟩
    have ens : flat L = flat done ++ flat rest := by rw [eL, flat_append]
    cases rest with
    | nil =>
      refine if_false_of (decide_eq_false (by rw [List.length_map, ens]; show ¬ _ < (((flat done ++ []).length : Nat) : Int); rw [List.append_nil]; omega)) ?_
      rw [List.append_nil] at eL
      subst eL
      exact ⟨_, rfl, k _ l hl2⟩
    | cons q rest =>
      obtain ⟨p, c, y⟩ := q
      have ens2 : flat L = flat done ++ (p :: c ++ flat rest) := ens
      refine if_true_of (decide_eq_true (by rw [List.length_map, ens2, List.length_append, List.length_append, List.length_cons]; omega)) ?_
      obtain ⟨hd, hp⟩ : Dec p c y ∧ p ≤ top := hdec (p, c, y) (by rw [eL]; exact List.mem_append.mpr (.inr (List.mem_cons.mpr (.inl rfl))))
      obtain ⟨hp0, htb⟩ := htab p c y hd hp
      refine ⟨fun σ' H' => ∃ m', m' < ((p, c, y) :: rest).length ∧ _, fun σ' H' h => h, ?_⟩
      have hat : atI ((flat L).map V.int) (((flat done).length : Nat) : Int) = some (.int p) := atI_nat (by
        rw [List.getElem?_map, ens2, List.getElem?_append_right (Nat.le_refl _), Nat.sub_self]
        rfl)
      refine ⟨_, rfl, _, rfl, a, _, _, _, rfl, rfl, hS2, hat, ?_⟩
      have htp : atI (tab.map V.int) p = some (.int ((nums p : Nat) : Int)) := at_of (j := p.toNat) (by omega) (by rw [List.getElem?_map, htb]; rfl)
      refine ⟨_, rfl, _, _, rfl, rfl, _, rfl, tt, _, _, _, rfl, rfl, ht H2, htp, _, _, rfl, rfl, ?_⟩
      refine ⟨_, rfl, _, rfl, _, rfl, _, rfl, _, _, rfl, rfl, _, rfl, _, rfl, _, rfl, a, _, rfl, hS2, fun nl hnl => ?_⟩
      have hcut : cutV ((flat L).map V.int) (some ((((flat done).length : Nat) : Int) + 1)) (some ((((flat done).length : Nat) : Int) + 1 + ((nums p : Nat) : Int))) = c.map V.int := by
        have e3 : (flat L).map V.int = ((flat done ++ [p]).map V.int) ++ c.map V.int ++ (flat rest).map V.int := by
          rw [← List.map_append, ← List.map_append, ens2, List.append_assoc, List.append_assoc]
          rfl
        rw [e3]
        have ln := dec_nums hd
        refine cut_mid ?_ ?_
        · rw [List.length_map, List.length_append]
          show _ = (((flat done).length + 1 : Nat) : Int)
          omega
        · rw [List.length_map, List.length_map, List.length_append, ln]
          show _ = (((flat done).length + 1 + nums p : Nat) : Int)
          omega
      have s23 := same_upd (o := .lst (cutV ((flat L).map V.int) (some ((((flat done).length : Nat) : Int) + 1)) (some ((((flat done).length : Nat) : Int) + 1 + ((nums p : Nat) : Int))))) hnl
      have Sg := S.grow s23
      have fg : Fr F2 H2 A2 _ _ A2 := Fr.grow S.same s23
      refine ⟨_, A2, _, done.length, p, c, y, nl, (by rw [eA]; rfl), (ext_new hnl).trans (by rw [upd_same, hcut]), hd, hp, Sg, G, ?_, fun F3 H3 A3 r S3 G3 f3 hr3 => ?_⟩
      · rw [eL, List.length_append] at h40
        omega
      have f23 := fg.trans f3
      have hl3 := f23.keep l _ hl2 tl2
      have fl3 := f23.fno l _ hl2 fl2
      have tl3 := f23.out l _ hl2 tl2
      have hr3' := S3.same _ _ hr3
      have nlr : r ≠ l := ne_of_none hr3 fl3
      have esz : (says Ge11.init (done ++ [(p, c, y)])).length ≤ 10000000 := by
        have e4 : L = (done ++ [(p, c, y)]) ++ rest := by rw [eL, List.append_assoc]; rfl
        rw [e4, says_append, List.length_append] at hsz
        omega
      have esn := says_snoc done Ge11.init (p, c, y)
      have esl : (says Ge11.init done).length + (Ge11.step (runs Ge11.init done) y).2.length + 1 ≤ 10000000 := by
        rw [esn, List.length_append, List.length_cons] at esz
        have esz : (says Ge11.init done).length + ((Ge11.step (runs Ge11.init done) y).2.length + 1) ≤ 10000000 := esz
        omega
      have big : (10000000 : Nat) < sizeLine := by decide
      refine ⟨_, rfl, .inl ⟨rfl, _, SqL.of hl3⟩, _, rfl, r, _, rfl, .inl (SqL.of hr3'), l, _, _, rfl, rfl, hl3, by rw [List.length_map]; omega, ?_⟩
      have hrl := Eq.trans (upd_ne (H := H3) (o := .lst ((says Ge11.init done).map V.int ++ [V.int (((((Ge11.step (runs Ge11.init done) y).2.map V.int).length : Nat)) : Int)])) nlr) hr3'
      refine ⟨_, rfl, .inl ⟨rfl, _, SqL.of upd_same⟩, _, rfl, l, r, _, _, rfl, rfl, upd_same, hrl, by rw [List.length_append, List.length_map, List.length_map]; show _ + 1 + _ ≤ _; omega, ?_⟩
      rw [upd_upd]
      refine ⟨_, rfl, rest.length, Nat.lt_succ_self _, done ++ [(p, c, y)], rest, F3, A3, some (.int p), some (.int ((((flat done).length : Nat) : Int) + 1 + ((nums p : Nat) : Int))), some (.ref r), (by rw [eL, List.append_assoc]; rfl), rfl, ?_, f23.s.trans eA, ?_, ?_, fun b o hb => ?_, fl3, tl3, ?_⟩
      · have e5 : ((((flat done).length : Nat) : Int) + 1 + ((nums p : Nat) : Int)) = (((flat (done ++ [(p, c, y)])).length : Nat) : Int) := by
          rw [flat_append, List.length_append]
          show _ = (((flat done).length + (p :: c ++ []).length : Nat) : Int)
          rw [List.append_nil, List.length_cons, dec_nums hd]
          omega
        show [some (V.ref a), some (V.ref x), some (V.ref l), some (V.int ((((flat done).length : Nat) : Int) + 1 + ((nums p : Nat) : Int))), some (V.int p), some (V.int ((((flat done).length : Nat) : Int) + 1 + ((nums p : Nat) : Int))), some (V.ref r)] = _
        rw [e5]
      · rw [runs_snoc]
        exact S3.other tl3 fl3
      · rw [runs_snoc, List.length_append]
        exact G3
      · obtain ⟨h1, h2⟩ := kp b o hb
        have h3 := f23.keep b o h1 h2
        have nbl : b ≠ l := ne_of_none hb nl0
        exact ⟨Eq.trans (upd_ne nbl) h3, f23.out b o h1 h2⟩
      · rw [upd_same, esn, List.map_append, List.append_assoc, List.length_map]
        rfl
end
end Net

namespace Net
open PySem PySem.Spec PyProof.Rows L2 NM
theorem all_mk {P : Program} {w : World} {K : PySem.W.Frag} {h : Heap} {mg : Str → Option Value} {fa CT CL CC CP CW CS f0 f1 f2 f3 f4 f5 f6 f7 f8 f9 f10 f11 f12 f13 f14 f15 f16 f17 f18 f19 f20 f21 f22 f23 f24 f25 f26 f27 f28 f29 f30 f31 f32 f33 tt : Addr} {od0 an0 od1 an1 od2 an2 od3 an3 od4 an4 od5 an5 od6 an6 od7 an7 od8 an8 od9 an9 od10 an10 od11 an11 od12 an12 od13 an13 od14 an14 od15 an15 od16 an16 od17 an17 od18 an18 od19 an19 od20 an20 od21 an21 od22 an22 od23 an23 od24 an24 od25 an25 od26 an26 od27 an27 od28 an28 od29 an29 od30 an30 od31 an31 od32 an32 od33 an33 : Option Addr} {sl0 sl1 sl2 sl3 sl4 sl5 sl6 sl7 sl8 sl9 sl10 sl11 sl12 sl13 sl14 sl15 sl16 sl17 sl18 sl19 sl20 sl21 sl22 sl23 sl24 sl25 sl26 sl27 sl28 sl29 sl30 sl31 sl32 sl33 : Array (Option Value)} {oc0 kV0 dc0 pm0 cd0 ct0 oc1 kV1 dc1 pm1 cd1 ct1 oc2 kV2 dc2 pm2 cd2 ct2 oc3 kV3 dc3 pm3 cd3 ct3 oc4 kV4 dc4 pm4 cd4 ct4 oc5 kV5 dc5 pm5 cd5 ct5 oc6 kV6 dc6 pm6 cd6 ct6 oc7 kV7 dc7 pm7 cd7 ct7 oc8 kV8 dc8 pm8 cd8 ct8 oc9 kV9 dc9 pm9 cd9 ct9 oc10 kV10 dc10 pm10 cd10 ct10 oc11 kV11 dc11 pm11 cd11 ct11 oc12 kV12 dc12 pm12 cd12 ct12 oc13 kV13 dc13 pm13 cd13 ct13 oc14 kV14 dc14 pm14 cd14 ct14 oc15 kV15 dc15 pm15 cd15 ct15 oc16 kV16 dc16 pm16 cd16 ct16 oc17 kV17 dc17 pm17 cd17 ct17 oc18 kV18 dc18 pm18 cd18 ct18 oc19 kV19 dc19 pm19 cd19 ct19 oc20 kV20 dc20 pm20 cd20 ct20 oc21 kV21 dc21 pm21 cd21 ct21 oc22 kV22 dc22 pm22 cd22 ct22 oc23 kV23 dc23 pm23 cd23 ct23 oc24 kV24 dc24 pm24 cd24 ct24 oc25 kV25 dc25 pm25 cd25 ct25 oc26 kV26 dc26 pm26 cd26 ct26 oc27 kV27 dc27 pm27 cd27 ct27 oc28 kV28 dc28 pm28 cd28 ct28 oc29 kV29 dc29 pm29 cd29 ct29 oc30 kV30 dc30 pm30 cd30 ct30 oc31 kV31 dc31 pm31 cd31 ct31 oc32 kV32 dc32 pm32 cd32 ct32 oc33 kV33 dc33 pm33 cd33 ct33 : Value} {u0 u1 u2 u3 u4 u5 u6 u7 u8 u9 u10 u11 u12 u13 u14 u15 u16 u17 u18 u19 u20 v0 v1 v2 v3 v4 v5 v6 v7 v8 v9 v10 v11 v12 : Tok} {odt : Option Addr} {slt : Array (Option Value)} {nt : Nat}
    (X : K.In h) (G : h.Ns mainGlobals mg) (hfa : mg "answers" = some (.ref fa))
    (aCT : PySem.W.nsIn K mainGlobals "Thing" = some (some (.ref CT)))
    (pgCT : PySem.W.plainGet K CT Str.empty = true)
    (hdCT : PySem.W.hasDictIn K CT = true)
    (poCT : PySem.W.plainOver K CT = true)
    (saCT : PySem.W.findIn K (.ref CT) "__setattr__" = some (some (.builtin "object.__setattr__")))
    (mkCT : PySem.W.makesIn K CT = true)
    (kcCT : PySem.W.keepIn K (.ref CT) = true)
    (nCT0 : PySem.W.findIn K (.ref CT) "column" = some none)
    (nCT1 : PySem.W.findIn K (.ref CT) "row" = some none)
    (nCT2 : PySem.W.findIn K (.ref CT) "look" = some none)
    (nCT3 : PySem.W.findIn K (.ref CT) "hidden" = some none)
    (aCL : PySem.W.nsIn K mainGlobals "Letter" = some (some (.ref CL)))
    (pgCL : PySem.W.plainGet K CL Str.empty = true)
    (hdCL : PySem.W.hasDictIn K CL = true)
    (poCL : PySem.W.plainOver K CL = true)
    (saCL : PySem.W.findIn K (.ref CL) "__setattr__" = some (some (.builtin "object.__setattr__")))
    (mkCL : PySem.W.makesIn K CL = true)
    (kcCL : PySem.W.keepIn K (.ref CL) = true)
    (nCL0 : PySem.W.findIn K (.ref CL) "receiver" = some none)
    (nCL1 : PySem.W.findIn K (.ref CL) "tick" = some none)
    (nCL2 : PySem.W.findIn K (.ref CL) "since" = some none)
    (nCL3 : PySem.W.findIn K (.ref CL) "put" = some none)
    (nCL4 : PySem.W.findIn K (.ref CL) "gone" = some none)
    (aCC : PySem.W.nsIn K mainGlobals "Client" = some (some (.ref CC)))
    (pgCC : PySem.W.plainGet K CC Str.empty = true)
    (hdCC : PySem.W.hasDictIn K CC = true)
    (poCC : PySem.W.plainOver K CC = true)
    (saCC : PySem.W.findIn K (.ref CC) "__setattr__" = some (some (.builtin "object.__setattr__")))
    (mkCC : PySem.W.makesIn K CC = true)
    (kcCC : PySem.W.keepIn K (.ref CC) = true)
    (nCC0 : PySem.W.findIn K (.ref CC) "views" = some none)
    (aCP : PySem.W.nsIn K mainGlobals "Player" = some (some (.ref CP)))
    (pgCP : PySem.W.plainGet K CP Str.empty = true)
    (hdCP : PySem.W.hasDictIn K CP = true)
    (poCP : PySem.W.plainOver K CP = true)
    (saCP : PySem.W.findIn K (.ref CP) "__setattr__" = some (some (.builtin "object.__setattr__")))
    (mkCP : PySem.W.makesIn K CP = true)
    (kcCP : PySem.W.keepIn K (.ref CP) = true)
    (nCP0 : PySem.W.findIn K (.ref CP) "own" = some none)
    (nCP1 : PySem.W.findIn K (.ref CP) "far" = some none)
    (nCP2 : PySem.W.findIn K (.ref CP) "known" = some none)
    (nCP3 : PySem.W.findIn K (.ref CP) "sent" = some none)
    (nCP4 : PySem.W.findIn K (.ref CP) "client" = some none)
    (aCW : PySem.W.nsIn K mainGlobals "Word" = some (some (.ref CW)))
    (pgCW : PySem.W.plainGet K CW Str.empty = true)
    (hdCW : PySem.W.hasDictIn K CW = true)
    (poCW : PySem.W.plainOver K CW = true)
    (saCW : PySem.W.findIn K (.ref CW) "__setattr__" = some (some (.builtin "object.__setattr__")))
    (mkCW : PySem.W.makesIn K CW = true)
    (kcCW : PySem.W.keepIn K (.ref CW) = true)
    (nCW0 : PySem.W.findIn K (.ref CW) "sender" = some none)
    (nCW1 : PySem.W.findIn K (.ref CW) "tick" = some none)
    (aCS : PySem.W.nsIn K mainGlobals "Server" = some (some (.ref CS)))
    (pgCS : PySem.W.plainGet K CS Str.empty = true)
    (hdCS : PySem.W.hasDictIn K CS = true)
    (poCS : PySem.W.plainOver K CS = true)
    (saCS : PySem.W.findIn K (.ref CS) "__setattr__" = some (some (.builtin "object.__setattr__")))
    (mkCS : PySem.W.makesIn K CS = true)
    (kcCS : PySem.W.keepIn K (.ref CS) = true)
    (nCS0 : PySem.W.findIn K (.ref CS) "things" = some none)
    (nCS1 : PySem.W.findIn K (.ref CS) "players" = some none)
    (nCS2 : PySem.W.findIn K (.ref CS) "ticks" = some none)
    (nCS3 : PySem.W.findIn K (.ref CS) "letters" = some none)
    (nCS4 : PySem.W.findIn K (.ref CS) "words" = some none)
    (a0 : PySem.W.findIn K (.ref CT) "__init__" = some (some (.ref f0)))
    (i0 : PySem.W.isFn K (.ref f0) = true)
    (l0 : K.lookup f0 = some ⟨oc0, od0, .func (PySem.W.fnOf "__init__" "Thing.__init__" (defArgs sThingI) (defBody sThingI) (defScope sThingI) .none kV0 dc0 pm0 an0 cd0 ct0), sl0⟩)
    (c0 : PySem.W.codeIn K cd0 "Thing.__init__" = true)
    (k0 : PySem.W.keepIn K (.ref f0) = true)
    (a1 : PySem.W.findIn K (.ref CL) "__init__" = some (some (.ref f1)))
    (i1 : PySem.W.isFn K (.ref f1) = true)
    (l1 : K.lookup f1 = some ⟨oc1, od1, .func (PySem.W.fnOf "__init__" "Letter.__init__" (defArgs sLetI) (defBody sLetI) (defScope sLetI) .none kV1 dc1 pm1 an1 cd1 ct1), sl1⟩)
    (c1 : PySem.W.codeIn K cd1 "Letter.__init__" = true)
    (k1 : PySem.W.keepIn K (.ref f1) = true)
    (a2 : PySem.W.findIn K (.ref CL) "size" = some (some (.ref f2)))
    (i2 : PySem.W.isFn K (.ref f2) = true)
    (l2 : K.lookup f2 = some ⟨oc2, od2, .func (PySem.W.fnOf "size" "Letter.size" (defArgs sLetSize) (defBody sLetSize) (defScope sLetSize) .none kV2 dc2 pm2 an2 cd2 ct2), sl2⟩)
    (c2 : PySem.W.codeIn K cd2 "Letter.size" = true)
    (k2 : PySem.W.keepIn K (.ref f2) = true)
    (a3 : PySem.W.findIn K (.ref CL) "put_to" = some (some (.ref f3)))
    (i3 : PySem.W.isFn K (.ref f3) = true)
    (l3 : K.lookup f3 = some ⟨oc3, od3, .func (PySem.W.fnOf "put_to" "Letter.put_to" (defArgs sLetPut) (defBody sLetPut) (defScope sLetPut) .none kV3 dc3 pm3 an3 cd3 ct3), sl3⟩)
    (c3 : PySem.W.codeIn K cd3 "Letter.put_to" = true)
    (k3 : PySem.W.keepIn K (.ref f3) = true)
    (a4 : PySem.W.findIn K (.ref CC) "__init__" = some (some (.ref f4)))
    (i4 : PySem.W.isFn K (.ref f4) = true)
    (l4 : K.lookup f4 = some ⟨oc4, od4, .func (PySem.W.fnOf "__init__" "Client.__init__" (defArgs sCliI) (defBody sCliI) (defScope sCliI) .none kV4 dc4 pm4 an4 cd4 ct4), sl4⟩)
    (c4 : PySem.W.codeIn K cd4 "Client.__init__" = true)
    (k4 : PySem.W.keepIn K (.ref f4) = true)
    (a5 : PySem.W.findIn K (.ref CC) "can_take" = some (some (.ref f5)))
    (i5 : PySem.W.isFn K (.ref f5) = true)
    (l5 : K.lookup f5 = some ⟨oc5, od5, .func (PySem.W.fnOf "can_take" "Client.can_take" (defArgs sCliCan) (defBody sCliCan) (defScope sCliCan) .none kV5 dc5 pm5 an5 cd5 ct5), sl5⟩)
    (c5 : PySem.W.codeIn K cd5 "Client.can_take" = true)
    (k5 : PySem.W.keepIn K (.ref f5) = true)
    (a6 : PySem.W.findIn K (.ref CC) "take" = some (some (.ref f6)))
    (i6 : PySem.W.isFn K (.ref f6) = true)
    (l6 : K.lookup f6 = some ⟨oc6, od6, .func (PySem.W.fnOf "take" "Client.take" (defArgs sCliTake) (defBody sCliTake) (defScope sCliTake) .none kV6 dc6 pm6 an6 cd6 ct6), sl6⟩)
    (c6 : PySem.W.codeIn K cd6 "Client.take" = true)
    (k6 : PySem.W.keepIn K (.ref f6) = true)
    (a7 : PySem.W.findIn K (.ref CP) "__init__" = some (some (.ref f7)))
    (i7 : PySem.W.isFn K (.ref f7) = true)
    (l7 : K.lookup f7 = some ⟨oc7, od7, .func (PySem.W.fnOf "__init__" "Player.__init__" (defArgs sPlaI) (defBody sPlaI) (defScope sPlaI) .none kV7 dc7 pm7 an7 cd7 ct7), sl7⟩)
    (c7 : PySem.W.codeIn K cd7 "Player.__init__" = true)
    (k7 : PySem.W.keepIn K (.ref f7) = true)
    (a8 : PySem.W.findIn K (.ref CP) "sent_since_known" = some (some (.ref f8)))
    (i8 : PySem.W.isFn K (.ref f8) = true)
    (l8 : K.lookup f8 = some ⟨oc8, od8, .func (PySem.W.fnOf "sent_since_known" "Player.sent_since_known" (defArgs sPlaSent) (defBody sPlaSent) (defScope sPlaSent) .none kV8 dc8 pm8 an8 cd8 ct8), sl8⟩)
    (c8 : PySem.W.codeIn K cd8 "Player.sent_since_known" = true)
    (k8 : PySem.W.keepIn K (.ref f8) = true)
    (a9 : PySem.W.findIn K (.ref CW) "__init__" = some (some (.ref f9)))
    (i9 : PySem.W.isFn K (.ref f9) = true)
    (l9 : K.lookup f9 = some ⟨oc9, od9, .func (PySem.W.fnOf "__init__" "Word.__init__" (defArgs sWordI) (defBody sWordI) (defScope sWordI) .none kV9 dc9 pm9 an9 cd9 ct9), sl9⟩)
    (c9 : PySem.W.codeIn K cd9 "Word.__init__" = true)
    (k9 : PySem.W.keepIn K (.ref f9) = true)
    (a10 : PySem.W.findIn K (.ref CS) "__init__" = some (some (.ref f10)))
    (i10 : PySem.W.isFn K (.ref f10) = true)
    (l10 : K.lookup f10 = some ⟨oc10, od10, .func (PySem.W.fnOf "__init__" "Server.__init__" (defArgs sSrvI) (defBody sSrvI) (defScope sSrvI) .none kV10 dc10 pm10 an10 cd10 ct10), sl10⟩)
    (c10 : PySem.W.codeIn K cd10 "Server.__init__" = true)
    (k10 : PySem.W.keepIn K (.ref f10) = true)
    (a11 : PySem.W.findIn K (.ref CS) "put_thing" = some (some (.ref f11)))
    (i11 : PySem.W.isFn K (.ref f11) = true)
    (l11 : K.lookup f11 = some ⟨oc11, od11, .func (PySem.W.fnOf "put_thing" "Server.put_thing" (defArgs sSThing) (defBody sSThing) (defScope sSThing) .none kV11 dc11 pm11 an11 cd11 ct11), sl11⟩)
    (c11 : PySem.W.codeIn K cd11 "Server.put_thing" = true)
    (k11 : PySem.W.keepIn K (.ref f11) = true)
    (a12 : PySem.W.findIn K (.ref CS) "take_thing_away" = some (some (.ref f12)))
    (i12 : PySem.W.isFn K (.ref f12) = true)
    (l12 : K.lookup f12 = some ⟨oc12, od12, .func (PySem.W.fnOf "take_thing_away" "Server.take_thing_away" (defArgs sSGone) (defBody sSGone) (defScope sSGone) .none kV12 dc12 pm12 an12 cd12 ct12), sl12⟩)
    (c12 : PySem.W.codeIn K cd12 "Server.take_thing_away" = true)
    (k12 : PySem.W.keepIn K (.ref f12) = true)
    (a13 : PySem.W.findIn K (.ref CS) "add_player" = some (some (.ref f13)))
    (i13 : PySem.W.isFn K (.ref f13) = true)
    (l13 : K.lookup f13 = some ⟨oc13, od13, .func (PySem.W.fnOf "add_player" "Server.add_player" (defArgs sSPlayer) (defBody sSPlayer) (defScope sSPlayer) .none kV13 dc13 pm13 an13 cd13 ct13), sl13⟩)
    (c13 : PySem.W.codeIn K cd13 "Server.add_player" = true)
    (k13 : PySem.W.keepIn K (.ref f13) = true)
    (a14 : PySem.W.findIn K (.ref CS) "view_now" = some (some (.ref f14)))
    (i14 : PySem.W.isFn K (.ref f14) = true)
    (l14 : K.lookup f14 = some ⟨oc14, od14, .func (PySem.W.fnOf "view_now" "Server.view_now" (defArgs sSView) (defBody sSView) (defScope sSView) .none kV14 dc14 pm14 an14 cd14 ct14), sl14⟩)
    (c14 : PySem.W.codeIn K cd14 "Server.view_now" = true)
    (k14 : PySem.W.keepIn K (.ref f14) = true)
    (a15 : PySem.W.findIn K (.ref CS) "next_letter" = some (some (.ref f15)))
    (i15 : PySem.W.isFn K (.ref f15) = true)
    (l15 : K.lookup f15 = some ⟨oc15, od15, .func (PySem.W.fnOf "next_letter" "Server.next_letter" (defArgs sSNext) (defBody sSNext) (defScope sSNext) .none kV15 dc15 pm15 an15 cd15 ct15), sl15⟩)
    (c15 : PySem.W.codeIn K cd15 "Server.next_letter" = true)
    (k15 : PySem.W.keepIn K (.ref f15) = true)
    (a16 : PySem.W.findIn K (.ref CS) "run_tick" = some (some (.ref f16)))
    (i16 : PySem.W.isFn K (.ref f16) = true)
    (l16 : K.lookup f16 = some ⟨oc16, od16, .func (PySem.W.fnOf "run_tick" "Server.run_tick" (defArgs sSTick) (defBody sSTick) (defScope sSTick) .none kV16 dc16 pm16 an16 cd16 ct16), sl16⟩)
    (c16 : PySem.W.codeIn K cd16 "Server.run_tick" = true)
    (k16 : PySem.W.keepIn K (.ref f16) = true)
    (a17 : PySem.W.findIn K (.ref CS) "letter_arrives" = some (some (.ref f17)))
    (i17 : PySem.W.isFn K (.ref f17) = true)
    (l17 : K.lookup f17 = some ⟨oc17, od17, .func (PySem.W.fnOf "letter_arrives" "Server.letter_arrives" (defArgs sSArr) (defBody sSArr) (defScope sSArr) .none kV17 dc17 pm17 an17 cd17 ct17), sl17⟩)
    (c17 : PySem.W.codeIn K cd17 "Server.letter_arrives" = true)
    (k17 : PySem.W.keepIn K (.ref f17) = true)
    (a18 : PySem.W.findIn K (.ref CS) "letter_lost" = some (some (.ref f18)))
    (i18 : PySem.W.isFn K (.ref f18) = true)
    (l18 : K.lookup f18 = some ⟨oc18, od18, .func (PySem.W.fnOf "letter_lost" "Server.letter_lost" (defArgs sSLost) (defBody sSLost) (defScope sSLost) .none kV18 dc18 pm18 an18 cd18 ct18), sl18⟩)
    (c18 : PySem.W.codeIn K cd18 "Server.letter_lost" = true)
    (k18 : PySem.W.keepIn K (.ref f18) = true)
    (a19 : PySem.W.findIn K (.ref CS) "word_arrives" = some (some (.ref f19)))
    (i19 : PySem.W.isFn K (.ref f19) = true)
    (l19 : K.lookup f19 = some ⟨oc19, od19, .func (PySem.W.fnOf "word_arrives" "Server.word_arrives" (defArgs sSWord) (defBody sSWord) (defScope sSWord) .none kV19 dc19 pm19 an19 cd19 ct19), sl19⟩)
    (c19 : PySem.W.codeIn K cd19 "Server.word_arrives" = true)
    (k19 : PySem.W.keepIn K (.ref f19) = true)
    (a20 : PySem.W.findIn K (.ref CS) "word_lost" = some (some (.ref f20)))
    (i20 : PySem.W.isFn K (.ref f20) = true)
    (l20 : K.lookup f20 = some ⟨oc20, od20, .func (PySem.W.fnOf "word_lost" "Server.word_lost" (defArgs sSWLost) (defBody sSWLost) (defScope sSWLost) .none kV20 dc20 pm20 an20 cd20 ct20), sl20⟩)
    (c20 : PySem.W.codeIn K cd20 "Server.word_lost" = true)
    (k20 : PySem.W.keepIn K (.ref f20) = true)
    (a21 : PySem.W.findIn K (.ref CS) "sees" = some (some (.ref f21)))
    (i21 : PySem.W.isFn K (.ref f21) = true)
    (l21 : K.lookup f21 = some ⟨oc21, od21, .func (PySem.W.fnOf "sees" "Server.sees" (defArgs sSSees) (defBody sSSees) (defScope sSSees) .none kV21 dc21 pm21 an21 cd21 ct21), sl21⟩)
    (c21 : PySem.W.codeIn K cd21 "Server.sees" = true)
    (k21 : PySem.W.keepIn K (.ref f21) = true)
    (a22 : PySem.W.findIn K (.ref CS) "has" = some (some (.ref f22)))
    (i22 : PySem.W.isFn K (.ref f22) = true)
    (l22 : K.lookup f22 = some ⟨oc22, od22, .func (PySem.W.fnOf "has" "Server.has" (defArgs sSHas) (defBody sSHas) (defScope sSHas) .none kV22 dc22 pm22 an22 cd22 ct22), sl22⟩)
    (c22 : PySem.W.codeIn K cd22 "Server.has" = true)
    (k22 : PySem.W.keepIn K (.ref f22) = true)
    (a23 : PySem.W.findIn K (.ref CS) "on_the_way" = some (some (.ref f23)))
    (i23 : PySem.W.isFn K (.ref f23) = true)
    (l23 : K.lookup f23 = some ⟨oc23, od23, .func (PySem.W.fnOf "on_the_way" "Server.on_the_way" (defArgs sSWay) (defBody sSWay) (defScope sSWay) .none kV23 dc23 pm23 an23 cd23 ct23), sl23⟩)
    (c23 : PySem.W.codeIn K cd23 "Server.on_the_way" = true)
    (k23 : PySem.W.keepIn K (.ref f23) = true)
    (a24 : PySem.W.findIn K (.ref CS) "would" = some (some (.ref f24)))
    (i24 : PySem.W.isFn K (.ref f24) = true)
    (l24 : K.lookup f24 = some ⟨oc24, od24, .func (PySem.W.fnOf "would" "Server.would" (defArgs sSWould) (defBody sSWould) (defScope sSWould) .none kV24 dc24 pm24 an24 cd24 ct24), sl24⟩)
    (c24 : PySem.W.codeIn K cd24 "Server.would" = true)
    (k24 : PySem.W.keepIn K (.ref f24) = true)
    (a25 : PySem.W.findIn K (.ref CS) "state" = some (some (.ref f25)))
    (i25 : PySem.W.isFn K (.ref f25) = true)
    (l25 : K.lookup f25 = some ⟨oc25, od25, .func (PySem.W.fnOf "state" "Server.state" (defArgs sSState) (defBody sSState) (defScope sSState) .none kV25 dc25 pm25 an25 cd25 ct25), sl25⟩)
    (c25 : PySem.W.codeIn K cd25 "Server.state" = true)
    (k25 : PySem.W.keepIn K (.ref f25) = true)
    (a26 : PySem.W.nsIn K mainGlobals "is_near" = some (some (.ref f26)))
    (l26 : K.lookup f26 = some ⟨oc26, od26, .func (PySem.W.fnOf "is_near" "is_near" (defArgs sNear) (defBody sNear) (defScope sNear) .none kV26 dc26 pm26 an26 cd26 ct26), sl26⟩)
    (c26 : PySem.W.codeIn K cd26 "is_near" = true)
    (k26 : PySem.W.keepIn K (.ref f26) = true)
    (a27 : PySem.W.nsIn K mainGlobals "view_of" = some (some (.ref f27)))
    (l27 : K.lookup f27 = some ⟨oc27, od27, .func (PySem.W.fnOf "view_of" "view_of" (defArgs sView) (defBody sView) (defScope sView) .none kV27 dc27 pm27 an27 cd27 ct27), sl27⟩)
    (c27 : PySem.W.codeIn K cd27 "view_of" = true)
    (k27 : PySem.W.keepIn K (.ref f27) = true)
    (a28 : PySem.W.nsIn K mainGlobals "told_view" = some (some (.ref f28)))
    (l28 : K.lookup f28 = some ⟨oc28, od28, .func (PySem.W.fnOf "told_view" "told_view" (defArgs sTold) (defBody sTold) (defScope sTold) .none kV28 dc28 pm28 an28 cd28 ct28), sl28⟩)
    (c28 : PySem.W.codeIn K cd28 "told_view" = true)
    (k28 : PySem.W.keepIn K (.ref f28) = true)
    (a29 : PySem.W.nsIn K mainGlobals "put_between" = some (some (.ref f29)))
    (l29 : K.lookup f29 = some ⟨oc29, od29, .func (PySem.W.fnOf "put_between" "put_between" (defArgs sPut) (defBody sPut) (defScope sPut) .none kV29 dc29 pm29 an29 cd29 ct29), sl29⟩)
    (c29 : PySem.W.codeIn K cd29 "put_between" = true)
    (k29 : PySem.W.keepIn K (.ref f29) = true)
    (a30 : PySem.W.nsIn K mainGlobals "gone_between" = some (some (.ref f30)))
    (l30 : K.lookup f30 = some ⟨oc30, od30, .func (PySem.W.fnOf "gone_between" "gone_between" (defArgs sGone) (defBody sGone) (defScope sGone) .none kV30 dc30 pm30 an30 cd30 ct30), sl30⟩)
    (c30 : PySem.W.codeIn K cd30 "gone_between" = true)
    (k30 : PySem.W.keepIn K (.ref f30) = true)
    (a31 : PySem.W.nsIn K mainGlobals "answer_of_asking" = some (some (.ref f31)))
    (l31 : K.lookup f31 = some ⟨oc31, od31, .func (PySem.W.fnOf "answer_of_asking" "answer_of_asking" (defArgs sAsk) (defBody sAsk) (defScope sAsk) .none kV31 dc31 pm31 an31 cd31 ct31), sl31⟩)
    (c31 : PySem.W.codeIn K cd31 "answer_of_asking" = true)
    (k31 : PySem.W.keepIn K (.ref f31) = true)
    (a32 : PySem.W.nsIn K mainGlobals "answer_of" = some (some (.ref f32)))
    (l32 : K.lookup f32 = some ⟨oc32, od32, .func (PySem.W.fnOf "answer_of" "answer_of" (defArgs sAns1) (defBody sAns1) (defScope sAns1) .none kV32 dc32 pm32 an32 cd32 ct32), sl32⟩)
    (c32 : PySem.W.codeIn K cd32 "answer_of" = true)
    (k32 : PySem.W.keepIn K (.ref f32) = true)
    (a33 : PySem.W.nsIn K mainGlobals "answers" = some (some (.ref f33)))
    (l33 : K.lookup f33 = some ⟨oc33, od33, .func (PySem.W.fnOf "answers" "answers" (defArgs sAns) (defBody sAns) (defScope sAns) .none kV33 dc33 pm33 an33 cd33 ct33), sl33⟩)
    (c33 : PySem.W.codeIn K cd33 "answers" = true)
    (k33 : PySem.W.keepIn K (.ref f33) = true)
    (z0 : PySem.W.nsIn K mainGlobals "HIGHEST_NUMBER" = some (some (.int (99) u0)))
    (z1 : PySem.W.nsIn K mainGlobals "MOST_THINGS" = some (some (.int (20) u1)))
    (z2 : PySem.W.nsIn K mainGlobals "MOST_PLAYERS" = some (some (.int (4) u2)))
    (z3 : PySem.W.nsIn K mainGlobals "MOST_TICKS" = some (some (.int (59) u3)))
    (z4 : PySem.W.nsIn K mainGlobals "MOST_LETTERS" = some (some (.int (30) u4)))
    (z5 : PySem.W.nsIn K mainGlobals "ABOVE_HIGHEST" = some (some (.int (-1) u5)))
    (z6 : PySem.W.nsIn K mainGlobals "NONE_SUCH" = some (some (.int (-2) u6)))
    (z7 : PySem.W.nsIn K mainGlobals "TOO_MANY" = some (some (.int (-5) u7)))
    (z8 : PySem.W.nsIn K mainGlobals "NO_VIEW" = some (some (.int (-6) u8)))
    (z9 : PySem.W.nsIn K mainGlobals "THING" = some (some (.int (0) u9)))
    (z10 : PySem.W.nsIn K mainGlobals "GONE" = some (some (.int (1) u10)))
    (z11 : PySem.W.nsIn K mainGlobals "PLAYER" = some (some (.int (2) u11)))
    (z12 : PySem.W.nsIn K mainGlobals "TICK" = some (some (.int (3) u12)))
    (z13 : PySem.W.nsIn K mainGlobals "ARRIVE" = some (some (.int (4) u13)))
    (z14 : PySem.W.nsIn K mainGlobals "LOSE" = some (some (.int (5) u14)))
    (z15 : PySem.W.nsIn K mainGlobals "WORD_ARRIVES" = some (some (.int (6) u15)))
    (z16 : PySem.W.nsIn K mainGlobals "WORD_LOST" = some (some (.int (7) u16)))
    (z17 : PySem.W.nsIn K mainGlobals "SEES" = some (some (.int (8) u17)))
    (z18 : PySem.W.nsIn K mainGlobals "HAS" = some (some (.int (9) u18)))
    (z19 : PySem.W.nsIn K mainGlobals "ON_THE_WAY" = some (some (.int (10) u19)))
    (z20 : PySem.W.nsIn K mainGlobals "WOULD" = some (some (.int (11) u20)))
    (w0 : PySem.W.nsIn K mainGlobals "len" = some none)
    (w1 : PySem.W.nsIn K mainGlobals "max" = some none)
    (w2 : PySem.W.nsIn K mainGlobals "enumerate" = some none)
    (w3 : PySem.W.nsIn K mainGlobals "abs" = some none)
    (w4 : PySem.W.nsIn K mainGlobals "sorted" = some none)
    (at_ : PySem.W.nsIn K mainGlobals "NUMBERS_OF_CALL" = some (some (.ref tt)))
    (lt_ : K.lookup tt = some ⟨.type "tuple", odt, .seq #[.int 5 v0, .int 1 v1, .int 2 v2, .int 0 v3, .int 1 v4, .int 1 v5, .int 1 v6, .int 1 v7, .int 1 v8, .int 1 v9, .int 0 v10, .int 1 v11, .int 0 v12] nt, slt⟩)
    : ∃ fd : FuncData, (∀ (s : Shared) (us : List Value), us.length = (["calls"] : List Str).length → BindsTo s fd ⟨us, []⟩ ((["calls"] : List Str).zip us)) ∧ ∀ base : Heap, K.In base → base.Ns mainGlobals mg → FnOk P w K mg base CX0 8 fa fd ["calls"] ((spAnsN 12) K) := by
  have eA := hfa.symm.trans (PySem.W.mg_of X G a33)
  cases eA
  let D : Cs := ⟨CT, CL, CC, CP, CW, CS⟩
  have TCT : Cl K mg "Thing" CT thN := ⟨⟨pgCT, hdCT, poCT, saCT⟩, fun f hf => by
    simp only [List.mem_cons, List.not_mem_nil, or_false] at hf
    rcases hf with rfl | rfl | rfl | rfl
    · exact nCT0
    · exact nCT1
    · exact nCT2
    · exact nCT3
    , PySem.W.mg_of X G aCT⟩
  have TCL : Cl K mg "Letter" CL leN := ⟨⟨pgCL, hdCL, poCL, saCL⟩, fun f hf => by
    simp only [List.mem_cons, List.not_mem_nil, or_false] at hf
    rcases hf with rfl | rfl | rfl | rfl | rfl
    · exact nCL0
    · exact nCL1
    · exact nCL2
    · exact nCL3
    · exact nCL4
    , PySem.W.mg_of X G aCL⟩
  have TCC : Cl K mg "Client" CC clN := ⟨⟨pgCC, hdCC, poCC, saCC⟩, fun f hf => by
    simp only [List.mem_cons, List.not_mem_nil, or_false] at hf
    rcases hf with rfl
    · exact nCC0
    , PySem.W.mg_of X G aCC⟩
  have TCP : Cl K mg "Player" CP plN := ⟨⟨pgCP, hdCP, poCP, saCP⟩, fun f hf => by
    simp only [List.mem_cons, List.not_mem_nil, or_false] at hf
    rcases hf with rfl | rfl | rfl | rfl | rfl
    · exact nCP0
    · exact nCP1
    · exact nCP2
    · exact nCP3
    · exact nCP4
    , PySem.W.mg_of X G aCP⟩
  have TCW : Cl K mg "Word" CW woN := ⟨⟨pgCW, hdCW, poCW, saCW⟩, fun f hf => by
    simp only [List.mem_cons, List.not_mem_nil, or_false] at hf
    rcases hf with rfl | rfl
    · exact nCW0
    · exact nCW1
    , PySem.W.mg_of X G aCW⟩
  have TCS : Cl K mg "Server" CS seN := ⟨⟨pgCS, hdCS, poCS, saCS⟩, fun f hf => by
    simp only [List.mem_cons, List.not_mem_nil, or_false] at hf
    rcases hf with rfl | rfl | rfl | rfl | rfl
    · exact nCS0
    · exact nCS1
    · exact nCS2
    · exact nCS3
    · exact nCS4
    , PySem.W.mg_of X G aCS⟩
  have F0 := fun_mk (st := sThingI) l0 c0 k0
  have b0 := F0.binds (ps := ["self", "column", "row", "look", "hidden"]) fun _ _ _ _ _ _ us hl => match us, hl with | [_, _, _, _, _], _ => rfl
  have F1 := fun_mk (st := sLetI) l1 c1 k1
  have b1 := F1.binds (ps := ["self", "receiver", "tick", "since", "before", "now"]) fun _ _ _ _ _ _ us hl => match us, hl with | [_, _, _, _, _, _], _ => rfl
  have F2 := fun_mk (st := sLetSize) l2 c2 k2
  have b2 := F2.binds (ps := ["self"]) fun _ _ _ _ _ _ us hl => match us, hl with | [_], _ => rfl
  have F3 := fun_mk (st := sLetPut) l3 c3 k3
  have b3 := F3.binds (ps := ["self", "view"]) fun _ _ _ _ _ _ us hl => match us, hl with | [_, _], _ => rfl
  have F4 := fun_mk (st := sCliI) l4 c4 k4
  have b4 := F4.binds (ps := ["self"]) fun _ _ _ _ _ _ us hl => match us, hl with | [_], _ => rfl
  have F5 := fun_mk (st := sCliCan) l5 c5 k5
  have b5 := F5.binds (ps := ["self", "letter"]) fun _ _ _ _ _ _ us hl => match us, hl with | [_, _], _ => rfl
  have F6 := fun_mk (st := sCliTake) l6 c6 k6
  have b6 := F6.binds (ps := ["self", "letter"]) fun _ _ _ _ _ _ us hl => match us, hl with | [_, _], _ => rfl
  have F7 := fun_mk (st := sPlaI) l7 c7 k7
  have b7 := F7.binds (ps := ["self", "own", "far"]) fun _ _ _ _ _ _ us hl => match us, hl with | [_, _, _], _ => rfl
  have F8 := fun_mk (st := sPlaSent) l8 c8 k8
  have b8 := F8.binds (ps := ["self"]) fun _ _ _ _ _ _ us hl => match us, hl with | [_], _ => rfl
  have F9 := fun_mk (st := sWordI) l9 c9 k9
  have b9 := F9.binds (ps := ["self", "sender", "tick"]) fun _ _ _ _ _ _ us hl => match us, hl with | [_, _, _], _ => rfl
  have F10 := fun_mk (st := sSrvI) l10 c10 k10
  have b10 := F10.binds (ps := ["self"]) fun _ _ _ _ _ _ us hl => match us, hl with | [_], _ => rfl
  have F11 := fun_mk (st := sSThing) l11 c11 k11
  have b11 := F11.binds (ps := ["self", "number", "thing"]) fun _ _ _ _ _ _ us hl => match us, hl with | [_, _, _], _ => rfl
  have F12 := fun_mk (st := sSGone) l12 c12 k12
  have b12 := F12.binds (ps := ["self", "number"]) fun _ _ _ _ _ _ us hl => match us, hl with | [_, _], _ => rfl
  have F13 := fun_mk (st := sSPlayer) l13 c13 k13
  have b13 := F13.binds (ps := ["self", "own", "far"]) fun _ _ _ _ _ _ us hl => match us, hl with | [_, _, _], _ => rfl
  have F14 := fun_mk (st := sSView) l14 c14 k14
  have b14 := F14.binds (ps := ["self", "player"]) fun _ _ _ _ _ _ us hl => match us, hl with | [_, _], _ => rfl
  have F15 := fun_mk (st := sSNext) l15 c15 k15
  have b15 := F15.binds (ps := ["self", "receiver"]) fun _ _ _ _ _ _ us hl => match us, hl with | [_, _], _ => rfl
  have F16 := fun_mk (st := sSTick) l16 c16 k16
  have b16 := F16.binds (ps := ["self"]) fun _ _ _ _ _ _ us hl => match us, hl with | [_], _ => rfl
  have F17 := fun_mk (st := sSArr) l17 c17 k17
  have b17 := F17.binds (ps := ["self", "place"]) fun _ _ _ _ _ _ us hl => match us, hl with | [_, _], _ => rfl
  have F18 := fun_mk (st := sSLost) l18 c18 k18
  have b18 := F18.binds (ps := ["self", "place"]) fun _ _ _ _ _ _ us hl => match us, hl with | [_, _], _ => rfl
  have F19 := fun_mk (st := sSWord) l19 c19 k19
  have b19 := F19.binds (ps := ["self", "place"]) fun _ _ _ _ _ _ us hl => match us, hl with | [_, _], _ => rfl
  have F20 := fun_mk (st := sSWLost) l20 c20 k20
  have b20 := F20.binds (ps := ["self", "place"]) fun _ _ _ _ _ _ us hl => match us, hl with | [_, _], _ => rfl
  have F21 := fun_mk (st := sSSees) l21 c21 k21
  have b21 := F21.binds (ps := ["self", "number"]) fun _ _ _ _ _ _ us hl => match us, hl with | [_, _], _ => rfl
  have F22 := fun_mk (st := sSHas) l22 c22 k22
  have b22 := F22.binds (ps := ["self", "number"]) fun _ _ _ _ _ _ us hl => match us, hl with | [_, _], _ => rfl
  have F23 := fun_mk (st := sSWay) l23 c23 k23
  have b23 := F23.binds (ps := ["self"]) fun _ _ _ _ _ _ us hl => match us, hl with | [_], _ => rfl
  have F24 := fun_mk (st := sSWould) l24 c24 k24
  have b24 := F24.binds (ps := ["self", "number"]) fun _ _ _ _ _ _ us hl => match us, hl with | [_, _], _ => rfl
  have F25 := fun_mk (st := sSState) l25 c25 k25
  have b25 := F25.binds (ps := ["self"]) fun _ _ _ _ _ _ us hl => match us, hl with | [_], _ => rfl
  have F26 := fun_mk (st := sNear) l26 c26 k26
  have b26 := F26.binds (ps := ["thing", "other", "far"]) fun _ _ _ _ _ _ us hl => match us, hl with | [_, _, _], _ => rfl
  have F27 := fun_mk (st := sView) l27 c27 k27
  have b27 := F27.binds (ps := ["things", "own", "far"]) fun _ _ _ _ _ _ us hl => match us, hl with | [_, _, _], _ => rfl
  have F28 := fun_mk (st := sTold) l28 c28 k28
  have b28 := F28.binds (ps := ["view"]) fun _ _ _ _ _ _ us hl => match us, hl with | [_], _ => rfl
  have F29 := fun_mk (st := sPut) l29 c29 k29
  have b29 := F29.binds (ps := ["first", "second"]) fun _ _ _ _ _ _ us hl => match us, hl with | [_, _], _ => rfl
  have F30 := fun_mk (st := sGone) l30 c30 k30
  have b30 := F30.binds (ps := ["first", "second"]) fun _ _ _ _ _ _ us hl => match us, hl with | [_, _], _ => rfl
  have F31 := fun_mk (st := sAsk) l31 c31 k31
  have b31 := F31.binds (ps := ["server", "call", "numbers"]) fun _ _ _ _ _ _ us hl => match us, hl with | [_, _, _], _ => rfl
  have F32 := fun_mk (st := sAns1) l32 c32 k32
  have b32 := F32.binds (ps := ["server", "call", "numbers"]) fun _ _ _ _ _ _ us hl => match us, hl with | [_, _, _], _ => rfl
  have F33 := fun_mk (st := sAns) l33 c33 k33
  have b33 := F33.binds (ps := ["calls"]) fun _ _ _ _ _ _ us hl => match us, hl with | [_], _ => rfl
  have Z_HIGHEST_NUMBER : Cn mg "HIGHEST_NUMBER" (99) := ⟨⟨_, PySem.W.mg_of X G z0⟩⟩
  have Z_MOST_THINGS : Cn mg "MOST_THINGS" (20) := ⟨⟨_, PySem.W.mg_of X G z1⟩⟩
  have Z_MOST_PLAYERS : Cn mg "MOST_PLAYERS" (4) := ⟨⟨_, PySem.W.mg_of X G z2⟩⟩
  have Z_MOST_TICKS : Cn mg "MOST_TICKS" (59) := ⟨⟨_, PySem.W.mg_of X G z3⟩⟩
  have Z_MOST_LETTERS : Cn mg "MOST_LETTERS" (30) := ⟨⟨_, PySem.W.mg_of X G z4⟩⟩
  have Z_ABOVE_HIGHEST : Cn mg "ABOVE_HIGHEST" (-1) := ⟨⟨_, PySem.W.mg_of X G z5⟩⟩
  have Z_NONE_SUCH : Cn mg "NONE_SUCH" (-2) := ⟨⟨_, PySem.W.mg_of X G z6⟩⟩
  have Z_TOO_MANY : Cn mg "TOO_MANY" (-5) := ⟨⟨_, PySem.W.mg_of X G z7⟩⟩
  have Z_NO_VIEW : Cn mg "NO_VIEW" (-6) := ⟨⟨_, PySem.W.mg_of X G z8⟩⟩
  have Z_THING : Cn mg "THING" (0) := ⟨⟨_, PySem.W.mg_of X G z9⟩⟩
  have Z_GONE : Cn mg "GONE" (1) := ⟨⟨_, PySem.W.mg_of X G z10⟩⟩
  have Z_PLAYER : Cn mg "PLAYER" (2) := ⟨⟨_, PySem.W.mg_of X G z11⟩⟩
  have Z_TICK : Cn mg "TICK" (3) := ⟨⟨_, PySem.W.mg_of X G z12⟩⟩
  have Z_ARRIVE : Cn mg "ARRIVE" (4) := ⟨⟨_, PySem.W.mg_of X G z13⟩⟩
  have Z_LOSE : Cn mg "LOSE" (5) := ⟨⟨_, PySem.W.mg_of X G z14⟩⟩
  have Z_WORD_ARRIVES : Cn mg "WORD_ARRIVES" (6) := ⟨⟨_, PySem.W.mg_of X G z15⟩⟩
  have Z_WORD_LOST : Cn mg "WORD_LOST" (7) := ⟨⟨_, PySem.W.mg_of X G z16⟩⟩
  have Z_SEES : Cn mg "SEES" (8) := ⟨⟨_, PySem.W.mg_of X G z17⟩⟩
  have Z_HAS : Cn mg "HAS" (9) := ⟨⟨_, PySem.W.mg_of X G z18⟩⟩
  have Z_ON_THE_WAY : Cn mg "ON_THE_WAY" (10) := ⟨⟨_, PySem.W.mg_of X G z19⟩⟩
  have Z_WOULD : Cn mg "WOULD" (11) := ⟨⟨_, PySem.W.mg_of X G z20⟩⟩
  have W_len : mg "len" = none := PySem.W.mg_none_of X G w0
  have W_max : mg "max" = none := PySem.W.mg_none_of X G w1
  have W_enumerate : mg "enumerate" = none := PySem.W.mg_none_of X G w2
  have W_abs : mg "abs" = none := PySem.W.mg_none_of X G w3
  have W_sorted : mg "sorted" = none := PySem.W.mg_none_of X G w4
  have TB : Tab K mg [5, 1, 2, 0, 1, 1, 1, 1, 1, 1, 0, 1, 0] := ⟨⟨tt, PySem.W.mg_of X G at_, fun H => .inr ⟨_, _, _, lt_, rfl, rfl, (by show 13 ≤ sizeLine; decide), (.cons ⟨_, rfl⟩ (.cons ⟨_, rfl⟩ (.cons ⟨_, rfl⟩ (.cons ⟨_, rfl⟩ (.cons ⟨_, rfl⟩ (.cons ⟨_, rfl⟩ (.cons ⟨_, rfl⟩ (.cons ⟨_, rfl⟩ (.cons ⟨_, rfl⟩ (.cons ⟨_, rfl⟩ (.cons ⟨_, rfl⟩ (.cons ⟨_, rfl⟩ (.cons ⟨_, rfl⟩ .nil)))))))))))))⟩⟩⟩
  refine ⟨PySem.W.fnOf "answers" "answers" (defArgs sAns) (defBody sAns) (defScope sAns) .none kV33 dc33 pm33 an33 cd33 ct33, fun s us hu => match us, hu with | [_], _ => .of_eq rfl, fun base _ _ => ?_⟩
  have O0 : FnOk P w K mg base CX0 1 f0 _ ["self", "column", "row", "look", "hidden"] (spThingI CT) := ok_thingI F0 TCT
  have I_Thing : MakeOk P w K mg base 1 CT ["self", "column", "row", "look", "hidden"] (spThingI CT) := ⟨⟨_, _, O0, b0, ⟨mkCT, a0, i0, kcCT⟩⟩⟩
  have O26 : FnOk P w K mg base CX0 1 f26 _ ["thing", "other", "far"] (spNear CT) := ok_near F26 TCT W_abs
  have D_is_near : DefOk P w K mg base 1 "is_near" ["thing", "other", "far"] (spNear CT) := ⟨⟨_, _, O26, b26, k26, PySem.W.mg_of X G a26⟩⟩
  have O27 : FnOk P w K mg base CX0 2 f27 _ ["things", "own", "far"] (spView CT) := ok_view F27 TCT W_sorted D_is_near
  have D_view_of : DefOk P w K mg base 2 "view_of" ["things", "own", "far"] (spView CT) := ⟨⟨_, _, O27, b27, k27, PySem.W.mg_of X G a27⟩⟩
  have O29 : FnOk P w K mg base CX0 1 f29 _ ["first", "second"] (spPut) := ok_put F29 W_sorted
  have D_put_between : DefOk P w K mg base 1 "put_between" ["first", "second"] (spPut) := ⟨⟨_, _, O29, b29, k29, PySem.W.mg_of X G a29⟩⟩
  have O30 : FnOk P w K mg base CX0 1 f30 _ ["first", "second"] (spGone) := ok_gone F30 W_sorted
  have D_gone_between : DefOk P w K mg base 1 "gone_between" ["first", "second"] (spGone) := ⟨⟨_, _, O30, b30, k30, PySem.W.mg_of X G a30⟩⟩
  have O1 : FnOk P w K mg base CX0 2 f1 _ ["self", "receiver", "tick", "since", "before", "now"] (spLetI CL) := ok_letI F1 TCL D_put_between D_gone_between
  have I_Letter : MakeOk P w K mg base 2 CL ["self", "receiver", "tick", "since", "before", "now"] (spLetI CL) := ⟨⟨_, _, O1, b1, ⟨mkCL, a1, i1, kcCL⟩⟩⟩
  have O2 : FnOk P w K mg base CX0 1 f2 _ ["self"] (spSize CL) := ok_size F2 TCL W_len
  have M_Letter_size : MethOk P w K mg base 1 CL "size" ["self"] (spSize CL) := ⟨⟨_, _, O2, b2, ⟨a2, i2, k2⟩⟩⟩
  have O3 : FnOk P w K mg base CX0 1 f3 _ ["self", "view"] (spPatch CL) := ok_patch F3 TCL
  have M_Letter_put_to : MethOk P w K mg base 1 CL "put_to" ["self", "view"] (spPatch CL) := ⟨⟨_, _, O3, b3, ⟨a3, i3, k3⟩⟩⟩
  have O4 : FnOk P w K mg base CX0 1 f4 _ ["self"] (spCliI CC) := ok_cliI F4 TCC
  have I_Client : MakeOk P w K mg base 1 CC ["self"] (spCliI CC) := ⟨⟨_, _, O4, b4, ⟨mkCC, a4, i4, kcCC⟩⟩⟩
  have O5 : FnOk P w K mg base CX0 1 f5 _ ["self", "letter"] (spCan CL CC) := ok_can F5 TCL TCC
  have M_Client_can_take : MethOk P w K mg base 1 CC "can_take" ["self", "letter"] (spCan CL CC) := ⟨⟨_, _, O5, b5, ⟨a5, i5, k5⟩⟩⟩
  have O6 : FnOk P w K mg base CX0 2 f6 _ ["self", "letter"] (spTake CL CC) := ok_take F6 TCL TCC M_Letter_put_to
  have M_Client_take : MethOk P w K mg base 2 CC "take" ["self", "letter"] (spTake CL CC) := ⟨⟨_, _, O6, b6, ⟨a6, i6, k6⟩⟩⟩
  have O7 : FnOk P w K mg base CX0 3 f7 _ ["self", "own", "far"] (spPlaI CP CC) := ok_plaI F7 TCP TCC I_Client
  have I_Player : MakeOk P w K mg base 3 CP ["self", "own", "far"] (spPlaI CP CC) := ⟨⟨_, _, O7, b7, ⟨mkCP, a7, i7, kcCP⟩⟩⟩
  have O9 : FnOk P w K mg base CX0 1 f9 _ ["self", "sender", "tick"] (spWordI CW) := ok_wordI F9 TCW
  have I_Word : MakeOk P w K mg base 1 CW ["self", "sender", "tick"] (spWordI CW) := ⟨⟨_, _, O9, b9, ⟨mkCW, a9, i9, kcCW⟩⟩⟩
  have O10 : FnOk P w K mg base CX0 1 f10 _ ["self"] (spSrvI CS) := ok_srvI F10 TCS
  have I_Server : MakeOk P w K mg base 1 CS ["self"] (spSrvI CS) := ⟨⟨_, _, O10, b10, ⟨mkCS, a10, i10, kcCS⟩⟩⟩
  have O11 : FnOk P w K mg base CX0 1 f11 _ ["self", "number", "thing"] (spThing D) := ok_thing (D := D) F11 TCS TCT ⟨W_len, W_max, W_enumerate, Z_HIGHEST_NUMBER, Z_MOST_THINGS, Z_MOST_PLAYERS, Z_MOST_TICKS, Z_MOST_LETTERS, Z_ABOVE_HIGHEST, Z_NONE_SUCH, Z_TOO_MANY, Z_NO_VIEW⟩
  have M_Server_put_thing : MethOk P w K mg base 1 CS "put_thing" ["self", "number", "thing"] (spThing D) := ⟨⟨_, _, O11, b11, ⟨a11, i11, k11⟩⟩⟩
  have O12 : FnOk P w K mg base CX0 1 f12 _ ["self", "number"] (spGoneT D) := ok_goneT (D := D) F12 TCS ⟨W_len, W_max, W_enumerate, Z_HIGHEST_NUMBER, Z_MOST_THINGS, Z_MOST_PLAYERS, Z_MOST_TICKS, Z_MOST_LETTERS, Z_ABOVE_HIGHEST, Z_NONE_SUCH, Z_TOO_MANY, Z_NO_VIEW⟩
  have M_Server_take_thing_away : MethOk P w K mg base 1 CS "take_thing_away" ["self", "number"] (spGoneT D) := ⟨⟨_, _, O12, b12, ⟨a12, i12, k12⟩⟩⟩
  have O13 : FnOk P w K mg base CX0 5 f13 _ ["self", "own", "far"] (spPla D) := ok_pla (D := D) F13 TCS TCP ⟨W_len, W_max, W_enumerate, Z_HIGHEST_NUMBER, Z_MOST_THINGS, Z_MOST_PLAYERS, Z_MOST_TICKS, Z_MOST_LETTERS, Z_ABOVE_HIGHEST, Z_NONE_SUCH, Z_TOO_MANY, Z_NO_VIEW⟩ I_Player
  have M_Server_add_player : MethOk P w K mg base 5 CS "add_player" ["self", "own", "far"] (spPla D) := ⟨⟨_, _, O13, b13, ⟨a13, i13, k13⟩⟩⟩
  have O14 : FnOk P w K mg base CX0 3 f14 _ ["self", "player"] (spVNow D) := ok_vnow (D := D) F14 TCS TCP D_view_of
  have M_Server_view_now : MethOk P w K mg base 3 CS "view_now" ["self", "player"] (spVNow D) := ⟨⟨_, _, O14, b14, ⟨a14, i14, k14⟩⟩⟩
  have O15 : FnOk P w K mg base CX0 4 f15 _ ["self", "receiver"] (spNext D) := ok_next (D := D) F15 TCS TCP TCL I_Letter M_Server_view_now
  have M_Server_next_letter : MethOk P w K mg base 4 CS "next_letter" ["self", "receiver"] (spNext D) := ⟨⟨_, _, O15, b15, ⟨a15, i15, k15⟩⟩⟩
  have O16 : FnOk P w K mg base CX0 5 f16 _ ["self"] (spTick D) := ok_tick (D := D) F16 TCS TCP TCL ⟨W_len, W_max, W_enumerate, Z_HIGHEST_NUMBER, Z_MOST_THINGS, Z_MOST_PLAYERS, Z_MOST_TICKS, Z_MOST_LETTERS, Z_ABOVE_HIGHEST, Z_NONE_SUCH, Z_TOO_MANY, Z_NO_VIEW⟩ M_Server_next_letter M_Server_view_now M_Letter_size
  have M_Server_run_tick : MethOk P w K mg base 5 CS "run_tick" ["self"] (spTick D) := ⟨⟨_, _, O16, b16, ⟨a16, i16, k16⟩⟩⟩
  have O17 : FnOk P w K mg base CX0 3 f17 _ ["self", "place"] (spArr D) := ok_arr (D := D) F17 TCS TCP TCW TCL TCC ⟨W_len, W_max, W_enumerate, Z_HIGHEST_NUMBER, Z_MOST_THINGS, Z_MOST_PLAYERS, Z_MOST_TICKS, Z_MOST_LETTERS, Z_ABOVE_HIGHEST, Z_NONE_SUCH, Z_TOO_MANY, Z_NO_VIEW⟩ M_Client_can_take M_Client_take I_Word
  have M_Server_letter_arrives : MethOk P w K mg base 3 CS "letter_arrives" ["self", "place"] (spArr D) := ⟨⟨_, _, O17, b17, ⟨a17, i17, k17⟩⟩⟩
  have O18 : FnOk P w K mg base CX0 1 f18 _ ["self", "place"] (spLost D) := ok_lost (D := D) F18 TCS ⟨W_len, W_max, W_enumerate, Z_HIGHEST_NUMBER, Z_MOST_THINGS, Z_MOST_PLAYERS, Z_MOST_TICKS, Z_MOST_LETTERS, Z_ABOVE_HIGHEST, Z_NONE_SUCH, Z_TOO_MANY, Z_NO_VIEW⟩
  have M_Server_letter_lost : MethOk P w K mg base 1 CS "letter_lost" ["self", "place"] (spLost D) := ⟨⟨_, _, O18, b18, ⟨a18, i18, k18⟩⟩⟩
  have O19 : FnOk P w K mg base CX0 1 f19 _ ["self", "place"] (spWord D) := ok_word (D := D) F19 TCS TCP TCW ⟨W_len, W_max, W_enumerate, Z_HIGHEST_NUMBER, Z_MOST_THINGS, Z_MOST_PLAYERS, Z_MOST_TICKS, Z_MOST_LETTERS, Z_ABOVE_HIGHEST, Z_NONE_SUCH, Z_TOO_MANY, Z_NO_VIEW⟩
  have M_Server_word_arrives : MethOk P w K mg base 1 CS "word_arrives" ["self", "place"] (spWord D) := ⟨⟨_, _, O19, b19, ⟨a19, i19, k19⟩⟩⟩
  have O28 : FnOk P w K mg base CX0 1 f28 _ ["view"] (spTold) := ok_told F28 W_len W_sorted
  have D_told_view : DefOk P w K mg base 1 "told_view" ["view"] (spTold) := ⟨⟨_, _, O28, b28, k28, PySem.W.mg_of X G a28⟩⟩
  have O8 : FnOk P w K mg base CX0 1 f8 _ ["self"] (spSince CP) := ok_since F8 TCP W_len
  have M_Player_sent_since_known : MethOk P w K mg base 1 CP "sent_since_known" ["self"] (spSince CP) := ⟨⟨_, _, O8, b8, ⟨a8, i8, k8⟩⟩⟩
  have O20 : FnOk P w K mg base CX0 1 f20 _ ["self", "place"] (spWLost D) := ok_wlost (D := D) F20 TCS ⟨W_len, W_max, W_enumerate, Z_HIGHEST_NUMBER, Z_MOST_THINGS, Z_MOST_PLAYERS, Z_MOST_TICKS, Z_MOST_LETTERS, Z_ABOVE_HIGHEST, Z_NONE_SUCH, Z_TOO_MANY, Z_NO_VIEW⟩
  have M_Server_word_lost : MethOk P w K mg base 1 CS "word_lost" ["self", "place"] (spWLost D) := ⟨⟨_, _, O20, b20, ⟨a20, i20, k20⟩⟩⟩
  have O21 : FnOk P w K mg base CX0 4 f21 _ ["self", "number"] (spSees D) := ok_sees (D := D) F21 TCS ⟨W_len, W_max, W_enumerate, Z_HIGHEST_NUMBER, Z_MOST_THINGS, Z_MOST_PLAYERS, Z_MOST_TICKS, Z_MOST_LETTERS, Z_ABOVE_HIGHEST, Z_NONE_SUCH, Z_TOO_MANY, Z_NO_VIEW⟩ D_told_view M_Server_view_now
  have M_Server_sees : MethOk P w K mg base 4 CS "sees" ["self", "number"] (spSees D) := ⟨⟨_, _, O21, b21, ⟨a21, i21, k21⟩⟩⟩
  have O22 : FnOk P w K mg base CX0 2 f22 _ ["self", "number"] (spHas D) := ok_has (D := D) F22 TCS TCP TCC ⟨W_len, W_max, W_enumerate, Z_HIGHEST_NUMBER, Z_MOST_THINGS, Z_MOST_PLAYERS, Z_MOST_TICKS, Z_MOST_LETTERS, Z_ABOVE_HIGHEST, Z_NONE_SUCH, Z_TOO_MANY, Z_NO_VIEW⟩ D_told_view
  have M_Server_has : MethOk P w K mg base 2 CS "has" ["self", "number"] (spHas D) := ⟨⟨_, _, O22, b22, ⟨a22, i22, k22⟩⟩⟩
  have O23 : FnOk P w K mg base CX0 2 f23 _ ["self"] (spWay D) := ok_way (D := D) F23 TCS TCL TCW ⟨W_len, W_max, W_enumerate, Z_HIGHEST_NUMBER, Z_MOST_THINGS, Z_MOST_PLAYERS, Z_MOST_TICKS, Z_MOST_LETTERS, Z_ABOVE_HIGHEST, Z_NONE_SUCH, Z_TOO_MANY, Z_NO_VIEW⟩ M_Letter_size
  have M_Server_on_the_way : MethOk P w K mg base 2 CS "on_the_way" ["self"] (spWay D) := ⟨⟨_, _, O23, b23, ⟨a23, i23, k23⟩⟩⟩
  have O24 : FnOk P w K mg base CX0 5 f24 _ ["self", "number"] (spWould D) := ok_would (D := D) F24 TCS TCL ⟨W_len, W_max, W_enumerate, Z_HIGHEST_NUMBER, Z_MOST_THINGS, Z_MOST_PLAYERS, Z_MOST_TICKS, Z_MOST_LETTERS, Z_ABOVE_HIGHEST, Z_NONE_SUCH, Z_TOO_MANY, Z_NO_VIEW⟩ D_told_view M_Server_next_letter
  have M_Server_would : MethOk P w K mg base 5 CS "would" ["self", "number"] (spWould D) := ⟨⟨_, _, O24, b24, ⟨a24, i24, k24⟩⟩⟩
  have O25 : FnOk P w K mg base CX0 2 f25 _ ["self"] (spState D) := ok_state (D := D) F25 TCS TCP TCC ⟨W_len, W_max, W_enumerate, Z_HIGHEST_NUMBER, Z_MOST_THINGS, Z_MOST_PLAYERS, Z_MOST_TICKS, Z_MOST_LETTERS, Z_ABOVE_HIGHEST, Z_NONE_SUCH, Z_TOO_MANY, Z_NO_VIEW⟩ M_Player_sent_since_known
  have M_Server_state : MethOk P w K mg base 2 CS "state" ["self"] (spState D) := ⟨⟨_, _, O25, b25, ⟨a25, i25, k25⟩⟩⟩
  have O31 : FnOk P w K mg base CX0 6 f31 _ ["server", "call", "numbers"] (spAsk D) := ok_ask (D := D) F31 TCS ⟨Z_SEES, Z_HAS, Z_ON_THE_WAY, Z_WOULD⟩ M_Server_sees M_Server_has M_Server_on_the_way M_Server_would M_Server_state
  have D_answer_of_asking : DefOk P w K mg base 6 "answer_of_asking" ["server", "call", "numbers"] (spAsk D) := ⟨⟨_, _, O31, b31, k31, PySem.W.mg_of X G a31⟩⟩
  have O32 : FnOk P w K mg base CX0 7 f32 _ ["server", "call", "numbers"] (spAns1 D 12) := ok_ans1 (D := D) F32 TCS TCT ⟨Z_THING, Z_GONE, Z_PLAYER, Z_TICK, Z_ARRIVE, Z_LOSE, Z_WORD_ARRIVES, Z_WORD_LOST⟩ M_Server_put_thing I_Thing M_Server_take_thing_away M_Server_add_player M_Server_run_tick M_Server_letter_arrives M_Server_letter_lost M_Server_word_arrives M_Server_word_lost D_answer_of_asking
  have D_answer_of : DefOk P w K mg base 7 "answer_of" ["server", "call", "numbers"] (spAns1 D 12) := ⟨⟨_, _, O32, b32, k32, PySem.W.mg_of X G a32⟩⟩
  have O33 : FnOk P w K mg base CX0 8 fa _ ["calls"] (spAnsN 12 K) := ok_ans (D := D) F33 TCS W_len TB (fun p a x d hp => by cases d <;> exact ⟨by decide, by decide⟩) I_Server D_answer_of
  have D_answers : DefOk P w K mg base 8 "answers" ["calls"] (spAnsN 12 K) := ⟨⟨_, _, O33, b33, k33, PySem.W.mg_of X G a33⟩⟩
  exact O33
end Net
open PySem PySem.W PyProof.Rows
set_option maxRecDepth 100000 in
set_option maxHeartbeats 8000000 in
theorem PySem.Challenge.cw_losingnet_s01_answers_holds : PySem.Challenge.rw_losingnet_s01_answers.Holds := by
  w_on; k_headS; (case hw => exact ⟨[.list [.int 3]], by decide +kernel, by decide +kernel⟩)
  k_fillS
  refine L2.walk_specK (r := PySem.Challenge.rw_losingnet_s01_answers) (k := 8) (CX := L2.CX0) (ps := ["calls"]) (sp := (Net.spAnsN 12)) (by decide +kernel) rfl rfl ⟨rfl, by decide, by decide⟩ (fun w h Y => PySem.W.kIn_of Y) ?F ?S (fun _ _ _ _ z => z)
  case F =>
    intro w mg fa h Y KX G hmg
    refine' Net.all_mk KX G hmg ?aCT ?pgCT ?hdCT ?poCT ?saCT ?mkCT ?kcCT ?nCT0 ?nCT1 ?nCT2 ?nCT3 ?aCL ?pgCL ?hdCL ?poCL ?saCL ?mkCL ?kcCL ?nCL0 ?nCL1 ?nCL2 ?nCL3 ?nCL4 ?aCC ?pgCC ?hdCC ?poCC ?saCC ?mkCC ?kcCC ?nCC0 ?aCP ?pgCP ?hdCP ?poCP ?saCP ?mkCP ?kcCP ?nCP0 ?nCP1 ?nCP2 ?nCP3 ?nCP4 ?aCW ?pgCW ?hdCW ?poCW ?saCW ?mkCW ?kcCW ?nCW0 ?nCW1 ?aCS ?pgCS ?hdCS ?poCS ?saCS ?mkCS ?kcCS ?nCS0 ?nCS1 ?nCS2 ?nCS3 ?nCS4 ?a0 ?i0 ?l0 ?c0 ?k0 ?a1 ?i1 ?l1 ?c1 ?k1 ?a2 ?i2 ?l2 ?c2 ?k2 ?a3 ?i3 ?l3 ?c3 ?k3 ?a4 ?i4 ?l4 ?c4 ?k4 ?a5 ?i5 ?l5 ?c5 ?k5 ?a6 ?i6 ?l6 ?c6 ?k6 ?a7 ?i7 ?l7 ?c7 ?k7 ?a8 ?i8 ?l8 ?c8 ?k8 ?a9 ?i9 ?l9 ?c9 ?k9 ?a10 ?i10 ?l10 ?c10 ?k10 ?a11 ?i11 ?l11 ?c11 ?k11 ?a12 ?i12 ?l12 ?c12 ?k12 ?a13 ?i13 ?l13 ?c13 ?k13 ?a14 ?i14 ?l14 ?c14 ?k14 ?a15 ?i15 ?l15 ?c15 ?k15 ?a16 ?i16 ?l16 ?c16 ?k16 ?a17 ?i17 ?l17 ?c17 ?k17 ?a18 ?i18 ?l18 ?c18 ?k18 ?a19 ?i19 ?l19 ?c19 ?k19 ?a20 ?i20 ?l20 ?c20 ?k20 ?a21 ?i21 ?l21 ?c21 ?k21 ?a22 ?i22 ?l22 ?c22 ?k22 ?a23 ?i23 ?l23 ?c23 ?k23 ?a24 ?i24 ?l24 ?c24 ?k24 ?a25 ?i25 ?l25 ?c25 ?k25 ?a26 ?l26 ?c26 ?k26 ?a27 ?l27 ?c27 ?k27 ?a28 ?l28 ?c28 ?k28 ?a29 ?l29 ?c29 ?k29 ?a30 ?l30 ?c30 ?k30 ?a31 ?l31 ?c31 ?k31 ?a32 ?l32 ?c32 ?k32 ?a33 ?l33 ?c33 ?k33 ?z0 ?z1 ?z2 ?z3 ?z4 ?z5 ?z6 ?z7 ?z8 ?z9 ?z10 ?z11 ?z12 ?z13 ?z14 ?z15 ?z16 ?z17 ?z18 ?z19 ?z20 ?w0 ?w1 ?w2 ?w3 ?w4 ?at_ ?lt_
    (case aCT => k_is)
    (case pgCT => k_is)
    (case hdCT => k_is)
    (case poCT => k_is)
    (case saCT => k_is)
    (case mkCT => k_is)
    (case kcCT => k_is)
    (case nCT0 => k_is)
    (case nCT1 => k_is)
    (case nCT2 => k_is)
    (case nCT3 => k_is)
    (case aCL => k_is)
    (case pgCL => k_is)
    (case hdCL => k_is)
    (case poCL => k_is)
    (case saCL => k_is)
    (case mkCL => k_is)
    (case kcCL => k_is)
    (case nCL0 => k_is)
    (case nCL1 => k_is)
    (case nCL2 => k_is)
    (case nCL3 => k_is)
    (case nCL4 => k_is)
    (case aCC => k_is)
    (case pgCC => k_is)
    (case hdCC => k_is)
    (case poCC => k_is)
    (case saCC => k_is)
    (case mkCC => k_is)
    (case kcCC => k_is)
    (case nCC0 => k_is)
    (case aCP => k_is)
    (case pgCP => k_is)
    (case hdCP => k_is)
    (case poCP => k_is)
    (case saCP => k_is)
    (case mkCP => k_is)
    (case kcCP => k_is)
    (case nCP0 => k_is)
    (case nCP1 => k_is)
    (case nCP2 => k_is)
    (case nCP3 => k_is)
    (case nCP4 => k_is)
    (case aCW => k_is)
    (case pgCW => k_is)
    (case hdCW => k_is)
    (case poCW => k_is)
    (case saCW => k_is)
    (case mkCW => k_is)
    (case kcCW => k_is)
    (case nCW0 => k_is)
    (case nCW1 => k_is)
    (case aCS => k_is)
    (case pgCS => k_is)
    (case hdCS => k_is)
    (case poCS => k_is)
    (case saCS => k_is)
    (case mkCS => k_is)
    (case kcCS => k_is)
    (case nCS0 => k_is)
    (case nCS1 => k_is)
    (case nCS2 => k_is)
    (case nCS3 => k_is)
    (case nCS4 => k_is)
    (case a0 => k_is)
    (case i0 => k_is)
    (case l0 => k_is)
    (case c0 => k_is)
    (case k0 => k_is)
    (case a1 => k_is)
    (case i1 => k_is)
    (case l1 => k_is)
    (case c1 => k_is)
    (case k1 => k_is)
    (case a2 => k_is)
    (case i2 => k_is)
    (case l2 => k_is)
    (case c2 => k_is)
    (case k2 => k_is)
    (case a3 => k_is)
    (case i3 => k_is)
    (case l3 => k_is)
    (case c3 => k_is)
    (case k3 => k_is)
    (case a4 => k_is)
    (case i4 => k_is)
    (case l4 => k_is)
    (case c4 => k_is)
    (case k4 => k_is)
    (case a5 => k_is)
    (case i5 => k_is)
    (case l5 => k_is)
    (case c5 => k_is)
    (case k5 => k_is)
    (case a6 => k_is)
    (case i6 => k_is)
    (case l6 => k_is)
    (case c6 => k_is)
    (case k6 => k_is)
    (case a7 => k_is)
    (case i7 => k_is)
    (case l7 => k_is)
    (case c7 => k_is)
    (case k7 => k_is)
    (case a8 => k_is)
    (case i8 => k_is)
    (case l8 => k_is)
    (case c8 => k_is)
    (case k8 => k_is)
    (case a9 => k_is)
    (case i9 => k_is)
    (case l9 => k_is)
    (case c9 => k_is)
    (case k9 => k_is)
    (case a10 => k_is)
    (case i10 => k_is)
    (case l10 => k_is)
    (case c10 => k_is)
    (case k10 => k_is)
    (case a11 => k_is)
    (case i11 => k_is)
    (case l11 => k_is)
    (case c11 => k_is)
    (case k11 => k_is)
    (case a12 => k_is)
    (case i12 => k_is)
    (case l12 => k_is)
    (case c12 => k_is)
    (case k12 => k_is)
    (case a13 => k_is)
    (case i13 => k_is)
    (case l13 => k_is)
    (case c13 => k_is)
    (case k13 => k_is)
    (case a14 => k_is)
    (case i14 => k_is)
    (case l14 => k_is)
    (case c14 => k_is)
    (case k14 => k_is)
    (case a15 => k_is)
    (case i15 => k_is)
    (case l15 => k_is)
    (case c15 => k_is)
    (case k15 => k_is)
    (case a16 => k_is)
    (case i16 => k_is)
    (case l16 => k_is)
    (case c16 => k_is)
    (case k16 => k_is)
    (case a17 => k_is)
    (case i17 => k_is)
    (case l17 => k_is)
    (case c17 => k_is)
    (case k17 => k_is)
    (case a18 => k_is)
    (case i18 => k_is)
    (case l18 => k_is)
    (case c18 => k_is)
    (case k18 => k_is)
    (case a19 => k_is)
    (case i19 => k_is)
    (case l19 => k_is)
    (case c19 => k_is)
    (case k19 => k_is)
    (case a20 => k_is)
    (case i20 => k_is)
    (case l20 => k_is)
    (case c20 => k_is)
    (case k20 => k_is)
    (case a21 => k_is)
    (case i21 => k_is)
    (case l21 => k_is)
    (case c21 => k_is)
    (case k21 => k_is)
    (case a22 => k_is)
    (case i22 => k_is)
    (case l22 => k_is)
    (case c22 => k_is)
    (case k22 => k_is)
    (case a23 => k_is)
    (case i23 => k_is)
    (case l23 => k_is)
    (case c23 => k_is)
    (case k23 => k_is)
    (case a24 => k_is)
    (case i24 => k_is)
    (case l24 => k_is)
    (case c24 => k_is)
    (case k24 => k_is)
    (case a25 => k_is)
    (case i25 => k_is)
    (case l25 => k_is)
    (case c25 => k_is)
    (case k25 => k_is)
    (case a26 => k_is)
    (case l26 => k_is)
    (case c26 => k_is)
    (case k26 => k_is)
    (case a27 => k_is)
    (case l27 => k_is)
    (case c27 => k_is)
    (case k27 => k_is)
    (case a28 => k_is)
    (case l28 => k_is)
    (case c28 => k_is)
    (case k28 => k_is)
    (case a29 => k_is)
    (case l29 => k_is)
    (case c29 => k_is)
    (case k29 => k_is)
    (case a30 => k_is)
    (case l30 => k_is)
    (case c30 => k_is)
    (case k30 => k_is)
    (case a31 => k_is)
    (case l31 => k_is)
    (case c31 => k_is)
    (case k31 => k_is)
    (case a32 => k_is)
    (case l32 => k_is)
    (case c32 => k_is)
    (case k32 => k_is)
    (case a33 => k_is)
    (case l33 => k_is)
    (case c33 => k_is)
    (case k33 => k_is)
    (case z0 => k_is)
    (case z1 => k_is)
    (case z2 => k_is)
    (case z3 => k_is)
    (case z4 => k_is)
    (case z5 => k_is)
    (case z6 => k_is)
    (case z7 => k_is)
    (case z8 => k_is)
    (case z9 => k_is)
    (case z10 => k_is)
    (case z11 => k_is)
    (case z12 => k_is)
    (case z13 => k_is)
    (case z14 => k_is)
    (case z15 => k_is)
    (case z16 => k_is)
    (case z17 => k_is)
    (case z18 => k_is)
    (case z19 => k_is)
    (case z20 => k_is)
    (case w0 => k_is)
    (case w1 => k_is)
    (case w2 => k_is)
    (case w3 => k_is)
    (case w4 => k_is)
    (case at_ => k_is)
    (case lt_ => k_is)
  case S =>
    intro K H xs a hO hwi hask hx
    cases hx with
    | cons h1 h2 =>
      cases h2
      cases h1 with
      | lst hs ha =>
        have e := L2.ints_dw a.1 _ ha
        subst e
        obtain ⟨L, el, hd, ea, h40, hsz⟩ := NM.read_all (l := a.1) hask
        refine ⟨_, a.1, L, rfl, hs, el, fun q hq => ⟨hd q hq, NM.dec_le (hd q hq)⟩, h40, hsz, fun H' p hp => ?_⟩
        have ea' : Codec.app _ PySem.Challenge.rw_losingnet_s01_answers.f a = NM.says Ge11.init L := ea
        rw [ea']
        exact .lst (L2.SqL.of hp) (L2.dw_ints _)
