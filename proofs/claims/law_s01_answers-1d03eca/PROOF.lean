import PyProof.Rows.All
import Wide.All
import OpenK.AllK
import Wide.FinOn
import Open.SpecLaws
import KE.OsHead
import KE.OsGo
import HandS.ForMost
import HandS.ForSpec
import HandS.Nested
import KE.DataMinKey
import HandS.WordsDict
import KE.KNest
import PySem.Challenge.RW_againstother_s01_answers
set_option autoImplicit false
namespace Ao
open Pn13
/-! ### states as numbers -/
def enc (u : State) : Nat := 2 * u.s + u.turn
def decS (n : Nat) : State := ⟨n / 2, n % 2⟩
theorem enc_dec (n : Nat) : enc (decS n) = n := by
  unfold enc decS
  show 2 * (n / 2) + n % 2 = n
  omega
theorem dec_enc {u : State} (h : u.turn ≤ 1) : decS (enc u) = u := by
  obtain ⟨s, t⟩ := u
  have h : t ≤ 1 := h
  unfold enc decS
  show (⟨(2 * s + t) / 2, (2 * s + t) % 2⟩ : State) = ⟨s, t⟩
  rw [show (2 * s + t) / 2 = s by omega, show (2 * s + t) % 2 = t by omega]
theorem enc_inj {u v : State} (hu : u.turn ≤ 1) (hv : v.turn ≤ 1) (h : enc u = enc v) : u = v := by
  rw [← dec_enc hu, ← dec_enc hv, h]
theorem decS_turn (n : Nat) : (decS n).turn ≤ 1 := by
  show n % 2 ≤ 1
  omega
theorem dec_inj {a b : Nat} (h : decS a = decS b) : a = b := by
  rw [← enc_dec a, ← enc_dec b, h]
theorem states_aux : ∀ n : Nat, ((List.range n).flatMap fun s => [(⟨s, 0⟩ : State), ⟨s, 1⟩]) = (List.range (2 * n)).map decS
  | 0 => rfl
  | n + 1 => by
    rw [List.range_succ, List.flatMap_append, states_aux n, show 2 * (n + 1) = 2 * n + 1 + 1 by omega, List.range_succ, List.range_succ, List.map_append, List.map_append, List.append_assoc]
    congr 1
    show [(⟨n, 0⟩ : State), ⟨n, 1⟩] = [decS (2 * n), decS (2 * n + 1)]
    unfold decS
    rw [show 2 * n / 2 = n by omega, show 2 * n % 2 = 0 by omega, show (2 * n + 1) / 2 = n by omega, show (2 * n + 1) % 2 = 1 by omega]
def total (t : Task) : Nat := 2 * 2 ^ t.facts
theorem states_eq (t : Task) : t.states = (List.range (total t)).map decS := states_aux _
theorem states_len (t : Task) : t.states.length = total t := by rw [states_eq, List.length_map, List.length_range]
theorem nodup_map {α β : Type} {f : α → β} (hf : ∀ a b, f a = f b → a = b) : ∀ {l : List α}, l.Nodup → (l.map f).Nodup
  | [], _ => List.nodup_nil
  | a :: l, h => by
    obtain ⟨h1, h2⟩ := List.nodup_cons.mp h
    rw [List.map_cons]
    refine List.nodup_cons.mpr ⟨fun hm => ?_, nodup_map hf h2⟩
    obtain ⟨b, hb, e⟩ := List.mem_map.mp hm
    rw [hf _ _ e] at hb
    exact h1 hb
theorem states_nd (t : Task) : t.states.Nodup := by
  rw [states_eq]
  exact nodup_map (fun _ _ => dec_inj) List.nodup_range
theorem mem_states {t : Task} {u : State} : u ∈ t.states ↔ u.turn ≤ 1 ∧ enc u < total t := by
  rw [states_eq, List.mem_map]
  constructor
  · rintro ⟨n, hn, rfl⟩
    rw [enc_dec]
    exact ⟨decS_turn n, List.mem_range.mp hn⟩
  · rintro ⟨h1, h2⟩
    exact ⟨enc u, List.mem_range.mpr h2, dec_enc h1⟩
theorem total_pos (t : Task) : 2 ≤ total t := by
  unfold total
  have : 0 < 2 ^ t.facts := Nat.pow_pos (by decide)
  omega
/-! ### levels as pairs of a dict -/
def pairs (l : List (List State)) : List (Nat × Nat) := l.zipIdx.flatMap fun p => p.1.map fun u => (enc u, p.2)
theorem pairs_snoc (l : List (List State)) (x : List State) : pairs (l ++ [x]) = pairs l ++ x.map fun u => (enc u, l.length) := by
  unfold pairs
  rw [List.zipIdx_append, List.flatMap_append]
  simp
theorem pairs_len (l : List (List State)) : (pairs l).length = l.flatten.length := by
  unfold pairs
  suffices h : ∀ (l : List (List State)) (k : Nat), ((l.zipIdx k).flatMap fun p => p.1.map fun u => (enc u, p.2)).length = l.flatten.length from h l 0
  intro l
  induction l with
  | nil => intro k; rfl
  | cons a l ih =>
    intro k
    rw [List.zipIdx_cons, List.flatMap_cons, List.length_append, List.length_map, ih, List.flatten_cons, List.length_append]
theorem pairs_keys (l : List (List State)) : (pairs l).map (·.1) = l.flatten.map enc := by
  unfold pairs
  suffices h : ∀ (l : List (List State)) (k : Nat), (((l.zipIdx k).flatMap fun p => p.1.map fun u => (enc u, p.2)).map (·.1)) = l.flatten.map enc from h l 0
  intro l
  induction l with
  | nil => intro k; rfl
  | cons a l ih =>
    intro k
    rw [List.zipIdx_cons, List.flatMap_cons, List.map_append, List.map_map, ih, List.flatten_cons, List.map_append]
    rfl
theorem lookup_level {x : List State} {u : State} {n : Nat} (hx : ∀ v ∈ x, v.turn ≤ 1) (hu : u.turn ≤ 1) : (x.map fun u => (enc u, n)).lookup (enc u) = if x.contains u = true then some n else none := by
  induction x with
  | nil => rfl
  | cons a x ih =>
    have ih := ih fun v hv => hx v (List.mem_cons_of_mem _ hv)
    rw [List.map_cons, List.lookup_cons, List.contains_cons, ih]
    by_cases e : u = a
    · subst e
      simp
    · have e2 : (enc u == enc a) = false := beq_eq_false_iff_ne.mpr fun q => e (enc_inj hu (hx a (List.mem_cons_self ..)) q)
      have e3 : (u == a) = false := beq_eq_false_iff_ne.mpr e
      rw [e2, e3]
      rfl
theorem find_app {α : Type} {p : α → Bool} (a b : List α) : (a ++ b).find? p = (a.find? p).or (b.find? p) := List.find?_append
theorem find_congr {α : Type} {p q : α → Bool} : ∀ {l : List α}, (∀ x ∈ l, p x = q x) → l.find? p = l.find? q
  | [], _ => rfl
  | a :: l, h => by
    rw [List.find?_cons, List.find?_cons, h a (List.mem_cons_self ..), find_congr fun x hx => h x (List.mem_cons_of_mem _ hx)]
theorem level_snoc (l : List (List State)) (x : List State) (u : State) : level (l ++ [x]) u = (level l u).or (if x.contains u = true then some l.length else none) := by
  unfold level
  rw [List.length_append, List.length_singleton, List.range_succ, find_app]
  congr 1
  · exact find_congr fun n hn => by
      have hn := List.mem_range.mp hn
      rw [List.getD_eq_getElem?_getD, List.getD_eq_getElem?_getD, List.getElem?_append_left hn]
  · rw [List.find?_cons, List.getD_eq_getElem?_getD, List.getElem?_append_right (Nat.le_refl _), Nat.sub_self]
    show (match x.contains u with | true => some l.length | false => List.find? _ []) = _
    cases x.contains u <;> rfl
theorem snoc_ind {α : Type} {P : List α → Prop} (h0 : P []) (hs : ∀ l x, P l → P (l ++ [x])) (l : List α) : P l := by
  have h : ∀ r : List α, P r.reverse := by
    intro r
    induction r with
    | nil => exact h0
    | cons a r ih => rw [List.reverse_cons]; exact hs _ _ ih
  have q := h l.reverse
  rwa [List.reverse_reverse] at q
/-- the dict's value is the level -/
theorem pairs_lookup (l : List (List State)) : (∀ v ∈ l.flatten, v.turn ≤ 1) → ∀ u : State, u.turn ≤ 1 → (pairs l).lookup (enc u) = level l u := by
  induction l using snoc_ind with
  | h0 => intro _ u _; rfl
  | hs l x ih =>
    intro h u hu
    rw [List.flatten_append] at h
    have ih := ih (fun v hv => h v (List.mem_append_left _ hv)) u hu
    rw [pairs_snoc, List.lookup_append, ih, level_snoc, lookup_level (fun v hv => h v (List.mem_append_right _ (by simpa using hv))) hu]
theorem level_some (l : List (List State)) (u : State) : (level l u).isSome = l.flatten.contains u := by
  induction l using snoc_ind with
  | h0 => rfl
  | hs l x ih =>
    rw [level_snoc, List.flatten_append, Option.isSome_or, ih]
    have e : (l.flatten ++ [x].flatten).contains u = (l.flatten.contains u || x.contains u) := by
      rw [Bool.eq_iff_iff]
      simp
    rw [e]
    congr 1
    cases x.contains u <;> rfl
/-! ### the rounds -/
def isNew (t : Task) (who : Nat) (all : List State) (u : State) : Bool := !all.contains u && (let m := t.moves u
      if u.turn + 1 = who then m.any fun k => all.contains (t.move u k) else !m.isEmpty && m.all fun k => all.contains (t.move u k))
def fresh (t : Task) (who : Nat) (l : List (List State)) : List State := t.states.filter fun u => isNew t who l.flatten u
theorem levels_succ (t : Task) (who n : Nat) (l : List (List State)) : t.levels who (n + 1) l = if (fresh t who l).isEmpty = true then l else t.levels who n (l ++ [fresh t who l]) := rfl
def start (t : Task) (who : Nat) : List (List State) := [t.states.filter fun u => t.won u == who]
theorem forced_eq (t : Task) (who : Nat) : t.forced who = t.levels who (total t) (start t who) := rfl
structure Good (t : Task) (l : List (List State)) : Prop where
  nd : l.flatten.Nodup
  sub : ∀ u ∈ l.flatten, u ∈ t.states
  len : l.length ≤ l.flatten.length ∨ l.length = 1
theorem Good.turn {t : Task} {l : List (List State)} (g : Good t l) : ∀ v ∈ l.flatten, v.turn ≤ 1 := fun v hv => (mem_states.mp (g.sub v hv)).1
theorem nodup_filter {α : Type} {p : α → Bool} {l : List α} (h : l.Nodup) : (l.filter p).Nodup := h.sublist List.filter_sublist
theorem good_start (t : Task) (who : Nat) : Good t (start t who) := by
  refine ⟨?_, fun u hu => ?_, .inr rfl⟩
  · unfold start
    rw [List.flatten_singleton]
    exact nodup_filter (states_nd t)
  · unfold start at hu
    rw [List.flatten_singleton] at hu
    exact (List.mem_filter.mp hu).1
theorem fresh_nil {t : Task} {who : Nat} {l : List (List State)} (h : l.flatten = []) : fresh t who l = [] := by
  unfold fresh
  rw [List.filter_eq_nil_iff]
  intro u _
  rw [h]
  unfold isNew
  simp only [List.contains_nil, Bool.not_false, Bool.true_and]
  split
  · simp
  · cases t.moves u <;> simp
theorem good_step {t : Task} {who : Nat} {l : List (List State)} (g : Good t l) (h : fresh t who l ≠ []) : Good t (l ++ [fresh t who l]) := by
  have hf : (l ++ [fresh t who l]).flatten = l.flatten ++ fresh t who l := by rw [List.flatten_append, List.flatten_singleton]
  refine ⟨?_, fun u hu => ?_, .inl ?_⟩
  · rw [hf]
    refine List.nodup_append.mpr ⟨g.nd, nodup_filter (states_nd t), fun a ha b hb e => ?_⟩
    subst e
    have q := (List.mem_filter.mp hb).2
    have z : l.flatten.contains a = true := by simpa using ha
    unfold isNew at q
    rw [z] at q
    simp at q
  · rw [hf] at hu
    rcases List.mem_append.mp hu with q | q
    · exact g.sub u q
    · exact (List.mem_filter.mp q).1
  · have h1 : 0 < (fresh t who l).length := List.length_pos_iff.mpr h
    rw [hf, List.length_append, List.length_append, List.length_singleton]
    rcases g.len with q | q
    · omega
    · have h2 : l.flatten ≠ [] := fun z => h (fresh_nil z)
      have h3 : 0 < l.flatten.length := List.length_pos_iff.mpr h2
      omega
/-- a list without doubles within another is no longer -/
theorem nodup_sub_len {α : Type} [BEq α] [LawfulBEq α] : ∀ (a b : List α), a.Nodup → (∀ x ∈ a, x ∈ b) → a.length ≤ b.length
  | [], b, _, _ => Nat.zero_le _
  | x :: a, b, nd, h => by
    obtain ⟨h1, h2⟩ := List.nodup_cons.mp nd
    have hx := h x (List.mem_cons_self ..)
    have q := nodup_sub_len a (b.erase x) h2 fun y hy => by
      have ne : y ≠ x := fun z => h1 (z ▸ hy)
      exact (List.mem_erase_of_ne ne).mpr (h y (List.mem_cons_of_mem _ hy))
    have e := List.length_erase_of_mem hx
    have p : 0 < b.length := List.length_pos_of_mem hx
    rw [List.length_cons]
    omega
theorem good_len {t : Task} {l : List (List State)} (g : Good t l) : l.flatten.length ≤ total t := by
  rw [← states_len]
  exact nodup_sub_len _ _ g.nd g.sub
theorem fresh_full {t : Task} {who : Nat} {l : List (List State)} (g : Good t l) (h : total t ≤ l.length) : fresh t who l = [] := by
  have h2 : total t ≤ l.flatten.length := by
    rcases g.len with q | q
    · omega
    · have := total_pos t
      omega
  have all : ∀ u ∈ t.states, u ∈ l.flatten := fun u hu => by
    by_cases c : u ∈ l.flatten
    · exact c
    · have q := nodup_sub_len (u :: l.flatten) t.states (List.nodup_cons.mpr ⟨c, g.nd⟩) fun x hx => by
        rcases List.mem_cons.mp hx with e | e
        · rw [e]; exact hu
        · exact g.sub x e
      rw [states_len, List.length_cons] at q
      omega
  unfold fresh
  rw [List.filter_eq_nil_iff]
  intro u hu
  have z : l.flatten.contains u = true := by simpa using all u hu
  unfold isNew
  rw [z]
  simp
/-- behind i rounds -/
structure Round (t : Task) (who i : Nat) (l : List (List State)) : Prop where
  good : Good t l
  len : l.length = i + 1
  rest : t.levels who (total t - i) l = t.forced who
theorem round_start (t : Task) (who : Nat) : Round t who 0 (start t who) := ⟨good_start t who, rfl, rfl⟩
theorem round_stop {t : Task} {who i : Nat} {l : List (List State)} (r : Round t who i l) (hi : i < total t) (h : fresh t who l = []) : l = t.forced who := by
  rw [← r.rest, show total t - i = (total t - i - 1) + 1 by omega, levels_succ, h]
  rfl
theorem round_next {t : Task} {who i : Nat} {l : List (List State)} (r : Round t who i l) (hi : i < total t) (h : fresh t who l ≠ []) : Round t who (i + 1) (l ++ [fresh t who l]) := by
  refine ⟨good_step r.good h, by rw [List.length_append, r.len]; rfl, ?_⟩
  rw [← r.rest, show total t - i = (total t - (i + 1)) + 1 by omega, levels_succ, if_neg (by simpa using h)]
theorem round_end {t : Task} {who i : Nat} {l : List (List State)} (r : Round t who i l) (hi : i + 1 = total t) : l = t.forced who :=
  round_stop r (by omega) (fresh_full r.good (by rw [r.len]; omega))
theorem good_forced (t : Task) (who : Nat) : Good t (t.forced who) := by
  suffices h : ∀ n l, Good t l → Good t (t.levels who n l) from h _ _ (good_start t who)
  intro n
  induction n with
  | zero => intro l g; exact g
  | succ n ih =>
    intro l g
    rw [levels_succ]
    by_cases c : fresh t who l = []
    · rw [c]; exact g
    · rw [if_neg (by simpa using c)]
      exact ih _ (good_step g c)
/-! ### the best move -/
def minBy (key : Nat → Nat) (x : Nat) (l : List Nat) : Nat := l.foldl (fun y z => if key z < key y then z else y) x
def maxBy (key : Nat → Nat) (x : Nat) (l : List Nat) : Nat := l.foldl (fun y z => if key y < key z then z else y) x
theorem fold_pair_min (key : Nat → Nat) : ∀ (l : List Nat) (x : Nat), ((l.map fun k => (key k, k)).foldl (fun (y : Nat × Nat) z => if z.1 < y.1 then z else y) (key x, x)) = (key (minBy key x l), minBy key x l)
  | [], x => rfl
  | a :: l, x => by
    rw [List.map_cons, List.foldl_cons]
    unfold minBy
    rw [List.foldl_cons]
    by_cases c : key a < key x
    · rw [if_pos c, if_pos (show ((key a, a) : Nat × Nat).1 < ((key x, x) : Nat × Nat).1 from c)]
      exact fold_pair_min key l a
    · rw [if_neg c, if_neg (show ¬ ((key a, a) : Nat × Nat).1 < ((key x, x) : Nat × Nat).1 from c)]
      exact fold_pair_min key l x
theorem fold_pair_max (key : Nat → Nat) : ∀ (l : List Nat) (x : Nat), ((l.map fun k => (key k, k)).foldl (fun (y : Nat × Nat) z => if y.1 < z.1 then z else y) (key x, x)) = (key (maxBy key x l), maxBy key x l)
  | [], x => rfl
  | a :: l, x => by
    rw [List.map_cons, List.foldl_cons]
    unfold maxBy
    rw [List.foldl_cons]
    by_cases c : key x < key a
    · rw [if_pos c, if_pos (show ((key x, x) : Nat × Nat).1 < ((key a, a) : Nat × Nat).1 from c)]
      exact fold_pair_max key l a
    · rw [if_neg c, if_neg (show ¬ ((key x, x) : Nat × Nat).1 < ((key a, a) : Nat × Nat).1 from c)]
      exact fold_pair_max key l x
theorem filterMap_key (lv : Nat → Option Nat) : ∀ m : List Nat, (m.filterMap fun k => (lv k).map fun n => (n, k)) = (m.filter fun k => (lv k).isSome).map fun k => ((lv k).getD 0, k)
  | [] => rfl
  | a :: m => by
    rw [List.filterMap_cons, List.filter_cons]
    cases e : lv a with
    | none =>
      simp only [Option.map_none, Option.isSome_none, Bool.false_eq_true, if_false]
      exact filterMap_key lv m
    | some n =>
      simp only [Option.map_some, Option.isSome_some, if_true, List.map_cons, e, Option.getD_some]
      rw [filterMap_key lv m]
/-- the best move as the program finds it: mine, theirs: in how many moves it is forced behind a move -/
def bestOf (mine theirs : Nat → Option Nat) (m : List Nat) : Option Nat := match m.filter fun k => (mine k).isSome with
  | x :: l => some (minBy (fun k => (mine k).getD 0) x l)
  | [] => match m.filter fun k => !(theirs k).isSome with
    | k :: _ => some k
    | [] => match m with
      | x :: l => some (maxBy (fun k => (theirs k).getD 0) x l)
      | [] => none
theorem find_filter {p : Nat → Bool} : ∀ m : List Nat, m.find? p = (m.filter p).head?
  | [] => rfl
  | a :: m => by
    rw [List.find?_cons, List.filter_cons]
    cases p a with
    | true => rfl
    | false => exact find_filter m
theorem best_eq (t : Task) (a b : List (List State)) (u : State) : t.best a b u = bestOf (fun k => level (if u.turn = 0 then a else b) (t.move u k)) (fun k => level (if u.turn = 0 then b else a) (t.move u k)) (t.moves u) := by
  unfold Task.best bestOf
  generalize (if u.turn = 0 then a else b) = mine
  generalize (if u.turn = 0 then b else a) = theirs
  simp only []
  rw [filterMap_key fun k => level mine (t.move u k), filterMap_key fun k => level theirs (t.move u k)]
  generalize t.moves u = m
  cases e : m.filter fun k => (level mine (t.move u k)).isSome with
  | cons x l =>
    simp only [List.map_cons]
    rw [fold_pair_min fun k => (level mine (t.move u k)).getD 0]
  | nil =>
    simp only [List.map_nil]
    have hn : (fun k => (level theirs (t.move u k)).isNone) = fun k => !(level theirs (t.move u k)).isSome := by
      funext k
      cases level theirs (t.move u k) <;> rfl
    rw [hn, find_filter]
    cases e2 : m.filter fun k => !(level theirs (t.move u k)).isSome with
    | cons x l => rfl
    | nil =>
      have all : m.filter (fun k => (level theirs (t.move u k)).isSome) = m := by
        rw [List.filter_eq_self]
        intro k hk
        have q := List.filter_eq_nil_iff.mp e2 k hk
        cases z : level theirs (t.move u k) with
        | none => rw [z] at q; exact absurd rfl q
        | some n => rfl
      rw [all]
      cases m with
      | nil => rfl
      | cons x l =>
        simp only [List.head?_nil, List.map_cons]
        rw [fold_pair_max fun k => (level theirs (t.move u k)).getD 0]
theorem best_none (t : Task) (a b : List (List State)) (u : State) : t.best a b u = none ↔ t.moves u = [] := by
  rw [best_eq]
  unfold bestOf
  constructor
  · intro h
    split at h
    · cases h
    · split at h
      · cases h
      · split at h
        · cases h
        · rename_i e; exact e
  · intro h
    rw [h]
    rfl
theorem minBy_mem (key : Nat → Nat) : ∀ (l : List Nat) (x : Nat), minBy key x l ∈ x :: l
  | [], x => List.mem_singleton.mpr rfl
  | a :: l, x => by
    have e : minBy key x (a :: l) = minBy key (if key a < key x then a else x) l := rfl
    rw [e]
    have q := minBy_mem key l (if key a < key x then a else x)
    rcases List.mem_cons.mp q with q | q
    · rw [q]
      by_cases c : key a < key x
      · rw [if_pos c]; exact List.mem_cons_of_mem _ (List.mem_cons_self ..)
      · rw [if_neg c]; exact List.mem_cons_self ..
    · exact List.mem_cons_of_mem _ (List.mem_cons_of_mem _ q)
theorem maxBy_mem (key : Nat → Nat) : ∀ (l : List Nat) (x : Nat), maxBy key x l ∈ x :: l
  | [], x => List.mem_singleton.mpr rfl
  | a :: l, x => by
    have e : maxBy key x (a :: l) = maxBy key (if key x < key a then a else x) l := rfl
    rw [e]
    have q := maxBy_mem key l (if key x < key a then a else x)
    rcases List.mem_cons.mp q with q | q
    · rw [q]
      by_cases c : key x < key a
      · rw [if_pos c]; exact List.mem_cons_of_mem _ (List.mem_cons_self ..)
      · rw [if_neg c]; exact List.mem_cons_self ..
    · exact List.mem_cons_of_mem _ (List.mem_cons_of_mem _ q)
/-- the best move is a move -/
theorem best_mem {t : Task} {a b : List (List State)} {u : State} {k : Nat} (h : t.best a b u = some k) : k ∈ t.moves u := by
  rw [best_eq] at h
  unfold bestOf at h
  split at h
  · rename_i x l e
    cases h
    have q := minBy_mem (fun k => (level (if u.turn = 0 then a else b) (t.move u k)).getD 0) l x
    rw [← e] at q
    exact (List.mem_filter.mp q).1
  · split at h
    · rename_i x l e
      cases h
      have q : k ∈ k :: l := List.mem_cons_self ..
      rw [← e] at q
      exact (List.mem_filter.mp q).1
    · split at h
      · rename_i x l e
        cases h
        rw [e]
        exact maxBy_mem _ l x
      · cases h
/-! ### the line -/
theorem line_some {t : Task} {a b : List (List State)} {n k : Nat} {u : State} (h : t.best a b u = some k) : t.line a b (n + 1) u = k :: t.line a b n (t.move u k) := by
  show (match t.best a b u with | some k => k :: t.line a b n (t.move u k) | none => []) = _
  rw [h]
theorem line_none {t : Task} {a b : List (List State)} {u : State} (h : t.best a b u = none) : ∀ n, t.line a b n u = []
  | 0 => rfl
  | n + 1 => by
    show (match t.best a b u with | some k => k :: t.line a b n (t.move u k) | none => []) = _
    rw [h]
/-! ### what the one can force the other can't -/
inductive Forces (t : Task) (who : Nat) : State → Prop
  | won {u : State} : t.won u = who → Forces t who u
  | own {u : State} {k : Nat} : u.turn + 1 = who → k ∈ t.moves u → Forces t who (t.move u k) → Forces t who u
  | other {u : State} {k : Nat} : k ∈ t.moves u → (∀ j ∈ t.moves u, Forces t who (t.move u j)) → Forces t who u
theorem moves_won {t : Task} {u : State} (h : t.won u ≠ 0) : t.moves u = [] := if_pos h
theorem forces_apart {t : Task} {a b : Nat} (ha : a ≠ 0) (hb : b ≠ 0) (ne : a ≠ b) {u : State} (h : Forces t a u) : ¬ Forces t b u := by
  induction h with
  | @won u e =>
    intro q
    have m : t.moves u = [] := moves_won (by rw [e]; exact ha)
    cases q with
    | won e2 => exact ne (e.symm.trans e2)
    | own _ k _ => rw [m] at k; cases k
    | other k _ => rw [m] at k; cases k
  | own e k _ ih =>
    intro q
    cases q with
    | won e2 => rw [moves_won (by rw [e2]; exact hb)] at k; cases k
    | own e2 _ _ => exact ne (e.symm.trans e2)
    | other _ f => exact ih (f _ k)
  | other k _ ih =>
    intro q
    cases q with
    | won e2 => rw [moves_won (by rw [e2]; exact hb)] at k; cases k
    | own _ k2 f => exact ih _ k2 f
    | other _ f => exact ih _ k (f _ k)
theorem fresh_forces {t : Task} {who : Nat} {l : List (List State)} (h : ∀ v ∈ l.flatten, Forces t who v) : ∀ u ∈ fresh t who l, Forces t who u := by
  intro u hu
  have q := (List.mem_filter.mp hu).2
  unfold isNew at q
  rw [Bool.and_eq_true] at q
  have q := q.2
  dsimp only at q
  by_cases c : u.turn + 1 = who
  · rw [if_pos c] at q
    obtain ⟨k, hk, hc⟩ := List.any_eq_true.mp q
    exact .own c hk (h _ (by simpa using hc))
  · rw [if_neg c, Bool.and_eq_true] at q
    obtain ⟨q1, q2⟩ := q
    have all := List.all_eq_true.mp q2
    cases hm : t.moves u with
    | nil => rw [hm] at q1; cases q1
    | cons k r => exact .other (k := k) (by rw [hm]; exact List.mem_cons_self ..) fun j hj => h _ (by simpa using all j hj)
theorem forced_forces (t : Task) (who : Nat) : ∀ u ∈ (t.forced who).flatten, Forces t who u := by
  suffices h : ∀ n l, (∀ v ∈ l.flatten, Forces t who v) → ∀ v ∈ (t.levels who n l).flatten, Forces t who v from h _ _ fun v hv => by
    have hv : v ∈ (start t who).flatten := hv
    unfold start at hv
    rw [List.flatten_singleton] at hv
    exact .won (beq_iff_eq.mp (List.mem_filter.mp hv).2)
  intro n
  induction n with
  | zero => intro l h; exact h
  | succ n ih =>
    intro l h
    rw [levels_succ]
    by_cases c : fresh t who l = []
    · rw [c]; exact h
    · rw [if_neg (by simpa using c)]
      refine ih _ fun v hv => ?_
      rw [List.flatten_append, List.flatten_singleton] at hv
      rcases List.mem_append.mp hv with q | q
      · exact h v q
      · exact fresh_forces h v q
/-- both together are no more than all states -/
theorem counts_le (t : Task) : (t.forced 1).flatten.length + (t.forced 2).flatten.length ≤ total t := by
  have g1 := good_forced t 1
  have g2 := good_forced t 2
  rw [← states_len, ← List.length_append]
  refine nodup_sub_len _ _ (List.nodup_append.mpr ⟨g1.nd, g2.nd, fun a ha b hb e => ?_⟩) fun x hx => ?_
  · subst e
    exact forces_apart (by decide) (by decide) (by decide) (forced_forces t 1 a ha) (forced_forces t 2 a hb)
  · rcases List.mem_append.mp hx with q | q
    · exact g1.sub x q
    · exact g2.sub x q
end Ao
set_option Elab.async false
set_option maxRecDepth 100000
set_option maxHeartbeats 2000000
namespace Ao
open PySem PySem.Spec PyProof.Rows L2
/-! ### the text by places -/
def top (i : Nat) : Stmt := PySem.Challenge.pw_againstother_s01_answers.main.body.getD i (.Pass ⟨0, 0, 0, 0⟩)
/-! ### heaps: all but tables of code objects stay -/
abbrev Ext (H H' : Hp) : Prop := LamX.ExtN H H'
theorem Ext.refl (H : Hp) : Ext H H := LamX.ExtN.refl H
theorem Ext.of {H H' : Hp} (s : Same H H') : Ext H H' := fun b o e _ => s b o e
theorem Ext.trans {H H1 H2 : Hp} (a : Ext H H1) (b : Ext H1 H2) : Ext H H2 := LamX.ExtN.trans a b
theorem Ext.seqL {K : PySem.W.Frag} {H H' : Hp} {a : Addr} {xs : List V} (e : Ext H H') (h : SqL K H a xs) : SqL K H' a xs := by
  rcases h with (h | ⟨ob, h⟩) | h
  · exact .inl (.inl (e _ _ h fun ps z => by cases z))
  · exact .inl (.inr ⟨ob, e _ _ h fun ps z => by cases z⟩)
  · exact .inr h
theorem Ext.seqT {K : PySem.W.Frag} {H H' : Hp} {a : Addr} {xs : List V} (e : Ext H H') (h : SqT K H a xs) : SqT K H' a xs := by
  rcases h with (h | ⟨ob, h⟩) | h
  · exact .inl (.inl (e _ _ h fun ps z => by cases z))
  · exact .inl (.inr ⟨ob, e _ _ h fun ps z => by cases z⟩)
  · exact .inr h
theorem Same.upd {H : Hp} {p : Addr} {o : HO} (np : H p = none) : Same H (upd H p o) := fun b u e => by
  rw [upd_ne (ne_of_none e np)]
  exact e
/-! ### fields -/
section
variable {f g : Str} {u v : V} {fs : List (Str × V)}
theorem lk_here : ((f, v) :: fs).lookup f = some v := List.lookup_cons_self
theorem lk_past (apart : (f == g) = false) : ((g, v) :: fs).lookup f = fs.lookup f := by
  rw [List.lookup_cons, apart]
theorem put_here : putF f v ((f, u) :: fs) = (f, v) :: fs := if_pos (Eq.refl f)
theorem put_past (apart : ¬ g = f) : putF f v ((g, u) :: fs) = (g, u) :: putF f v fs := if_neg apart
end
theorem put_nil {f : Str} {v : V} : putF f v [] = [(f, v)] := rfl
/-! ### the data -/
abbrev nI (n : Nat) : V := .int (n : Int)
def bN (b : Bool) : Nat := if b = true then 1 else 0
def actF (a : Pn13.Act) : List (Str × V) := [("whose", nI a.whose), ("needs", nI a.pre), ("bars", nI a.no), ("brings", nI a.add), ("takes", nI a.del)]
def gameF (t : Pn13.Task) (wa ma la : Addr) : List (Str × V) := [("facts", nI t.facts), ("wants", .ref wa), ("may_pass", .ref ma), ("acts", .ref la)]
/-- an act stands at a -/
def ActAt (CA : Addr) (H : Hp) (a : Addr) (t : Pn13.Act) : Prop := ∃ dx, H a = some (.ins CA dx (actF t))
/-- a game stands at g, its list of acts at la -/
structure GameL (K : PySem.W.Frag) (CA CG : Addr) (H : Hp) (g la : Addr) (as : List Addr) (t : Pn13.Task) : Prop where
  ob : ∃ dx wa ma, H g = some (.ins CG dx (gameF t wa ma la)) ∧ SqT K H wa [nI t.goal, nI t.against] ∧ SqT K H ma [nI (bN t.pass0), nI (bN t.pass1)]
  lst : H la = some (.lst (as.map V.ref))
  len : as.length = t.acts.length
  acts : ∀ (i : Nat) (a : Addr), as[i]? = some a → ∃ x, t.acts[i]? = some x ∧ ActAt CA H a x
  few : t.acts.length ≤ 10
  fc : t.facts ≤ 4
def GameAt (K : PySem.W.Frag) (CA CG : Addr) (H : Hp) (g : Addr) (t : Pn13.Task) : Prop := ∃ la as, GameL K CA CG H g la as t
theorem GameL.ext {K : PySem.W.Frag} {CA CG : Addr} {H H' : Hp} {g la : Addr} {as : List Addr} {t : Pn13.Task} (x : GameL K CA CG H g la as t) (e : Ext H H') : GameL K CA CG H' g la as t := by
  obtain ⟨dx, wa, ma, h1, h2, h3⟩ := x.ob
  refine ⟨⟨dx, wa, ma, (e _ _ h1 fun ps z => nomatch z), e.seqT h2, e.seqT h3⟩, (e _ _ x.lst fun ps z => nomatch z), x.len, fun i a ha => ?_, x.few, x.fc⟩
  obtain ⟨y, h4, dy, h5⟩ := x.acts i a ha
  exact ⟨y, h4, dy, e _ _ h5 fun ps z => by cases z⟩
theorem GameAt.ext {K : PySem.W.Frag} {CA CG : Addr} {H H' : Hp} {g : Addr} {t : Pn13.Task} (x : GameAt K CA CG H g t) (e : Ext H H') : GameAt K CA CG H' g t := by
  obtain ⟨la, as, x⟩ := x
  exact ⟨la, as, x.ext e⟩
/-! ### fields read -/
theorem actF_whose (a : Pn13.Act) : (actF a).lookup ("whose" : Str) = some (nI a.whose) := lk_here
theorem actF_needs (a : Pn13.Act) : (actF a).lookup ("needs" : Str) = some (nI a.pre) := (lk_past (by decide +kernel)).trans lk_here
theorem actF_bars (a : Pn13.Act) : (actF a).lookup ("bars" : Str) = some (nI a.no) := (lk_past (by decide +kernel)).trans ((lk_past (by decide +kernel)).trans lk_here)
theorem actF_brings (a : Pn13.Act) : (actF a).lookup ("brings" : Str) = some (nI a.add) := (lk_past (by decide +kernel)).trans ((lk_past (by decide +kernel)).trans ((lk_past (by decide +kernel)).trans lk_here))
theorem actF_takes (a : Pn13.Act) : (actF a).lookup ("takes" : Str) = some (nI a.del) := (lk_past (by decide +kernel)).trans ((lk_past (by decide +kernel)).trans ((lk_past (by decide +kernel)).trans ((lk_past (by decide +kernel)).trans lk_here)))
theorem gameF_facts (t : Pn13.Task) (wa ma la : Addr) : (gameF t wa ma la).lookup ("facts" : Str) = some (nI t.facts) := lk_here
theorem gameF_wants (t : Pn13.Task) (wa ma la : Addr) : (gameF t wa ma la).lookup ("wants" : Str) = some (.ref wa) := (lk_past (by decide +kernel)).trans lk_here
theorem gameF_may (t : Pn13.Task) (wa ma la : Addr) : (gameF t wa ma la).lookup ("may_pass" : Str) = some (.ref ma) := (lk_past (by decide +kernel)).trans ((lk_past (by decide +kernel)).trans lk_here)
theorem gameF_acts (t : Pn13.Task) (wa ma la : Addr) : (gameF t wa ma la).lookup ("acts" : Str) = some (.ref la) := (lk_past (by decide +kernel)).trans ((lk_past (by decide +kernel)).trans ((lk_past (by decide +kernel)).trans lk_here))
/-! ### what the top has written -/
structure TxtA (K : PySem.W.Frag) (CA : Addr) : Prop where
  cl : Cls K CA
  nW : NoAttr K CA "whose"
  nN : NoAttr K CA "needs"
  nB : NoAttr K CA "bars"
  nR : NoAttr K CA "brings"
  nT : NoAttr K CA "takes"
structure TxtG (K : PySem.W.Frag) (CG : Addr) : Prop where
  cl : Cls K CG
  nF : NoAttr K CG "facts"
  nW : NoAttr K CG "wants"
  nM : NoAttr K CG "may_pass"
  nA : NoAttr K CG "acts"
structure TxtB (mg : Str → Option Value) : Prop where
  len : mg "len" = none
  range : mg "range" = none
  any : mg "any" = none
  all : mg "all" = none
  min : mg "min" = none
  max : mg "max" = none
/-- a def of the top, with its promise -/
structure FnIs (P : Program) (w : World) (K : PySem.W.Frag) (mg : Str → Option Value) (base : Heap) (k : Nat) (x : Str) (ps : List Str) (sp : Sp) (f : Addr) (fd : FuncData) : Prop where
  gl : mg x = some (.ref f)
  kp : (PySem.W.keepIn K (.ref f)) = true
  b : Binds K fd ps []
  ok : FnOk P w K mg base CX0 k f fd ps sp
/-! ### tests -/
theorem ifT {c : Bool} {A B : Prop} (hc : c = true) (h : A) : if c = true then A else B := by
  subst hc
  exact iteT h
theorem ifF {c : Bool} {A B : Prop} (hc : c = false) (h : B) : if c = true then A else B := by
  subst hc
  exact iteF h
/-! ### numbers -/
theorem dec_eq_nat (a b : Nat) : decide ((a : Int) = (b : Int)) = decide (a = b) := by
  by_cases h : a = b
  · rw [decide_eq_true h, decide_eq_true (by rw [h])]
  · rw [decide_eq_false h, decide_eq_false (by omega)]
theorem and_nat (a b : Nat) : Builtin.bitAnd (a : Int) (b : Int) = ((a &&& b : Nat) : Int) := by
  rw [bitAnd_pp (Int.natCast_nonneg _) (Int.natCast_nonneg _), Int.toNat_natCast, Int.toNat_natCast]
theorem or_nat (a b : Nat) : Builtin.bitOr (a : Int) (b : Int) = ((a ||| b : Nat) : Int) := by
  rw [Bits.bitOr_pp (Int.natCast_nonneg _) (Int.natCast_nonneg _), Int.toNat_natCast, Int.toNat_natCast]
theorem andnot_nat (a b : Nat) : Builtin.bitAnd (a : Int) (Builtin.bitNot (b : Int)) = ((a - (a &&& b) : Nat) : Int) := by
  have h : ¬ (0 : Int) ≤ Builtin.bitNot (b : Int) := by
    unfold Builtin.bitNot
    omega
  have e : Builtin.bitNot (Builtin.bitNot (b : Int)) = (b : Int) := by
    unfold Builtin.bitNot
    omega
  rw [bitAnd_pn (Int.natCast_nonneg _) h, e, Int.toNat_natCast, Int.toNat_natCast]
  have q : a &&& b ≤ a := Nat.and_le_left
  omega
theorem within_nat (g s : Nat) : decide (V.int (Builtin.bitAnd (s : Int) (g : Int)) = V.int (g : Int)) = Pn13.within g s := by
  unfold Pn13.within
  rw [and_nat]
  have e : (V.int ((s &&& g : Nat) : Int) = V.int (g : Int)) ↔ (g &&& s = g) := by
    rw [V.int.injEq, Nat.and_comm]
    omega
  show decide _ = ((g &&& s) == g)
  by_cases c : g &&& s = g
  · rw [decide_eq_true (e.mpr c), beq_iff_eq.mpr c]
  · rw [decide_eq_false (fun z => c (e.mp z))]
    exact (beq_eq_false_iff_ne.mpr c).symm
theorem half (n : Nat) : (n : Int) / 2 = ((Ao.decS n).s : Int) := by
  show _ = ((n / 2 : Nat) : Int)
  omega
theorem odd (n : Nat) : (n : Int) % 2 = ((Ao.decS n).turn : Int) := by
  show _ = ((n % 2 : Nat) : Int)
  omega
end Ao
set_option Elab.async false
set_option maxRecDepth 100000
set_option maxHeartbeats 2000000
namespace Ao
open PySem PySem.Spec PyProof.Rows L2
abbrev sWinner : Stmt := top 6
abbrev sMay : Stmt := top 7
section
variable {P : Program} {w : World} {K : PySem.W.Frag} {mg : Str → Option Value} {base : Heap} {CA CG : Addr}
/-! ### winner -/
def spWinner (K : PySem.W.Frag) (CA CG : Addr) : Sp := fun vs H Q _ => ∃ (g : Addr) (t : Pn13.Task) (n : Nat), vs = [.ref g, nI n] ∧ GameAt K CA CG H g t ∧ Q (nI (t.won (decS n))) H
theorem scWinner : FnScope ["game", "state", "so", "first", "second"] ["game", "state"] (defScope sWinner) := ⟨rfl, rfl, rfl, by decide +kernel, rfl, by decide +kernel, by decide +kernel⟩
theorem ok_winner {f : Addr} {fd : FuncData} (F : Fun K "winner" "winner" sWinner f fd) (TG : TxtG K CG) : FnOk P w K mg base CX0 1 f fd ["game", "state"] (spWinner K CA CG) := by
  refine F.ok scWinner (fun vs H Q E h => ?_) (fun cdv A outer s H vs Q E hr h => ?_)
  · obtain ⟨p, dx, n, rfl, _⟩ := h
    rfl
  · obtain ⟨g, t, n, rfl, G, k⟩ := h
    refine ⟨_, pss_cons (ps_set (i := 2) scWinner.nd rfl (Or.inl rfl) (pe_op op_fdiv (pv 1) pe_int))
      (pss_cons (ps_set (i := 3) scWinner.nd rfl (Or.inl rfl) (pe_cmpR op_eq (pe_op op_and (pv 2) (pe_ix ix_tup (pe_fld (pv 0) rfl) pe_int (fun _ _ => rfl))) (pe_ix ix_tup (pe_fld (pv 0) rfl) pe_int (fun _ _ => rfl)) (nomark _)))
      (pss_cons (ps_set (i := 4) scWinner.nd rfl (Or.inl rfl) (pe_cmpR op_eq (pe_op op_and (pv 2) (pe_ix ix_tup (pe_fld (pv 0) rfl) pe_int (fun _ _ => rfl))) (pe_ix ix_tup (pe_fld (pv 0) rfl) pe_int (fun _ _ => rfl)) (nomark _)))
      (pss_cons (ps_if (PW.pt (pw_and (pt_val (pv 3)) (pw_and1 (pt_val (pv 4))))) (pss_one (ps_ret (pe_op op_sub pe_int (pe_op op_mod (pv 1) pe_int)))) pss_nil)
      (pss_cons (ps_if (pt_val (pv 3)) (pss_one (ps_ret pe_int)) pss_nil)
      (pss_cons (ps_if (pt_val (pv 4)) (pss_one (ps_ret pe_int)) pss_nil)
      (pss_one (ps_ret pe_int))))))), ?_⟩
    obtain ⟨la, as, ⟨dx, wa, ma, h1, h2, h3⟩, _, _, _, _, _⟩ := G
    refine ⟨_, rfl, _, _, rfl, rfl, ⟨by decide, by decide⟩, ?_⟩
    dsimp only
    rw [half n]
    refine ⟨_, rfl, _, rfl, g, CG, dx, _, _, rfl, h1, TG.cl, TG.nW, gameF_wants _ _ _ _, wa, _, _, _, rfl, rfl, h2, rfl, _, _, rfl, rfl, _, rfl, g, CG, dx, _, _, rfl, h1, TG.cl, TG.nW, gameF_wants _ _ _ _, wa, _, _, _, rfl, rfl, h2, rfl, rfl, ?_⟩
    dsimp only
    rw [within_nat]
    refine ⟨_, rfl, _, rfl, g, CG, dx, _, _, rfl, h1, TG.cl, TG.nW, gameF_wants _ _ _ _, wa, _, _, _, rfl, rfl, h2, rfl, _, _, rfl, rfl, _, rfl, g, CG, dx, _, _, rfl, h1, TG.cl, TG.nW, gameF_wants _ _ _ _, wa, _, _, _, rfl, rfl, h2, rfl, rfl, ?_⟩
    dsimp only
    rw [within_nat]
    have hw : t.won (decS n) = (if Pn13.within t.goal (decS n).s = true ∧ Pn13.within t.against (decS n).s = true then (if (decS n).turn = 1 then 1 else 2) else if Pn13.within t.goal (decS n).s = true then 1 else if Pn13.within t.against (decS n).s = true then 2 else 0) := rfl
    rw [hw] at k
    generalize Pn13.within t.goal (decS n).s = a at k ⊢
    generalize Pn13.within t.against (decS n).s = b at k ⊢
    have ht := decS_turn n
    refine ⟨_, rfl, _, rfl, ?_⟩
    cases a with
    | true =>
      refine iteT ⟨_, rfl, _, rfl, ?_⟩
      cases b with
      | true =>
        refine iteT ⟨_, rfl, _, _, rfl, rfl, (by show (0 : Int) < 2; decide), _, _, rfl, rfl, ?_⟩
        dsimp only
        rw [odd n]
        rw [if_pos ⟨rfl, rfl⟩] at k
        have e : V.int (2 - ((decS n).turn : Int)) = nI (if (decS n).turn = 1 then 1 else 2) := by
          by_cases c : (decS n).turn = 1
          · rw [if_pos c, c]; rfl
          · rw [if_neg c, show (decS n).turn = 0 by omega]; rfl
        rw [e]
        exact k
      | false => exact iteF ⟨_, rfl, _, rfl, iteT k⟩
    | false =>
      refine iteF ⟨_, rfl, _, rfl, iteF ⟨_, rfl, _, rfl, ?_⟩⟩
      cases b with
      | true => exact iteT k
      | false => exact iteF k
end
end Ao
set_option Elab.async false
set_option maxRecDepth 100000
set_option maxHeartbeats 2000000
namespace Ao
open PySem PySem.Spec PyProof.Rows L2
abbrev sMoves : Stmt := top 8
theorem eqV_nat (a b : Nat) : decide (V.int (a : Int) = V.int (b : Int)) = (a == b) := by
  by_cases c : a = b
  · rw [c, decide_eq_true rfl]
    exact (beq_self_eq_true b).symm
  · rw [decide_eq_false (fun z => c (by injection z with z; omega))]
    exact (beq_eq_false_iff_ne.mpr c).symm
theorem whose_nat (a n : Nat) : decide (V.int (a : Int) = V.int ((n : Int) % 2)) = (a == (decS n).turn) := by
  rw [odd n]
  exact eqV_nat _ _
theorem bars_nat (s b : Nat) : decide (V.int (Builtin.bitAnd (s : Int) (b : Int)) = V.int 0) = (b.land s == 0) := by
  rw [and_nat, Nat.and_comm]
  exact eqV_nat (b &&& s) 0
def mayDo (a : Pn13.Act) (u : Pn13.State) : Bool := a.whose == u.turn && (Pn13.within a.pre u.s && a.no.land u.s == 0)
section
variable {P : Program} {w : World} {K : PySem.W.Frag} {mg : Str → Option Value} {base : Heap} {CA CG : Addr}
def spMay (CA : Addr) : Sp := fun vs H Q _ => ∃ (p : Addr) (a : Pn13.Act) (n : Nat), vs = [.ref p, nI n] ∧ ActAt CA H p a ∧ Q (.bl (mayDo a (decS n))) H
theorem scMay : FnScope ["act", "state", "so"] ["act", "state"] (defScope sMay) := ⟨rfl, rfl, rfl, by decide +kernel, rfl, by decide +kernel, by decide +kernel⟩
theorem ok_may {f : Addr} {fd : FuncData} (F : Fun K "may_be_done" "may_be_done" sMay f fd) (TA : TxtA K CA) : FnOk P w K mg base CX0 1 f fd ["act", "state"] (spMay CA) := by
  refine F.ok scMay (fun vs H Q E h => ?_) (fun cdv A outer s H vs Q E hr h => ?_)
  · obtain ⟨p, dx, n, rfl, _⟩ := h
    rfl
  · obtain ⟨p, a, n, rfl, ⟨dx, h1⟩, k⟩ := h
    refine ⟨_, pss_cons (ps_set (i := 2) scMay.nd rfl (Or.inl rfl) (pe_op op_fdiv (pv 1) pe_int))
      (pss_one (ps_ret (pe_and (pe_cmpR op_eq (pe_fld (pv 0) rfl) (pe_op op_mod (pv 1) pe_int) (nomark _)) (pe_and (pe_cmpR op_eq (pe_op op_and (pv 2) (pe_fld (pv 0) rfl)) (pe_fld (pv 0) rfl) (nomark _)) (pe_one (pe_cmpR op_eq (pe_op op_and (pv 2) (pe_fld (pv 0) rfl)) pe_int (nomark _))))))), ?_⟩
    refine ⟨_, rfl, _, _, rfl, rfl, ⟨by decide, by decide⟩, ?_⟩
    dsimp only
    rw [half n]
    refine ⟨_, rfl, p, CA, dx, _, _, rfl, h1, TA.cl, TA.nW, actF_whose _, _, rfl, _, _, rfl, rfl, (by show (0 : Int) < 2; decide), rfl, ?_⟩
    dsimp only
    rw [whose_nat]
    unfold mayDo at k
    generalize (a.whose == (decS n).turn) = c1 at k ⊢
    refine ⟨_, rfl, ?_⟩
    cases c1 with
    | false => exact iteF k
    | true =>
      refine iteT ⟨_, rfl, _, rfl, p, CA, dx, _, _, rfl, h1, TA.cl, TA.nN, actF_needs _, _, _, rfl, rfl, _, rfl, p, CA, dx, _, _, rfl, h1, TA.cl, TA.nN, actF_needs _, rfl, ?_⟩
      dsimp only
      rw [within_nat]
      generalize Pn13.within a.pre (decS n).s = c2 at k ⊢
      refine ⟨_, rfl, ?_⟩
      cases c2 with
      | false => exact iteF k
      | true =>
        refine iteT ⟨_, rfl, _, rfl, p, CA, dx, _, _, rfl, h1, TA.cl, TA.nB, actF_bars _, _, _, rfl, rfl, rfl, ?_⟩
        dsimp only
        rw [bars_nat]
        exact k
/-! ### moves_in -/
/-- a new list of whole numbers; all that was tracked stands -/
def newInts (H : Hp) (ns : List Nat) (Q : VK) : Prop := ∀ (p : Addr) (H' : Hp), Same H H' → H p = none → H' p = some (.lst (ns.map nI)) → Q (.ref p) H'
def spMoves (K : PySem.W.Frag) (CA CG : Addr) : Sp := fun vs H Q _ => ∃ (g : Addr) (t : Pn13.Task) (n : Nat), vs = [.ref g, nI n] ∧ GameAt K CA CG H g t ∧ newInts H (t.moves (decS n)) Q
theorem moves_eq (t : Pn13.Task) (u : Pn13.State) : t.moves u = if t.won u ≠ 0 then [] else ((List.range t.acts.length).filter fun k => mayDo (t.act k) u) ++ if t.passes u.turn = true then [t.acts.length] else [] := rfl
theorem range_filter_succ (p : Nat → Bool) (i : Nat) : (List.range (i + 1)).filter p = if p i = true then (List.range i).filter p ++ [i] else (List.range i).filter p := by
  rw [List.range_succ, List.filter_append]
  cases h : p i <;> simp [h]
theorem at_pass (t : Pn13.Task) (n : Nat) : atI [nI (bN t.pass0), nI (bN t.pass1)] ((n : Int) % 2) = some (nI (bN (t.passes (decS n).turn))) := by
  rw [odd n]
  have h := decS_turn n
  unfold Pn13.Task.passes
  by_cases c : (decS n).turn = 0
  · rw [if_pos c, c]
    rfl
  · rw [if_neg c, show (decS n).turn = 1 by omega]
    rfl
theorem bN_one (b : Bool) : decide (nI (bN b) = V.int 1) = b := by
  cases b with
  | true => rfl
  | false => rfl
theorem Same.seqT {K : PySem.W.Frag} {H H' : Hp} {a : Addr} {xs : List V} (e : Same H H') (h : SqT K H a xs) : SqT K H' a xs := Ext.seqT (Ext.of e) h
abbrev nMoves : List Str := ["game", "state", "moves", "number"]
theorem scMoves : FnScope nMoves ["game", "state"] (defScope sMoves) := ⟨rfl, rfl, rfl, by decide +kernel, rfl, by decide +kernel, by decide +kernel⟩
theorem ok_moves {f fW fM : Addr} {fd fdW fdM : FuncData} (F : Fun K "moves_in" "moves_in" sMoves f fd) (TG : TxtG K CG) (TB : TxtB mg) (W : FnIs P w K mg base 1 "winner" ["game", "state"] (spWinner K CA CG) fW fdW) (M : FnIs P w K mg base 1 "may_be_done" ["act", "state"] (spMay CA) fM fdM) :
    FnOk P w K mg base CX0 2 f fd ["game", "state"] (spMoves K CA CG) := by
  refine F.ok scMoves (fun vs H Q E h => ?_) (fun cdv A outer s H vs Q E hr h => ?_)
  · obtain ⟨p, dx, n, rfl, _⟩ := h
    rfl
  · obtain ⟨g, t, n, rfl, G, k⟩ := h
    refine ⟨_, pss_cons (ps_if (pt_cmpR op_ne (pe_call W.ok hr rfl W.gl W.kp W.b .nil pass0 (pa_cons (pv 0) (pa_cons (pv 1) pa_nil))) pe_int (nomark _)) (pss_one (ps_ret (pe_lst pa_nil))) pss_nil)
      (pss_cons (ps_setLc (i := 2) (own := [("number", 3)]) (g := gName 3) (tt := tB (tCall (spMay CA) [] E0 (tCons (tOp (rIxL K) (tFld K (tVar 0) "acts") (tVar 3)) (tCons (tVar 1) tNil)))) (te := tVar 3) (by rfl) scMoves.nd rfl rfl (sw_true rfl rfl rfl (by decide +kernel)) (pi_range1 rfl TB.range (pa_cons (pe_callB call_len_seq (by rfl) TB.len PySem.boot_len (pa_cons (pe_fld (pv 0) rfl) pa_nil)) pa_nil))
        (blkOk_by (own := [("number", 3)]) (N := nMoves) (sc := defScope sMoves) (by decide +kernel)) (fun _ _ _ _ _ => pg_name (i := 3) scMoves.nd rfl (Or.inl rfl))
        (fun _ _ _ _ _ => pts_one (pt_val (pe_call M.ok hr rfl M.gl M.kp M.b .nil pass0 (pa_cons (pe_ix ix_list (pe_fld (pv 0) rfl) (pv 3) (fun _ _ => rfl)) (pa_cons (pv 1) pa_nil))))) (fun _ _ _ _ _ => pv 3))
      (pss_cons (ps_if (pt_cmpR op_eq (pe_ix ix_tup (pe_fld (pv 0) rfl) (pe_op op_mod (pv 1) pe_int) (fun _ _ => rfl)) pe_int (nomark _))
        (pss_one (ps_expr (pe_bm PySem.F.plainAttrs_list PySem.F.slot_list_append PySem.F.type_list_append mt_append (pv 2) (pa_cons (pe_callB call_len_seq (by rfl) TB.len PySem.boot_len (pa_cons (pe_fld (pv 0) rfl) pa_nil)) pa_nil)))) pss_nil)
      (pss_one (ps_ret (pv 2))))), ?_⟩
    refine ⟨_, rfl, _, rfl, g, t, n, rfl, G, rfl, _, rfl, ?_⟩
    have hn : (!decide (nI (t.won (decS n)) = V.int 0)) = decide (t.won (decS n) ≠ 0) := by
      rw [show decide (nI (t.won (decS n)) = V.int 0) = (t.won (decS n) == 0) from eqV_nat _ 0]
      by_cases c : t.won (decS n) = 0
      · rw [c]; rfl
      · rw [decide_eq_true c, beq_eq_false_iff_ne.mpr c]; rfl
    rw [moves_eq] at k
    obtain ⟨la, as, GL⟩ := G
    obtain ⟨dx, wa, ma, h1, h2, h3⟩ := GL.ob
    by_cases c : t.won (decS n) = 0
    · rw [if_neg (by simpa using c)] at k
      refine ifF (by rw [hn]; simpa using c) ?_
      have few := GL.few
      refine ⟨_, rfl, g, CG, dx, _, _, rfl, h1, TG.cl, TG.nA, gameF_acts _ _ _ _, la, _, rfl, .inl (SqL.of GL.lst), (t.acts.length : Int), (by rw [List.length_map, GL.len]), by omega, by omega, fun D nD => ?_⟩
      refine lc_range (lo := 0) (n := t.acts.length) (fun i H' => H' D = some (.lst (((List.range i).filter fun k => mayDo (t.act k) (decS n)).map nI)) ∧ Same H H') ⟨upd_same, Same.upd nD⟩ (fun i H' hi ⟨hD, s2⟩ => ?_) (fun H' ⟨hD, s2⟩ => ?_)
      · dsimp only [gName]
        rw [Int.zero_add]
        obtain ⟨a, ha⟩ : ∃ a, as[i]? = some a := ⟨_, List.getElem?_eq_getElem (by rw [GL.len]; exact hi)⟩
        obtain ⟨x, hx, dy, hy⟩ := GL.acts i a ha
        have ex : t.act i = x := by
          show t.acts.getD i _ = x
          rw [List.getD_eq_getElem?_getD, hx]
          rfl
        refine ⟨rfl, _, rfl, g, CG, dx, _, _, rfl, s2 _ _ h1, TG.cl, TG.nA, gameF_acts _ _ _ _, _, rfl, la, _, _, _, rfl, rfl, SqL.of (s2 _ _ GL.lst), atI_nat (by rw [List.getElem?_map, ha]; rfl), _, rfl, a, x, n, rfl, ⟨dy, s2 _ _ hy⟩, _, rfl, ?_⟩
        rw [← ex]
        rw [range_filter_succ]
        cases hc : mayDo (t.act i) (decS n) with
        | false => exact iteF ⟨hD, s2⟩
        | true =>
          refine iteT ⟨_, rfl, _, hD, ?_, ?_, ?_⟩
          · rw [List.length_map]
            exact Nat.lt_of_le_of_lt (List.length_filter_le _ _) (by rw [List.length_range]; exact Nat.lt_of_lt_of_le (Nat.lt_of_lt_of_le hi few) (by decide))
          · rw [upd_same, if_pos rfl, List.map_append]
            rfl
          · exact fun b o e => by
              rw [upd_ne (ne_of_none e nD)]
              exact s2 b o e
      · refine ⟨_, rfl, g, CG, dx, _, _, rfl, s2 _ _ h1, TG.cl, TG.nM, gameF_may _ _ _ _, _, rfl, _, _, rfl, rfl, (by show (0 : Int) < 2; decide), ma, _, _, _, rfl, rfl, Same.seqT s2 h3, at_pass t n, rfl, _, rfl, ?_⟩
        have nDH : H D = none := nD
        refine ite2 (fun hc => ?_) (fun hc => ?_)
        · rw [bN_one] at hc
          rw [hc, if_pos rfl] at k
          refine ⟨_, rfl, .inl ⟨rfl, _, SqL.of hD⟩, _, rfl, g, CG, dx, _, _, rfl, s2 _ _ h1, TG.cl, TG.nA, gameF_acts _ _ _ _, la, _, rfl, .inl (SqL.of (s2 _ _ GL.lst)), D, _, _, rfl, rfl, hD, ?_, ?_⟩
          · rw [List.length_map]
            exact Nat.lt_of_le_of_lt (List.length_filter_le _ _) (by rw [List.length_range]; exact Nat.lt_of_le_of_lt few (by decide))
          · refine ⟨_, rfl, k D _ (fun b o e => ?_) nDH ?_⟩
            · rw [upd_ne (ne_of_none e nDH)]
              exact s2 b o e
            · rw [upd_same, List.map_append, List.length_map, GL.len]
              rfl
        · rw [bN_one] at hc
          rw [if_neg hc, List.append_nil] at k
          exact ⟨_, rfl, k D _ s2 nDH hD⟩
    · rw [if_pos (by simpa using c)] at k
      refine ifT (by rw [hn]; simpa using c) ⟨Nat.zero_le _, fun p hp => ?_⟩
      exact k p _ (Same.upd hp) hp upd_same
end
end Ao
set_option Elab.async false
set_option maxRecDepth 100000
set_option maxHeartbeats 2000000
namespace Ao
open PySem PySem.Spec PyProof.Rows L2
abbrev sStateOf : Stmt := top 3
abbrev sCount : Stmt := top 4
abbrev sAre : Stmt := top 5
abbrev sBehind : Stmt := top 9
abbrev sStates : Stmt := top 10
abbrev sIsF : Stmt := top 11
section
variable {P : Program} {w : World} {K : PySem.W.Frag} {mg : Str → Option Value} {base : Heap} {CA CG : Addr}
/-! ### state_of -/
def spStateOf : Sp := fun vs H Q _ => ∃ (s w : Nat), vs = [nI s, nI w] ∧ Q (nI (2 * s + w)) H
theorem scStateOf : FnScope ["so", "turn"] ["so", "turn"] (defScope sStateOf) := ⟨rfl, rfl, rfl, by decide +kernel, rfl, by decide +kernel, by decide +kernel⟩
theorem ok_stateOf {f : Addr} {fd : FuncData} (F : Fun K "state_of" "state_of" sStateOf f fd) : FnOk P w K mg base CX0 1 f fd ["so", "turn"] spStateOf := by
  refine F.ok scStateOf (fun vs H Q E h => ?_) (fun cdv A outer s H vs Q E hr h => ?_)
  · obtain ⟨a, b, rfl, _⟩ := h
    rfl
  · obtain ⟨a, b, rfl, k⟩ := h
    refine ⟨_, pss_one (ps_ret (pe_op op_add (pe_op op_mul pe_int (pv 0)) (pv 1))), ?_⟩
    refine ⟨_, rfl, _, _, rfl, rfl, .inl ⟨by decide, by decide⟩, _, rfl, _, _, rfl, rfl, ?_⟩
    dsimp only
    rw [show (2 : Int) * (a : Int) + (b : Int) = ((2 * a + b : Nat) : Int) by omega]
    exact k
/-! ### count_of_states -/
def spCount (K : PySem.W.Frag) (CA CG : Addr) : Sp := fun vs H Q _ => ∃ (g : Addr) (t : Pn13.Task), vs = [.ref g] ∧ GameAt K CA CG H g t ∧ Q (nI (total t)) H
theorem scCount : FnScope ["game"] ["game"] (defScope sCount) := ⟨rfl, rfl, rfl, by decide +kernel, rfl, by decide +kernel, by decide +kernel⟩
theorem two_pow_nat (k : Nat) : (2 : Int) ^ k = ((2 ^ k : Nat) : Int) := by
  rw [Int.natCast_pow]
  rfl
theorem ok_count {f : Addr} {fd : FuncData} (F : Fun K "count_of_states" "count_of_states" sCount f fd) (TG : TxtG K CG) : FnOk P w K mg base CX0 1 f fd ["game"] (spCount K CA CG) := by
  refine F.ok scCount (fun vs H Q E h => ?_) (fun cdv A outer s H vs Q E hr h => ?_)
  · obtain ⟨a, b, rfl, _⟩ := h
    rfl
  · obtain ⟨g, t, rfl, ⟨la, as, GL⟩, k⟩ := h
    obtain ⟨dx, wa, ma, h1, h2, h3⟩ := GL.ob
    have fc := GL.fc
    refine ⟨_, pss_one (ps_ret (pe_op op_mul pe_int (pe_op op_shl pe_int (pe_fld (pv 0) rfl)))), ?_⟩
    refine ⟨_, rfl, g, CG, dx, _, _, rfl, h1, TG.cl, TG.nF, gameF_facts _ _ _ _, _, _, rfl, rfl, ⟨by omega, by omega, by decide⟩, _, _, rfl, rfl, .inl ⟨by decide, by decide⟩, ?_⟩
    dsimp only
    rw [Int.toNat_natCast, Int.one_mul, two_pow_nat, show (2 : Int) * ((2 ^ t.facts : Nat) : Int) = ((2 * 2 ^ t.facts : Nat) : Int) by omega]
    exact k
/-! ### are_facts -/
def spAre : Sp := fun vs H Q _ => ∃ (n s : Nat), vs = [nI n, nI s] ∧ Q (.bl (decide (s < 2 ^ n))) H
theorem scAre : FnScope ["facts", "so"] ["facts", "so"] (defScope sAre) := ⟨rfl, rfl, rfl, by decide +kernel, rfl, by decide +kernel, by decide +kernel⟩
theorem shr_zero (s n : Nat) : decide (V.int ((s : Int) / 2 ^ ((n : Int).toNat)) = V.int 0) = decide (s < 2 ^ n) := by
  rw [Int.toNat_natCast, two_pow_nat, ← Int.natCast_ediv]
  have h := eqV_nat (s / 2 ^ n) 0
  have h : decide (V.int ((s / 2 ^ n : Nat) : Int) = V.int 0) = (s / 2 ^ n == 0) := h
  rw [h]
  have e : s / 2 ^ n = 0 ↔ s < 2 ^ n := Nat.div_eq_zero_iff_lt (Nat.pow_pos (by decide))
  by_cases c : s < 2 ^ n
  · rw [decide_eq_true c, e.mpr c]; rfl
  · rw [decide_eq_false c]
    exact beq_eq_false_iff_ne.mpr fun z => c (e.mp z)
theorem ok_are {f : Addr} {fd : FuncData} (F : Fun K "are_facts" "are_facts" sAre f fd) : FnOk P w K mg base CX0 1 f fd ["facts", "so"] spAre := by
  refine F.ok scAre (fun vs H Q E h => ?_) (fun cdv A outer s H vs Q E hr h => ?_)
  · obtain ⟨a, b, rfl, _⟩ := h
    rfl
  · obtain ⟨n, s, rfl, k⟩ := h
    refine ⟨_, pss_one (ps_ret (pe_cmpR op_eq (pe_op op_shr (pv 1) (pv 0)) pe_int (nomark _))), ?_⟩
    refine ⟨_, rfl, _, rfl, _, _, rfl, rfl, Int.natCast_nonneg _, rfl, ?_⟩
    dsimp only
    rw [shr_zero]
    exact k
/-! ### state_behind -/
def spBehind (K : PySem.W.Frag) (CA CG : Addr) : Sp := fun vs H Q _ => ∃ (g : Addr) (t : Pn13.Task) (n m : Nat), vs = [.ref g, nI n, nI m] ∧ GameAt K CA CG H g t ∧ m ≤ t.acts.length ∧ Q (nI (enc (t.move (decS n) m))) H
theorem scBehind : FnScope ["game", "state", "move", "so", "act"] ["game", "state", "move"] (defScope sBehind) := ⟨rfl, rfl, rfl, by decide +kernel, rfl, by decide +kernel, by decide +kernel⟩
theorem one_sub (n : Nat) : (1 : Int) - (n : Int) % 2 = ((1 - (decS n).turn : Nat) : Int) := by
  rw [odd n]
  have := decS_turn n
  omega
theorem ok_behind {f fS : Addr} {fd fdS : FuncData} (F : Fun K "state_behind" "state_behind" sBehind f fd) (TG : TxtG K CG) (TA : TxtA K CA) (TB : TxtB mg) (S : FnIs P w K mg base 1 "state_of" ["so", "turn"] spStateOf fS fdS) : FnOk P w K mg base CX0 2 f fd ["game", "state", "move"] (spBehind K CA CG) := by
  refine F.ok scBehind (fun vs H Q E h => ?_) (fun cdv A outer s H vs Q E hr h => ?_)
  · obtain ⟨a, b, c, d, rfl, _⟩ := h
    rfl
  · obtain ⟨g, t, n, m, rfl, ⟨la, as, GL⟩, hm, k⟩ := h
    obtain ⟨dx, wa, ma, h1, h2, h3⟩ := GL.ob
    refine ⟨_, pss_cons (ps_set (i := 3) scBehind.nd rfl (Or.inl rfl) (pe_op op_fdiv (pv 1) pe_int))
      (pss_cons (ps_if (pt_cmpR op_lt (pv 2) (pe_callB call_len_seq (by rfl) TB.len PySem.boot_len (pa_cons (pe_fld (pv 0) rfl) pa_nil)) (nomark _))
        (pss_cons (ps_set (i := 4) scBehind.nd rfl (Or.inl rfl) (pe_ix ix_list (pe_fld (pv 0) rfl) (pv 2) (fun _ _ => rfl)))
        (pss_one (ps_set (i := 3) scBehind.nd rfl (Or.inl rfl) (pe_op op_or (pe_op op_and (pv 3) (pe_un un_inv (pe_fld (pv 4) rfl))) (pe_fld (pv 4) rfl))))) pss_nil)
      (pss_one (ps_ret (pe_call S.ok hr rfl S.gl S.kp S.b .nil pass0 (pa_cons (pv 3) (pa_cons (pe_op op_sub pe_int (pe_op op_mod (pv 1) pe_int)) pa_nil)))))), ?_⟩
    refine ⟨_, rfl, _, _, rfl, rfl, ⟨by decide, by decide⟩, ?_⟩
    dsimp only
    rw [half n]
    refine ⟨_, rfl, _, rfl, g, CG, dx, _, _, rfl, h1, TG.cl, TG.nA, gameF_acts _ _ _ _, la, _, rfl, .inl (SqL.of GL.lst), _, _, rfl, rfl, _, rfl, ?_⟩
    rw [List.length_map, GL.len]
    by_cases c : m < t.acts.length
    · refine ifT (decide_eq_true (by omega)) ?_
      obtain ⟨a, ha⟩ : ∃ a, as[m]? = some a := ⟨_, List.getElem?_eq_getElem (by rw [GL.len]; exact c)⟩
      obtain ⟨x, hx, dy, hy⟩ := GL.acts m a ha
      have ex : t.act m = x := by
        show t.acts.getD m _ = x
        rw [List.getD_eq_getElem?_getD, hx]
        rfl
      refine ⟨_, rfl, g, CG, dx, _, _, rfl, h1, TG.cl, TG.nA, gameF_acts _ _ _ _, _, rfl, la, _, _, _, rfl, rfl, SqL.of GL.lst, atI_nat (by rw [List.getElem?_map, ha]; rfl), ?_⟩
      refine ⟨_, rfl, _, rfl, a, CA, dy, _, _, rfl, hy, TA.cl, TA.nT, actF_takes _, _, rfl, _, _, rfl, rfl, _, rfl, a, CA, dy, _, _, rfl, hy, TA.cl, TA.nR, actF_brings _, _, _, rfl, rfl, ?_⟩
      dsimp only
      rw [andnot_nat, or_nat]
      refine ⟨_, rfl, _, rfl, _, _, rfl, rfl, (by show (0 : Int) < 2; decide), _, _, rfl, rfl, _, _, (by dsimp only; rw [one_sub n]; rfl), ?_⟩
      have e : t.move (decS n) m = ⟨((decS n).s - (decS n).s.land (t.act m).del).lor (t.act m).add, 1 - (decS n).turn⟩ := if_neg (by omega)
      rw [e, ex] at k
      exact k
    · refine ifF (decide_eq_false (by omega)) ?_
      refine ⟨_, rfl, _, rfl, _, _, rfl, rfl, (by show (0 : Int) < 2; decide), _, _, rfl, rfl, _, _, (by dsimp only; rw [one_sub n]; rfl), ?_⟩
      have e : t.move (decS n) m = ⟨(decS n).s, 1 - (decS n).turn⟩ := if_pos (by omega)
      rw [e] at k
      exact k
/-! ### states_behind -/
theorem moves_le {t : Pn13.Task} {u : Pn13.State} {k : Nat} (h : k ∈ t.moves u) : k ≤ t.acts.length := by
  rw [moves_eq] at h
  split at h
  · cases h
  · rcases List.mem_append.mp h with h | h
    · have := List.mem_range.mp (List.mem_filter.mp h).1
      omega
    · split at h
      · rw [List.mem_singleton.mp h]
        exact Nat.le_refl _
      · cases h
theorem moves_len {t : Pn13.Task} {u : Pn13.State} : (t.moves u).length ≤ t.acts.length + 1 := by
  rw [moves_eq]
  split
  · exact Nat.zero_le _
  · rw [List.length_append]
    have h1 := List.length_filter_le (fun k => mayDo (t.act k) u) (List.range t.acts.length)
    rw [List.length_range] at h1
    split
    · exact Nat.add_le_add h1 (Nat.le_refl 1)
    · exact Nat.add_le_add h1 (Nat.zero_le 1)
def behinds (t : Pn13.Task) (u : Pn13.State) : List Nat := (t.moves u).map fun k => enc (t.move u k)
def spStates (K : PySem.W.Frag) (CA CG : Addr) : Sp := fun vs H Q _ => ∃ (g : Addr) (t : Pn13.Task) (n : Nat), vs = [.ref g, nI n] ∧ GameAt K CA CG H g t ∧ newInts H (behinds t (decS n)) Q
abbrev nStates : List Str := ["game", "state", "move"]
theorem scStates : FnScope nStates ["game", "state"] (defScope sStates) := ⟨rfl, rfl, rfl, by decide +kernel, rfl, by decide +kernel, by decide +kernel⟩
theorem take_snoc {α : Type} {l : List α} {i : Nat} {x : α} (h : l[i]? = some x) : l.take (i + 1) = l.take i ++ [x] := by
  rw [List.take_add_one, h]
  rfl
theorem ok_states {f fM fB : Addr} {fd fdM fdB : FuncData} (F : Fun K "states_behind" "states_behind" sStates f fd) (M : FnIs P w K mg base 2 "moves_in" ["game", "state"] (spMoves K CA CG) fM fdM) (B : FnIs P w K mg base 2 "state_behind" ["game", "state", "move"] (spBehind K CA CG) fB fdB) :
    FnOk P w K mg base CX0 3 f fd ["game", "state"] (spStates K CA CG) := by
  refine F.ok scStates (fun vs H Q E h => ?_) (fun cdv A outer s H vs Q E hr h => ?_)
  · obtain ⟨a, b, c, rfl, _⟩ := h
    rfl
  · obtain ⟨g, t, n, rfl, G, k⟩ := h
    refine ⟨_, pss_one (ps_ret (pe_lc (own := [("move", 2)]) (g := gName 2) (tt := tYes) (te := tCall (spBehind K CA CG) [] E0 (tCons (tVar 0) (tCons (tVar 1) (tCons (tVar 2) tNil)))) (by rfl) scStates.nd (pi_list (pe_call M.ok hr rfl M.gl M.kp M.b .nil pass0 (pa_cons (pv 0) (pa_cons (pv 1) pa_nil))))
        (blkOk_by (own := [("move", 2)]) (N := nStates) (sc := defScope sStates) (by decide +kernel)) (fun _ _ _ _ _ => pg_name (i := 2) scStates.nd rfl (Or.inl rfl))
        (fun _ _ _ _ _ => pts_nil) (fun _ _ _ _ _ => pe_call B.ok hr rfl B.gl B.kp B.b .nil pass0 (pa_cons (pv 0) (pa_cons (pv 1) (pa_cons (pv 2) pa_nil)))))), ?_⟩
    refine ⟨_, rfl, _, rfl, g, t, n, rfl, G, fun p H1 s1 np hp => ?_⟩
    refine ⟨p, rfl, ⟨_, SqL.of hp⟩, fun D nD => ?_⟩
    have nDH : H D = none := s1.free nD
    have npD : p ≠ D := ne_of_none hp nD
    refine lc_list (K := K) (a := p) (xs := (t.moves (decS n)).map nI) (fun i H' => H' D = some (.lst (((behinds t (decS n)).take i).map nI)) ∧ Same H1 H') ⟨by rw [List.take_zero]; exact upd_same, Same.upd nD⟩ (fun i H' _ ⟨_, s2⟩ => SqL.of (s2 _ _ hp)) (fun i x H' hi ⟨hD, s2⟩ => ?_) (fun H' ⟨hD, s2⟩ => ?_)
    · rw [List.getElem?_map] at hi
      obtain ⟨m, hm, rfl⟩ := Option.map_eq_some_iff.mp hi
      have hl := moves_le (List.mem_of_getElem? hm)
      refine ⟨rfl, _, rfl, _, rfl, _, rfl, g, t, n, m, rfl, (G.ext (Ext.of s1)).ext (Ext.of s2), hl, _, hD, ?_, ?_, ?_⟩
      · obtain ⟨la, as, GL⟩ := G
        have few := GL.few
        have hl2 := moves_len (t := t) (u := decS n)
        rw [List.length_map, List.length_take]
        refine Nat.lt_of_le_of_lt (Nat.min_le_right _ _) ?_
        unfold behinds
        rw [List.length_map]
        exact Nat.lt_of_le_of_lt (Nat.le_trans hl2 (Nat.succ_le_succ few)) (by decide)
      · rw [upd_same, take_snoc (show (behinds t (decS n))[i]? = some (enc (t.move (decS n) m)) by unfold behinds; rw [List.getElem?_map, hm]; rfl), List.map_append]
        rfl
      · exact fun b o e => by
          rw [upd_ne (ne_of_none e nD)]
          exact s2 b o e
    · have el : ((t.moves (decS n)).map nI).length = (behinds t (decS n)).length := by
        unfold behinds
        rw [List.length_map, List.length_map]
      rw [el, List.take_length] at hD
      exact k D _ (s1.trans s2) nDH hD
/-! ### is_forced -/
abbrev hasK (kvs : List (Key × V)) (n : Nat) : Bool := (valV kvs (Sum.inl (n : Int))).isSome
def forcedB (own : Bool) (ns : List Nat) (has : Nat → Bool) : Bool := if own = true then ns.any has else !ns.isEmpty && ns.all has
def spIsF (K : PySem.W.Frag) : Sp := fun vs H Q _ => ∃ (l d : Addr) (own : Bool) (ns : List Nat) (kvs : List (Key × V)), vs = [.ref l, .bl own, .ref d] ∧ SqL K H l (ns.map nI) ∧ ns.length ≤ 1000 ∧ H d = some (.dK kvs) ∧ ∀ H', Same H H' → Q (.bl (forcedB own ns (hasK kvs))) H'
abbrev nIsF : List Str := ["following", "own_turn", "steps", "inside", "state"]
theorem scIsF : FnScope nIsF ["following", "own_turn", "steps"] (defScope sIsF) := ⟨rfl, rfl, rfl, by decide +kernel, rfl, by decide +kernel, by decide +kernel⟩
theorem ok_isF {f : Addr} {fd : FuncData} (F : Fun K "is_forced" "is_forced" sIsF f fd) (TB : TxtB mg) : FnOk P w K mg base CX0 1 f fd ["following", "own_turn", "steps"] (spIsF K) := by
  refine F.ok scIsF (fun vs H Q E h => ?_) (fun cdv A outer s H vs Q E hr h => ?_)
  · obtain ⟨a, b, c, d, e, rfl, _⟩ := h
    rfl
  · obtain ⟨l, d, own, ns, kvs, rfl, hl, len, hd, k⟩ := h
    have hu := hu_of hr
    refine ⟨_, pss_cons (ps_setLc (i := 3) (own := [("state", 4)]) (g := gName 4) (tt := tYes) (te := tDIn (tVar 4) (tVar 2)) (by rfl) scIsF.nd rfl rfl (sw_true rfl rfl rfl (by decide +kernel)) (pi_list (pv 0))
        (blkOk_by (own := [("state", 4)]) (N := nIsF) (sc := defScope sIsF) (by decide +kernel)) (fun _ _ _ _ _ => pg_name (i := 4) scIsF.nd rfl (Or.inl rfl))
        (fun _ _ _ _ _ => pts_nil) (fun _ _ _ _ _ => pe_cmp (pc_din hu (pv 4) (pv 2)) rfl))
      (pss_cons (ps_if (pt_val (pv 1)) (pss_one (ps_ret (pe_callB (cr_any rfl) (by rfl) TB.any (by decide +kernel) (pa_cons (pv 3) pa_nil)))) pss_nil)
      (pss_one (ps_ret (pe_and (pe_cmpR op_gt (pe_callB call_len_seq (by rfl) TB.len PySem.boot_len (pa_cons (pv 3) pa_nil)) pe_int (nomark _)) (pe_one (pe_callB (cr_all rfl) (by rfl) TB.all (by decide +kernel) (pa_cons (pv 3) pa_nil))))))), ?_⟩
    refine ⟨_, rfl, l, rfl, ⟨_, hl⟩, fun D nD => ?_⟩
    refine lc_list (K := K) (a := l) (xs := ns.map nI) (fun i H' => H' D = some (.lst (((ns.map (hasK kvs)).take i).map V.bl)) ∧ Same H H') ⟨by rw [List.take_zero]; exact upd_same, Same.upd nD⟩ (fun i H' _ ⟨_, s2⟩ => s2.seq hl) (fun i x H' hi ⟨hD, s2⟩ => ?_) (fun H' ⟨hD, s2⟩ => ?_)
    · rw [List.getElem?_map] at hi
      obtain ⟨m, hm, rfl⟩ := Option.map_eq_some_iff.mp hi
      refine ⟨rfl, _, rfl, _, rfl, d, _, rfl, DGet.k (k := Sum.inl (m : Int)) (s2 _ _ hd), _, hD, ?_, ?_, ?_⟩
      · rw [List.length_map, List.length_take, List.length_map]
        exact Nat.lt_of_le_of_lt (Nat.le_trans (Nat.min_le_right _ _) len) (by decide)
      · rw [upd_same, take_snoc (show (ns.map (hasK kvs))[i]? = some (hasK kvs m) by rw [List.getElem?_map, hm]; rfl), List.map_append]
        rfl
      · exact fun b o e => by
          rw [upd_ne (ne_of_none e nD)]
          exact s2 b o e
    · rw [List.length_map, show ns.length = (ns.map (hasK kvs)).length from (List.length_map _).symm, List.take_length] at hD
      have k := k H' s2
      unfold forcedB at k
      refine ⟨_, rfl, _, rfl, ?_⟩
      cases own with
      | true =>
        rw [if_pos rfl] at k
        refine iteT ⟨_, rfl, D, _, rfl, SqL.of hD, ?_⟩
        rw [List.any_map]
        exact k
      | false =>
        rw [if_neg (by decide)] at k
        refine iteF ⟨_, rfl, D, _, rfl, .inl (SqL.of hD), _, _, rfl, rfl, ?_⟩
        have e : decide ((0 : Int) < ((((ns.map (hasK kvs)).map V.bl).length : Nat) : Int)) = !ns.isEmpty := by
          rw [List.length_map, List.length_map]
          cases ns with
          | nil => rfl
          | cons a r => exact decide_eq_true (by rw [List.length_cons]; omega)
        dsimp only
        rw [e]
        refine ⟨_, rfl, ?_⟩
        cases he : ns.isEmpty with
        | true =>
          rw [he] at k
          exact iteF k
        | false =>
          rw [he] at k
          refine iteT ⟨_, rfl, D, _, rfl, SqL.of hD, ?_⟩
          rw [List.all_map]
          exact k
end
end Ao
set_option Elab.async false
set_option maxRecDepth 100000
set_option maxHeartbeats 2000000
namespace Ao
open PySem PySem.Spec PyProof.Rows L2
/-! ### the dict of levels -/
def dkv (l : List (List Pn13.State)) : List (Key × V) := (pairs l).map fun p => (Sum.inl (p.1 : Int), nI p.2)
theorem key_nat (a b : Nat) : decide ((Sum.inl (a : Int) : Key) = Sum.inl (b : Int)) = (b == a) := by
  by_cases c : a = b
  · subst c
    rw [decide_eq_true rfl]
    exact (beq_self_eq_true a).symm
  · rw [decide_eq_false fun z => c (by injection z with z; omega)]
    exact (beq_eq_false_iff_ne.mpr fun z => c z.symm).symm
theorem valV_map (ps : List (Nat × Nat)) (n : Nat) : valV (ps.map fun p => ((Sum.inl (p.1 : Int) : Key), nI p.2)) (Sum.inl (n : Int)) = (ps.lookup n).map nI := by
  unfold valV
  induction ps with
  | nil => rfl
  | cons p ps ih =>
    rw [List.map_cons, List.find?_cons, List.lookup_cons, key_nat]
    cases c : (n == p.1) with
    | true => rfl
    | false => exact ih
theorem valV_dkv (l : List (List Pn13.State)) (n : Nat) : valV (dkv l) (Sum.inl (n : Int)) = ((pairs l).lookup n).map nI := valV_map _ n
theorem dkv_level {t : Pn13.Task} {l : List (List Pn13.State)} (g : Good t l) {u : Pn13.State} (hu : u.turn ≤ 1) : valV (dkv l) (Sum.inl (enc u : Int)) = (Pn13.level l u).map nI := by
  rw [valV_dkv, pairs_lookup l g.turn u hu]
theorem dkv_has {t : Pn13.Task} {l : List (List Pn13.State)} (g : Good t l) {u : Pn13.State} (hu : u.turn ≤ 1) : hasK (dkv l) (enc u) = l.flatten.contains u := by
  unfold hasK
  rw [dkv_level g hu, Option.isSome_map, level_some]
theorem dkv_snoc (l : List (List Pn13.State)) (x : List Pn13.State) : dkv (l ++ [x]) = dkv l ++ x.map fun u => (Sum.inl (enc u : Int), nI l.length) := by
  unfold dkv
  rw [pairs_snoc, List.map_append, List.map_map]
  rfl
theorem dkv_len (l : List (List Pn13.State)) : (dkv l).length = l.flatten.length := by
  unfold dkv
  rw [List.length_map, pairs_len]
theorem total_le {t : Pn13.Task} (h : t.facts ≤ 4) : total t ≤ 32 := by
  unfold total
  have q : 2 ^ t.facts ≤ 2 ^ 4 := Nat.pow_le_pow_right (by decide) h
  omega
theorem valV_app (a b : List (Key × V)) (k : Key) : valV (a ++ b) k = (valV a k).or (valV b k) := by
  unfold valV
  rw [List.find?_append]
  cases a.find? fun kv => decide (kv.1 = k) <;> rfl
/-- numbers as keys of one level -/
def keysAt (ns : List Nat) (c : Nat) : List (Key × V) := ns.map fun (n : Nat) => ((Sum.inl (n : Int) : Key), nI c)
theorem valV_keysAt (ns : List Nat) (c n : Nat) (h : n ∉ ns) : valV (keysAt ns c) (Sum.inl (n : Int)) = none := by
  unfold keysAt
  induction ns with
  | nil => rfl
  | cons a ns ih =>
    have h1 : n ≠ a := fun z => h (z ▸ List.mem_cons_self ..)
    have h2 : n ∉ ns := fun z => h (List.mem_cons_of_mem _ z)
    have ih := ih h2
    unfold valV at ih ⊢
    rw [List.map_cons, List.find?_cons, key_nat, beq_eq_false_iff_ne.mpr h1]
    exact ih
theorem keysAt_snoc (ns : List Nat) (c n : Nat) : keysAt (ns ++ [n]) c = keysAt ns c ++ [(Sum.inl (n : Int), nI c)] := by
  unfold keysAt
  rw [List.map_append]
  rfl
/-- the numbers of the states where somebody has won -/
def wonN (t : Pn13.Task) (who i : Nat) : List Nat := (List.range i).filter fun n => t.won (decS n) == who
theorem dkv_start (t : Pn13.Task) (who : Nat) : dkv (start t who) = keysAt (wonN t who (total t)) 0 := by
  have e : (t.states.filter fun u => t.won u == who) = (wonN t who (total t)).map decS := by
    rw [states_eq, List.filter_map]
    rfl
  have e2 := dkv_snoc [] (t.states.filter fun u => t.won u == who)
  rw [List.nil_append] at e2
  show dkv [t.states.filter fun u => t.won u == who] = _
  rw [e2, e, List.map_map]
  unfold keysAt
  show [] ++ List.map _ _ = _
  rw [List.nil_append]
  refine List.map_congr_left fun n _ => ?_
  show ((Sum.inl (enc (decS n) : Int) : Key), nI 0) = (Sum.inl (n : Int), nI 0)
  rw [enc_dec]
/-- what the program asks of a state -/
def condN (t : Pn13.Task) (who : Nat) (kvs : List (Key × V)) (n : Nat) : Bool := !hasK kvs n && forcedB (decide (V.int ((n : Int) % 2) = nI who)) (behinds t (decS n)) (hasK kvs)
theorem any_congr {α : Type} {p q : α → Bool} {l : List α} (h : ∀ x ∈ l, p x = q x) : l.any p = l.any q := by
  induction l with
  | nil => rfl
  | cons a l ih => rw [List.any_cons, List.any_cons, h a (List.mem_cons_self ..), ih fun x hx => h x (List.mem_cons_of_mem _ hx)]
theorem all_congr {α : Type} {p q : α → Bool} {l : List α} (h : ∀ x ∈ l, p x = q x) : l.all p = l.all q := by
  induction l with
  | nil => rfl
  | cons a l ih => rw [List.all_cons, List.all_cons, h a (List.mem_cons_self ..), ih fun x hx => h x (List.mem_cons_of_mem _ hx)]
theorem move_turn (t : Pn13.Task) (u : Pn13.State) (k : Nat) : (t.move u k).turn ≤ 1 := by
  unfold Pn13.Task.move
  split
  · show 1 - u.turn ≤ 1; omega
  · show 1 - u.turn ≤ 1; omega
theorem cond_eq {t : Pn13.Task} {who : Nat} {l : List (List Pn13.State)} (g : Good t l) (n : Nat) : condN t who (dkv l) n = isNew t (who + 1) l.flatten (decS n) := by
  unfold condN isNew forcedB
  have h1 : hasK (dkv l) n = l.flatten.contains (decS n) := by
    have q := dkv_has g (u := decS n) (decS_turn n)
    rw [enc_dec] at q
    exact q
  have h2 : decide (V.int ((n : Int) % 2) = nI who) = decide ((decS n).turn + 1 = who + 1) := by
    rw [odd n, show decide (V.int ((decS n).turn : Int) = nI who) = ((decS n).turn == who) from eqV_nat _ _]
    by_cases c : (decS n).turn = who
    · rw [c, decide_eq_true rfl]
      exact beq_self_eq_true who
    · rw [decide_eq_false (by omega)]
      exact beq_eq_false_iff_ne.mpr c
  have h3 : (behinds t (decS n)).any (hasK (dkv l)) = (t.moves (decS n)).any fun k => l.flatten.contains (t.move (decS n) k) := by
    unfold behinds
    rw [List.any_map]
    exact any_congr fun k _ => dkv_has g (move_turn t _ k)
  have h4 : (behinds t (decS n)).all (hasK (dkv l)) = (t.moves (decS n)).all fun k => l.flatten.contains (t.move (decS n) k) := by
    unfold behinds
    rw [List.all_map]
    exact all_congr fun k _ => dkv_has g (move_turn t _ k)
  have h5 : (behinds t (decS n)).isEmpty = (t.moves (decS n)).isEmpty := by
    unfold behinds
    cases t.moves (decS n) <;> rfl
  rw [h1, h2, h3, h4, h5]
  congr 1
  by_cases c : (decS n).turn + 1 = who + 1
  · rw [decide_eq_true c, if_pos rfl, if_pos c]
  · rw [decide_eq_false c, if_neg (by decide), if_neg c]
def freshN (t : Pn13.Task) (who : Nat) (kvs : List (Key × V)) (i : Nat) : List Nat := (List.range i).filter (condN t who kvs)
theorem freshN_eq {t : Pn13.Task} {who : Nat} {l : List (List Pn13.State)} (g : Good t l) : fresh t (who + 1) l = (freshN t who (dkv l) (total t)).map decS := by
  unfold fresh freshN
  rw [states_eq, List.filter_map]
  congr 1
  refine List.filter_congr fun n _ => ?_
  exact (cond_eq g n).symm
theorem freshN_enc {t : Pn13.Task} {who : Nat} {l : List (List Pn13.State)} (g : Good t l) : dkv (l ++ [fresh t (who + 1) l]) = dkv l ++ keysAt (freshN t who (dkv l) (total t)) l.length := by
  rw [dkv_snoc, freshN_eq g, List.map_map]
  congr 1
  unfold keysAt
  refine List.map_congr_left fun n _ => ?_
  show ((Sum.inl (enc (decS n) : Int) : Key), nI l.length) = _
  rw [enc_dec]
theorem freshN_nil {t : Pn13.Task} {who : Nat} {l : List (List Pn13.State)} (g : Good t l) : freshN t who (dkv l) (total t) = [] ↔ fresh t (who + 1) l = [] := by
  rw [freshN_eq g]
  exact List.map_eq_nil_iff.symm
end Ao
set_option Elab.async false
set_option maxRecDepth 100000
set_option maxHeartbeats 2000000
namespace Ao
open PySem PySem.Spec PyProof.Rows L2
abbrev sForced : Stmt := top 12
section
variable {P : Program} {w : World} {K : PySem.W.Frag} {mg : Str → Option Value} {base : Heap} {CA CG : Addr}
/-- a new dict; all that was tracked stands -/
def newDict (H : Hp) (l : List (List Pn13.State)) (Q : VK) : Prop := ∀ (p : Addr) (H' : Hp), Same H H' → H p = none → H' p = some (.dK (dkv l)) → Q (.ref p) H'
def spForced (K : PySem.W.Frag) (CA CG : Addr) : Sp := fun vs H Q _ => ∃ (g : Addr) (t : Pn13.Task) (who : Nat), vs = [.ref g, nI who] ∧ GameAt K CA CG H g t ∧ newDict H (t.forced (who + 1)) Q
abbrev nForced : List Str := ["game", "who", "total", "state", "following", "steps", "count", "fresh"]
theorem scForced : FnScope nForced ["game", "who"] (defScope sForced) := ⟨rfl, rfl, rfl, by decide +kernel, rfl, by decide +kernel, by decide +kernel⟩
abbrev ttFresh (K : PySem.W.Frag) : TT := tAnd (tB (tDNotIn (tVar 3) (tVar 5))) (tB (tCall (spIsF K) [] E0 (tCons (tOp (rIxL K) (tVar 4) (tVar 3)) (tCons (tOp rEq (tOp (rI (fun _ j => 0 < j) fun i j => V.int (i % j)) (tVar 3) (tC (V.int 2))) (tVar 1)) (tCons (tVar 5) tNil)))))
theorem ok_forced {f fC fS fW fI : Addr} {fd fdC fdS fdW fdI : FuncData} (F : Fun K "forced_by" "forced_by" sForced f fd) (TB : TxtB mg) (C : FnIs P w K mg base 1 "count_of_states" ["game"] (spCount K CA CG) fC fdC)
    (S : FnIs P w K mg base 3 "states_behind" ["game", "state"] (spStates K CA CG) fS fdS) (W : FnIs P w K mg base 1 "winner" ["game", "state"] (spWinner K CA CG) fW fdW) (I : FnIs P w K mg base 1 "is_forced" ["following", "own_turn", "steps"] (spIsF K) fI fdI) :
    FnOk P w K mg base CX0 4 f fd ["game", "who"] (spForced K CA CG) := by
  refine F.ok scForced (fun vs H Q E h => ?_) (fun cdv A outer s H vs Q E hr h => ?_)
  · obtain ⟨a, b, c, rfl, _⟩ := h
    rfl
  · obtain ⟨g, t, who, rfl, G, k⟩ := h
    have hu := hu_of hr
    have hr1 : Room 1 _ := hr.mono (by decide)
    refine ⟨_, pss_cons (ps_set (i := 2) scForced.nd rfl (Or.inl rfl) (pe_call C.ok hr1 rfl C.gl C.kp C.b .nil pass0 (pa_cons (pv 0) pa_nil)))
      (pss_cons (ps_set (i := 4) scForced.nd rfl (Or.inr rfl) (pe_lc (own := [("state", 3)]) (g := gName 3) (tt := tYes) (te := tCall (spStates K CA CG) [] E0 (tCons (tVar 0) (tCons (tVar 3) tNil))) (by rfl) scForced.nd (pi_range1 rfl TB.range (pa_cons (pv 2) pa_nil))
        (blkOk_by (own := [("state", 3)]) (N := nForced) (sc := defScope sForced) (by decide +kernel)) (fun _ _ _ _ _ => pg_name (i := 3) scForced.nd rfl (Or.inl rfl))
        (fun _ _ _ _ _ => pts_nil) (fun _ _ _ _ _ => pe_call S.ok hr rfl S.gl S.kp S.b .nil pass0 (pa_cons (pv 0) (pa_cons (pv 3) pa_nil)))))
      (pss_cons (ps_set (i := 5) scForced.nd rfl (Or.inr rfl) pe_dnewK)
      (pss_cons (ps_for PassesOwn.never rfl (pi_range1 rfl TB.range (pa_cons (pv 2) pa_nil)) (pg_name (i := 3) scForced.nd rfl (Or.inl rfl))
        (pss_one (ps_if (pt_cmpR op_eq (pe_call W.ok hr1 rfl W.gl W.kp W.b .nil pass0 (pa_cons (pv 0) (pa_cons (pv 3) pa_nil))) (pe_op op_add (pv 1) pe_int) (nomark _)) (pss_one (ps_dput hu (pv 5) (pv 3) pe_int rfl)) pss_nil)))
      (pss_cons (ps_for PassesOwn.never rfl (pi_range2 (by rfl) TB.range (pa_cons pe_int (pa_cons (pv 2) pa_nil))) (pg_name (i := 6) scForced.nd rfl (Or.inl rfl))
        (pss_cons (ps_setLc (i := 7) (own := [("state", 3)]) (g := gName 3) (tt := ttFresh K) (te := tVar 3) (by rfl) scForced.nd rfl rfl (sw_true rfl rfl rfl (by decide +kernel)) (pi_range1 rfl TB.range (pa_cons (pv 2) pa_nil))
          (blkOk_by (own := [("state", 3)]) (N := nForced) (sc := defScope sForced) (by decide +kernel)) (fun _ _ _ _ _ => pg_name (i := 3) scForced.nd rfl (Or.inl rfl))
          (fun _ _ _ _ _ => pts_one (PW.pt (pw_and (pt_cmp (pc_dnotin hu (pv 3) (pv 5)) rfl) (pw_and1 (pt_val (pe_call I.ok hr1 rfl I.gl I.kp I.b .nil pass0 (pa_cons (pe_ix ix_list (pv 4) (pv 3) (fun _ _ => rfl)) (pa_cons (pe_cmpR op_eq (pe_op op_mod (pv 3) pe_int) (pv 1) (nomark _)) (pa_cons (pv 5) pa_nil))))))))) (fun _ _ _ _ _ => pv 3))
        (pss_cons (ps_if (pt_cmpR op_eq (pe_callB call_len_seq (by rfl) TB.len PySem.boot_len (pa_cons (pv 7) pa_nil)) pe_int (nomark _)) (pss_one ps_break) pss_nil)
        (pss_one (ps_for PassesOwn.never rfl (pi_list (pv 7)) (pg_name (i := 3) scForced.nd rfl (Or.inl rfl)) (pss_one (ps_dput hu (pv 5) (pv 3) (pv 6) rfl)))))))
      (pss_one (ps_ret (pv 5))))))), ?_⟩
    have fc : t.facts ≤ 4 := by obtain ⟨la, as, GL⟩ := G; exact GL.fc
    have ft := total_le fc
    have t2 := total_pos t
    -- total = count_of_states(game)
    refine ⟨_, rfl, g, t, rfl, G, ?_⟩
    -- following = [..]
    refine ⟨_, rfl, (total t : Int), rfl, by omega, by omega, fun D nD => ?_⟩
    refine lc_range (lo := 0) (n := total t) (fun i H' => ∃ fs : List Addr, H' D = some (.lst (fs.map V.ref)) ∧ fs.length = i ∧ (∀ j a, fs[j]? = some a → a ≠ D ∧ H' a = some (.lst ((behinds t (decS j)).map nI))) ∧ Same H H') ⟨[], upd_same, rfl, fun j a ha => by simp at ha, Same.upd nD⟩ (fun i H' hi ⟨fs, hD, hl, hf, s2⟩ => ?_) (fun H2 ⟨fs, hD, hl, hf, s2⟩ => ?_)
    · dsimp only [gName]
      rw [Int.zero_add]
      refine ⟨rfl, _, rfl, _, rfl, g, t, i, rfl, G.ext (Ext.of s2), fun p H3 s3 np hp => ?_⟩
      refine ⟨_, s3 _ _ hD, ?_, fs ++ [p], ?_, ?_, fun j a ha => ?_, fun b o e => ?_⟩
      · rw [List.length_map, hl]
        exact Nat.lt_of_lt_of_le hi (Nat.le_trans ft (by decide))
      · rw [upd_same, List.map_append]
        rfl
      · rw [List.length_append, hl]
        rfl
      · by_cases c : j < fs.length
        · rw [List.getElem?_append_left c] at ha
          obtain ⟨n1, n2⟩ := hf j a ha
          exact ⟨n1, by rw [upd_ne n1]; exact s3 _ _ n2⟩
        · have hj : j = i := by
            have q := (List.getElem?_eq_some_iff.mp ha).1
            rw [List.length_append, List.length_singleton] at q
            omega
          subst hj
          rw [List.getElem?_append_right (by omega), hl, Nat.sub_self] at ha
          have e : p = a := Option.some.inj ha
          subst e
          have npD : p ≠ D := fun z => by rw [z, hD] at np; cases np
          exact ⟨npD, by rw [upd_ne npD]; exact hp⟩
      · rw [upd_ne (ne_of_none e nD)]
        exact s3 _ _ (s2 b o e)
    · have hF : ∀ j, j < total t → ∃ a, fs[j]? = some a ∧ H2 a = some (.lst ((behinds t (decS j)).map nI)) := fun j hj => by
        obtain ⟨a, ha⟩ : ∃ a, fs[j]? = some a := ⟨_, List.getElem?_eq_getElem (by rw [hl]; exact hj)⟩
        exact ⟨a, ha, (hf j a ha).2⟩
      have G2 := G.ext (Ext.of s2)
      -- steps = {}
      intro d nd
      have nDd : H d = none := s2.free nd
      -- for state in range(total)
      refine ⟨_, rfl, (total t : Int), rfl, by omega, by omega, ?_⟩
      refine for_range (lo := 0) (n := total t) (fun i σ H' => ∃ v3 : Option V, σ = [some (.ref g), some (nI who), some (nI (total t)), v3, some (.ref D), some (.ref d), none, none] ∧ H' d = some (.dK (keysAt (wonN t (who + 1) i) 0)) ∧ Same H2 H')
        ⟨none, rfl, upd_same, Same.upd nd⟩ (fun i σ H' hi hP => ?_) (fun σ H' hP => ?_)
      · obtain ⟨v3, rfl, hd, s3⟩ := hP
        dsimp only [gName]
        rw [Int.zero_add]
        refine ⟨_, rfl, _, rfl, g, t, i, rfl, G2.ext (Ext.of s3), _, rfl, _, _, rfl, rfl, rfl, _, rfl, ?_⟩
        have ec : decide (nI (t.won (decS i)) = V.int ((who : Int) + 1)) = (t.won (decS i) == who + 1) := eqV_nat _ (who + 1)
        have ew : wonN t (who + 1) (i + 1) = if (t.won (decS i) == who + 1) = true then wonN t (who + 1) i ++ [i] else wonN t (who + 1) i := range_filter_succ _ i
        cases hc : (t.won (decS i) == who + 1) with
        | true =>
          rw [hc, if_pos rfl] at ew
          have hno : i ∉ wonN t (who + 1) i := fun z => Nat.lt_irrefl _ (List.mem_range.mp (List.mem_filter.mp z).1)
          have hlen : (keysAt (wonN t (who + 1) i) 0).length < sizeLine := by
            unfold keysAt wonN
            rw [List.length_map]
            exact Nat.lt_of_le_of_lt (List.length_filter_le _ _) (by rw [List.length_range]; exact Nat.lt_of_lt_of_le hi (Nat.le_trans ft (by decide)))
          refine ifT (ec.trans hc) ⟨_, rfl, _, rfl, d, _, rfl, DPut.k (k := Sum.inl (i : Int)) hd hlen, _, rfl, ?_, fun b o e => ?_⟩
          · rw [upd_same, putK_new _ (valV_keysAt _ _ _ hno), ew, keysAt_snoc]
            rfl
          · rw [upd_ne (ne_of_none e nd)]
            exact s3 b o e
        | false =>
          rw [hc, if_neg (by decide)] at ew
          refine ifF (ec.trans hc) ⟨_, rfl, ?_, s3⟩
          rw [ew]
          exact hd
      · obtain ⟨v3, rfl, hd, s3⟩ := hP
        rw [← dkv_start] at hd
        -- for count in range(1, total)
        refine ⟨_, rfl, 1, (total t : Int), rfl, ⟨by decide, by decide, by omega, by omega⟩, ?_⟩
        have hn : ((total t : Int) - 1).toNat = total t - 1 := by omega
        have done : ∀ (l : List (List Pn13.State)) (σ' : L2.St) (H4 : Hp), l = t.forced (who + 1) → σ'[5]? = some (some (.ref d)) → H4 d = some (.dK (dkv l)) → Same H2 H4 → tRet (tVar 5) { nx := fun _ H' => Q .non H', rt := Q } σ' H4 := fun l σ' H4 e1 e2 e3 e4 => by
          rw [e1] at e3
          exact ⟨_, e2, k d H4 (s2.trans e4) nDd e3⟩
        refine for_range (lo := 1) (n := ((total t : Int) - 1).toNat) (fun i σ H' => ∃ (v3 v6 v7 : Option V) (l : List (List Pn13.State)), σ = [some (.ref g), some (nI who), some (nI (total t)), v3, some (.ref D), some (.ref d), v6, v7] ∧ Round t (who + 1) i l ∧ H' d = some (.dK (dkv l)) ∧ Same H2 H')
          ⟨v3, none, none, start t (who + 1), rfl, round_start t (who + 1), hd, s3⟩ (fun i σ H' hi hP => ?_) (fun σ H' hP => ?_)
        · clear hd s3
          obtain ⟨v3, v6, v7, l, rfl, R, hd, s3⟩ := hP
          rw [hn] at hi
          refine ⟨_, rfl, (total t : Int), rfl, by omega, by omega, fun D2 nD2 => ?_⟩
          have dl : (dkv l).length ≤ 32 := by rw [dkv_len]; exact Nat.le_trans (good_len R.good) ft
          refine lc_range (lo := 0) (n := total t) (fun j H5 => H5 D2 = some (.lst ((freshN t who (dkv l) j).map nI)) ∧ Same H' H5) ⟨upd_same, Same.upd nD2⟩ (fun j H5 hj ⟨hD2, s5⟩ => ?_) (fun H5 ⟨hD2, s5⟩ => ?_)
          · dsimp only [gName]
            rw [Int.zero_add]
            obtain ⟨a, ha, hla⟩ := hF j hj
            have ew : freshN t who (dkv l) (j + 1) = if condN t who (dkv l) j = true then freshN t who (dkv l) j ++ [j] else freshN t who (dkv l) j := range_filter_succ _ j
            refine ⟨rfl, _, rfl, _, rfl, d, _, rfl, DGet.k (k := Sum.inl (j : Int)) (s5 _ _ hd), _, rfl, ?_⟩
            have hlf : ∀ n, (freshN t who (dkv l) n).length ≤ n := fun n => by
              unfold freshN
              exact Nat.le_trans (List.length_filter_le _ _) (Nat.le_of_eq List.length_range)
            have hcond : condN t who (dkv l) j = (!hasK (dkv l) j && forcedB (decide (V.int ((j : Int) % 2) = nI who)) (behinds t (decS j)) (hasK (dkv l))) := rfl
            cases hc : (valV (dkv l) (Sum.inl (j : Int))).isSome with
            | true =>
              refine iteF (iteF ⟨?_, s5⟩)
              rw [hcond, show hasK (dkv l) j = true from hc] at ew
              rw [ew]
              exact hD2
            | false =>
              rw [show hasK (dkv l) j = false from hc] at hcond
              refine iteT ⟨_, rfl, _, rfl, D, _, _, _, rfl, rfl, SqL.of (s5 _ _ (s3 _ _ hD)), atI_nat (by rw [List.getElem?_map, ha]; rfl), _, rfl, _, _, rfl, rfl, (by show (0 : Int) < 2; decide), _, rfl, rfl, _, rfl, a, d, _, _, _, rfl, SqL.of (s5 _ _ (s3 _ _ hla)), ?_, s5 _ _ hd, fun H6 s6 => ⟨_, rfl, ?_⟩⟩
              · unfold behinds
                rw [List.length_map]
                obtain ⟨la, as, GL⟩ := G
                have few := GL.few
                have q := moves_len (t := t) (u := decS j)
                omega
              · cases hb : forcedB (decide (V.int ((j : Int) % 2) = nI who)) (behinds t (decS j)) (hasK (dkv l)) with
                | true =>
                  rw [hb] at hcond
                  rw [hcond] at ew
                  refine iteT ⟨_, rfl, _, s6 _ _ hD2, ?_, ?_, fun b o e => ?_⟩
                  · rw [List.length_map]
                    exact Nat.lt_of_le_of_lt (hlf j) (Nat.lt_of_lt_of_le hj (Nat.le_trans ft (by decide)))
                  · rw [upd_same, ew, if_pos (show (!false && true) = true from rfl), List.map_append]
                    rfl
                  · rw [upd_ne (ne_of_none e nD2)]
                    exact s6 _ _ (s5 b o e)
                | false =>
                  rw [hb] at hcond
                  rw [hcond] at ew
                  refine iteF ⟨?_, s5.trans s6⟩
                  rw [ew]
                  exact s6 _ _ hD2
          · -- if len(fresh) == 0: break
            refine ⟨_, rfl, D2, _, rfl, .inl (SqL.of hD2), rfl, _, rfl, ?_⟩
            rw [List.length_map]
            have el : decide (V.int (((freshN t who (dkv l) (total t)).length : Nat) : Int) = V.int 0) = ((freshN t who (dkv l) (total t)).length == 0) := eqV_nat _ 0
            have i1 : i < total t := by omega
            cases hf0 : freshN t who (dkv l) (total t) with
            | nil =>
              refine ifT (by rw [hf0] at el; exact el) ?_
              exact done l _ H5 (round_stop R i1 ((freshN_nil R.good).mp hf0)) rfl (s5 _ _ hd) (s3.trans s5)
            | cons x xs =>
              rw [← hf0]
              refine ifF ?_ ?_
              · rw [el, hf0]
                rfl
              · have nf : fresh t (who + 1) l ≠ [] := fun z => by
                  rw [(freshN_nil R.good).mpr z] at hf0
                  cases hf0
                have R' := round_next R i1 nf
                have ed := freshN_enc (who := who) R.good
                clear el hf0
                -- for state in fresh: steps[state] = count
                have ec : V.int (1 + (i : Int)) = nI (i + 1) := congrArg V.int (by omega)
                have nN : (freshN t who (dkv l) (total t)).Nodup := nodup_filter List.nodup_range
                have len : (freshN t who (dkv l) (total t)).length ≤ 32 := Nat.le_trans (List.length_filter_le _ _) (by rw [List.length_range]; exact ft)
                refine ⟨_, rfl, D2, rfl, ⟨_, SqL.of hD2⟩, for_list (K := K) (a := D2) (xs := (freshN t who (dkv l) (total t)).map nI) (fun j σ H6 => ∃ v3 : Option V, σ = [some (.ref g), some (nI who), some (nI (total t)), v3, some (.ref D), some (.ref d), some (V.int (1 + (i : Int))), some (.ref D2)] ∧ H6 d = some (.dK (dkv l ++ keysAt ((freshN t who (dkv l) (total t)).take j) (i + 1))) ∧ H6 D2 = some (.lst ((freshN t who (dkv l) (total t)).map nI)) ∧ Same H2 H6)
                  ⟨v3, rfl, ?_, hD2, s3.trans s5⟩ (fun j σ H6 _ ⟨_, _, _, q, _⟩ => SqL.of q) (fun j y σ H6 hj hP => ?_) (fun σ H6 hP => ?_)⟩
                · rw [List.take_zero]
                  show _ = some (HO.dK (dkv l ++ []))
                  rw [List.append_nil]
                  exact s5 _ _ hd
                · obtain ⟨v3', rfl, hd6, hD6, s6⟩ := hP
                  rw [List.getElem?_map] at hj
                  obtain ⟨m, hm, rfl⟩ := Option.map_eq_some_iff.mp hj
                  have hmem := List.mem_of_getElem? hm
                  have hno : hasK (dkv l) m = false := by
                    have q := (List.mem_filter.mp hmem).2
                    unfold condN at q
                    cases z : hasK (dkv l) m with
                    | false => rfl
                    | true => rw [z] at q; cases q
                  have hnt : m ∉ (freshN t who (dkv l) (total t)).take j := fun z => by
                    obtain ⟨j', hj'⟩ := List.mem_iff_getElem?.mp z
                    have hlt : j' < j := by
                      have q := (List.getElem?_eq_some_iff.mp hj').1
                      rw [List.length_take] at q
                      omega
                    rw [List.getElem?_take_of_lt hlt] at hj'
                    have q := nd_ix nN hj' hm
                    omega
                  have hv : valV (dkv l ++ keysAt ((freshN t who (dkv l) (total t)).take j) (i + 1)) (Sum.inl (m : Int) : Key) = none := by
                    rw [valV_app, valV_keysAt _ _ _ hnt]
                    have q : (valV (dkv l) (Sum.inl (m : Int))).isSome = false := hno
                    cases z : valV (dkv l) (Sum.inl (m : Int) : Key) with
                    | none => rfl
                    | some v => rw [z] at q; cases q
                  have hlen : (dkv l ++ keysAt ((freshN t who (dkv l) (total t)).take j) (i + 1)).length < sizeLine := by
                    rw [List.length_append]
                    unfold keysAt
                    rw [List.length_map, List.length_take]
                    exact Nat.lt_of_le_of_lt (Nat.add_le_add dl (Nat.le_trans (Nat.min_le_right _ _) len)) (by decide)
                  have ndD : d ≠ D2 := ne_of hd6 hD6 (by intro z; cases z)
                  refine ⟨_, rfl, _, rfl, _, rfl, d, _, rfl, DPut.k (k := Sum.inl (m : Int)) hd6 hlen, _, rfl, ?_, ?_, fun b o e => ?_⟩
                  · rw [upd_same, putK_new _ hv, take_snoc hm, keysAt_snoc, ec, List.append_assoc]
                  · rw [upd_ne ndD.symm]
                    exact hD6
                  · rw [upd_ne (ne_of_none e nd)]
                    exact s6 b o e
                · obtain ⟨v3', rfl, hd6, hD6, s6⟩ := hP
                  rw [List.length_map, List.take_length, ← R.len, ← ed] at hd6
                  exact ⟨v3', _, _, _, rfl, R', hd6, s6⟩
        · obtain ⟨v3, v6, v7, l, rfl, R, hd, s3⟩ := hP
          exact done l _ H' (round_end R (by omega)) rfl hd s3
end
end Ao
set_option Elab.async false
set_option maxRecDepth 100000
set_option maxHeartbeats 2000000
/-! min and max of a list by key=lambda: the lambda's object is pinned while the built-in runs; each of its calls is a frame of its own. -/
namespace AoLam
open PySem PySem.Spec PyProof.Rows L2 LamX NdefX
structure LF where
  qual : Str
  params : Arguments
  body : Expr
  scope : Scope
  cl : List (Str × Addr)
  c : Addr
abbrev LF.nf (L : LF) : NF := ⟨"<lambda>", L.qual, L.params, [], L.scope, L.cl, L.c⟩
abbrev LF.ob (L : LF) (pm ctv : Value) : Obj := PySem.W.kla_obj "<lambda>" L.qual L.params L.body L.scope L.cl pm L.c ctv
/-- how one argument meets the lambda's one parameter -/
def Takes1 (y : Str) (L : LF) : Prop := ∀ (pm ctv u : Value), bindArgs (PySem.W.kla_fn "<lambda>" L.qual L.params L.body L.scope L.cl pm (.ref L.c) ctv) ⟨[u], []⟩ = pure [(y, u)]
/-- a call of the lambda, from any state in which its object and what it captured are known -/
theorem lam_one {P : Program} {w : World} {K : PySem.W.Frag} {mg : Str → Option Value} {base : Heap} {k : Nat} {f : Addr} {L : LF} {N fr : List Str} {y : Str} {A : Around} {outer : List Env} {s : Shared} {H : Hp} {u pm ctv : Value} {x : V} {ws : List (Option V)} {Q : VK} {t : TE}
    (S : NScope N [y] fr L.scope) (tk1 : Takes1 y L) (room : Room (k + 1) A) (at0 : Env0 P w K mg base A outer s H) (ho : s.heap.get? f = some (L.ob pm ctv)) (hc : H L.c = some (CodeO L.c L.qual)) (caught : CellsAt L.cl fr ws s.heap H) (rx : RelV x u)
    (ht : PE (ncx CX0 P w K mg base N L.nf f A outer s H E0) L.body t) (hq : t (startF N [x] ws) H Q) :
    codeAny (model P w) A (.call (.ref f) ⟨[u], []⟩) (CR CX0 outer P w H s Q E0) s := by
  have nolim := at0.mod.nolimit.keeps (h' := s.heap) fun b o q => (at0.bs b o q).1
  have locals1 : ∀ z ∈ [(y, u)], L.scope.names.lookup z.1 = some .local := fun z hz => by
    rw [List.mem_singleton.mp hz]
    exact S.par y List.mem_cons_self
  have goal2 : ∀ (h1 : Heap) (tk : Nat), h1.Ns s.heap.objs.size (fun z => [(y, u)].reverse.lookup z) → (∀ b o, s.heap.get? b = some o → h1.get? b = some o) →
      codeAny (model P w) A (.expr L.body (envF L.nf f s.heap.objs.size)) (CR CX0 outer P w H s Q E0) { s with heap := h1, toks := tk } := fun h1 tk hns kept => by
    have begun := inv_startN (CX := CX0) (f := f) (tk := tk) (E := E0) (F := L.nf) (us := [u]) (vs := [x]) S room.hd at0 rfl (.cons rx .nil) caught hns kept
    refine PySem.W.kla_codeExpr (wpAny_mono (ht.run [] _ _ _ Q begun hq) ?_ fun _ _ z => z)
    rintro v s' ⟨v', H', inv', rv, q'⟩
    exact ⟨v', H', inv'.os, inv'.bare, inv'.base, inv'.hok, rv, q'⟩
  refine PySem.W.kla_callFunE room.depth ho rfl S.co S.gen rfl (codeO_at at0.hok hc) ?_
  rw [tk1 pm ctv u]
  refine wpAny_pure ?_
  refine wpAny_newFunctionEnv S.nocell locals1 ?_ S.kind
  intro h1 hns same
  refine ⟨nolim.fresh _ same, goal2 h1 _ hns fun b o q => ?_⟩
  exact same.extBut b o (fun z => Nat.lt_irrefl _ (z ▸ Heap.lt_size q)) (Heap.get?_push_of_some _ q)
section
variable {X : Cx} {s : Shared} {H : Hp} {σ : L2.St} {pins : List (Addr × Obj)}
/-- a function object that stands untracked in the heap is pinned -/
theorem pin_fn {f : Addr} {o : Obj} {fd : FuncData} (I : Inv X pins σ H s) (ho : s.heap.get? f = some o) (hd : o.data = .func fd) (hn : H f = none) (hs : f ∉ frs X.stack) : Inv X ((f, o) :: pins) σ H s := by
  refine I.pins_of fun p hp => ?_
  rcases List.mem_cons.mp hp with z | z
  · subst z
    refine ⟨ho, hn, fun e => ?_, fun e => hs ?_, fun v e => ?_⟩
    · obtain ⟨m, ⟨ol, es, ep, e1, e2, _⟩, _⟩ := I.loc
      have e : f = X.env.locals := e
      rw [← e, ho] at e1
      cases e1
      rw [hd] at e2
      cases e2
    · rcases I.ok.stk with q | ⟨q, _⟩
      · rw [q]; exact e
      · rw [q]
        obtain ⟨en, h1, h2⟩ := List.mem_filterMap.mp e
        exact List.mem_filterMap.mpr ⟨en, List.mem_cons_of_mem _ h1, h2⟩
    · have e : o.data = .cell v := e
      rw [hd] at e
      cases e
  · exact I.pin p (List.mem_append_right _ z)
theorem unpin {q : Addr × Obj} (I : Inv X (q :: pins) σ H s) : Inv X pins σ H s := I.pins_of fun p hp => I.pin p (List.mem_append_right _ (List.mem_cons_of_mem _ hp))
theorem pinned {f : Addr} {o : Obj} (I : Inv X ((f, o) :: pins) σ H s) : s.heap.get? f = some o := (I.pin (f, o) (List.mem_append_right _ List.mem_cons_self)).1
/-! ### a list walked by a built-in -/
theorem val_at : ∀ {xs : List V} {us : List Value} {i : Nat} {u : Value}, Vals xs us → us[i]? = some u → ∃ x, xs[i]? = some x ∧ RelV x u
  | _, _, _, _, .nil, h => by simp at h
  | _, _, 0, _, .cons r _, h => ⟨_, rfl, by cases h; exact r⟩
  | _, _, i + 1, _, .cons _ t, h => val_at (i := i) t h
/-- the iterator stands at i, the list holds xs (up to tokens) -/
def WalkSt (it l : Addr) (xs : List V) (i : Nat) (s : Shared) : Prop := s.heap.IsListIter it l i ∧ ∃ its : List Value, Vals xs its ∧ s.heap.IsList l its.toArray
def ItemAt (xs : List V) (i : Nat) (v : Value) : Prop := ∃ x, xs[i]? = some x ∧ RelV x v
abbrev SameG : Array GenState → Array GenState → Prop := fun a b => b = a
theorem walk_list {prog : Program} {w : World} {A : Around} (calm : A.handled = none) {it l : Addr} (apart : l ≠ it) {xs : List V} : WalksS prog w A it [it, l] [it] SameG xs.length (ItemAt xs) (WalkSt it l xs) := by
  constructor
  · intro b hb
    rw [List.mem_singleton.mp hb]
    exact List.mem_cons_self
  · exact fun _ => rfl
  · intro a b c p q
    exact Eq.trans q p
  · rintro i s h' tk ⟨p, its, rv, q⟩ _ kept
    exact ⟨p.at fun o e => kept it List.mem_cons_self o e, its, rv, q.at fun o e => kept l (List.mem_cons_of_mem _ List.mem_cons_self) o e⟩
  · rintro i s Q E hi ⟨p, its, rv, q⟩ next
    have hlen : i < its.length := rv.length ▸ hi
    refine wpAny_pyNext_list_item p q (x := its[i]) (by simp [hlen]) fun h' p' same => ?_
    refine next its[i] { s with heap := h' } (val_at rv (List.getElem?_eq_getElem hlen)) ⟨p', its, rv, q.extBut same.extBut apart⟩ ?_
    exact ⟨fun c o hc e => same.extBut c o (fun z => hc (z ▸ List.mem_cons_self)) e, rfl, rfl, rfl, Nat.le_refl _⟩
  · rintro s Q E ⟨p, its, rv, q⟩ next
    refine wpAny_pyNext_list_end calm p q (by rw [rv.length]; simp) fun h' ext => ?_
    exact next { s with heap := h' } ⟨fun c o hc e => ext c o (fun z => hc (z ▸ List.mem_cons_self)) e, rfl, rfl, rfl, Nat.le_refl _⟩
  · rintro i s Q E ⟨p, _⟩ q
    exact wpAny_pyIter_listiter p q
/-- two untracked records of the built-in's own have turned -/
theorem turned2 {s' : Shared} {a b : Addr} (I : Inv X pins σ H s) (fa : FpOk X pins H a) (fb : FpOk X pins H b) (moved : Moved [a, b] SameG s s') : Inv X pins σ H s' := by
  have nope : ∀ c u, H c = some u → c ∉ [a, b] := fun c u e z => by
    have e2 : H c = none := by
      simp only [List.mem_cons, List.not_mem_nil, or_false] at z
      rcases z with rfl | rfl
      · exact fa.1
      · exact fb.1
    rw [e2] at e
    cases e
  have un : Un (frs X.stack) [a, b] H H s.heap s'.heap := by
    constructor
    · exact fun c o e _ _ hx => moved.heap c o hx e
    · exact fun c o e _ _ hx => ⟨o.slots, moved.heap c o hx e⟩
    · exact fun _ _ _ n _ => n
    · exact fun c o e hx => ⟨o, moved.heap c o hx e⟩
    · exact fun _ _ e => e
    · exact fun _ _ _ e => e
    · exact fun c ps e => ⟨#[], by rw [e]; simp⟩
  have ok : HOk X.prog X.w H s'.heap := fun c u e => by
    refine (I.hok c u e).stay (fun d v hd q => moved.heap d v ?_ q) (fun _ q => q) fun _ _ q => q
    rcases hd with rfl | z
    · exact nope d u e
    · exact nope d _ z
  refine I.call' (ch := [a, b]) moved.os un ok (by rw [moved.gens]; exact I.bare) fun c hc => ?_
  simp only [List.mem_cons, List.not_mem_nil, or_false] at hc
  rcases hc with rfl | rfl
  · exact ⟨fa.2.2.2.1, fa.2.1, fa.2.2.2.2.1, fa.2.2.2.2.2⟩
  · exact ⟨fb.2.2.2.1, fb.2.1, fb.2.2.2.2.1, fb.2.2.2.2.2⟩
/-- each call of the key gives its number, and what is good stays good -/
def KTurn (X : Cx) (pins : List (Addr × Obj)) (σ : L2.St) (f : Addr) (xs : List V) (kf : Nat → Int) (Gd : Hp → Prop) : Prop :=
  ∀ (i : Nat) (x : V) (s' : Shared) (H' : Hp) (u : Value), xs[i]? = some x → Gd H' → Inv X pins σ H' s' → RelV x u →
    codeAny (model X.prog X.w) X.A.in1 (.call (.ref f) ⟨[u], []⟩) (CR CX0 X.stack X.prog X.w H' s' (fun k H2 => k = .int (kf i) ∧ Gd H2) E0) s'
def KeyJ (X : Cx) (pins : List (Addr × Obj)) (σ : L2.St) (Gd : Hp → Prop) (it S : Addr) (s : Shared) : Prop := ∃ H', Inv X pins σ H' s ∧ Gd H' ∧ H' it = none ∧ H' S = none
def KeyV (kf : Nat → Int) (i : Nat) (k : Value) (_ : Shared) : Prop := ∃ t, k = .int (kf i) t
theorem key_run {op : CmpOp} {l f it S : Addr} {xs : List V} {kf : Nat → Int} {Gd : Hp → Prop} {bt : Nat → Nat → Bool} (gl : ∀ H', Gd H' → SqL X.K H' l xs) (turn : KTurn X pins σ f xs kf Gd)
    (fi : ∀ H', H' it = none → FpOk X pins H' it) (fS : ∀ H', H' S = none → FpOk X pins H' S) (hcmp : CmpOf X.prog X.w X.A.in1 op (fun i v => ∃ t, v = .int (kf i) t) bt) :
    KeyRun X.prog X.w X.A.in1 (.ref f) op S [it] SameG xs.length (ItemAt xs) (WalkSt it l xs) (KeyJ X pins σ Gd it S) (KeyV kf) bt := by
  constructor
  · rintro s s' ⟨H', I, g, n1, n2⟩ moved
    exact ⟨H', turned2 I (fS H' n2) (fi H' n1) moved, g, n1, n2⟩
  · exact fun _ _ _ _ v _ => v
  · rintro i v s o Q E hi ⟨x, hx, rx⟩ ⟨H', I, g, n1, n2⟩ ⟨st1, _⟩ hS next
    refine wpAny_call (codeAny_mono (turn i x s H' v hx g I rx) fun r s' res => ?_)
    match r, res with
    | .ok (.ret u), ⟨y, H2, os, bare, un, hok, ry, ey, g2⟩ =>
      subst ey
      obtain ⟨t, rfl⟩ := ry
      have I2 : Inv X pins σ H2 s' := I.call' (ch := []) os un hok bare fun _ z => nomatch z
      obtain ⟨oi, hoi, ri⟩ := st1
      have away : ∀ b, FpOk X pins H' b → b ∉ frs X.stack := fun b fb z => (List.mem_cons.mp (I.stkSub b z)).elim fb.2.1 fb.2.2.1
      have ki := un.keep it oi hoi n1 (away it (fi H' n1)) (by simp)
      have kS := un.keep S o hS n2 (away S (fS H' n2)) (by simp)
      obtain ⟨its, rv, hl, _⟩ := I2.list (gl H2 g2)
      refine next _ s' ⟨H2, I2, g2, un.free it oi hoi n1 (by simp), un.free S o hS n2 (by simp)⟩ ⟨⟨oi, ki, ri⟩, its, rv, hl.isList⟩ kS ⟨t, rfl⟩ fun _ _ z => z
  · exact fun i j ki kj s Q E _ v1 v2 q => hcmp i j ki kj s Q E v1 v2 q
abbrev itO (l : Addr) : Obj := { cls := .type "list_iterator", data := .fields #[.ref l, .int 0 0] }
/-- what the built-in's walk asks, gathered: the same for min and for max -/
theorem key_all {op : CmpOp} {l f : Addr} {xs : List V} {kf : Nat → Int} {Gd : Hp → Prop} {bt : Nat → Nat → Bool} {Q : Value → Shared → Prop} {E : Value → Shared → Prop} (calm : X.A.handled = none) (I : Inv X pins σ H s) (hn : 0 < xs.length) (g0 : Gd H) (gl : ∀ H', Gd H' → SqL X.K H' l xs) (turn : KTurn X pins σ f xs kf Gd)
    (hcmp : CmpOf X.prog X.w X.A.in1 op (fun i v => ∃ t, v = .int (kf i) t) bt) (h : ∀ H' x s' u, Gd H' → xs[argBest bt (xs.length - 1)]? = some x → Inv X pins σ H' s' → RelV x u → Q u s') :
    wpAny (model X.prog X.w) X.A.in1 (pyIter (.ref l)) (fun v s2 => ∃ (I : Addr) (fp wr : List Addr) (G : Array GenState → Array GenState → Prop) (n : Nat) (P : Nat → Value → Prop) (St : Nat → Shared → Prop) (J : Shared → Prop) (V : Nat → Value → Shared → Prop) (bt : Nat → Nat → Bool), v = .ref I ∧ WalksS X.prog X.w X.A.in1 I fp wr G n P St ∧ St 0 s2 ∧
      (∀ b ∈ fp, b < s2.heap.objs.size) ∧ 0 < n ∧ KeyRun X.prog X.w X.A.in1 (.ref f) op s2.heap.objs.size wr G n P St J V bt ∧ J s2 ∧ ∀ v s', P (argBest bt (n - 1)) v → J s' → Q v s') E s := by
  obtain ⟨its, rv, hl, hz⟩ := I.list (gl H g0)
  have lt : l < s.heap.objs.size := by
    obtain ⟨o, n, e, _⟩ := hl
    exact Heap.lt_size e
  have size : (s.heap.push (itO l)).objs.size = s.heap.objs.size + 1 := Heap.size_push s.heap (itO l)
  have I1 : Inv X pins σ H { s with heap := s.heap.push (itO l) } := I.kept (t' := s.toks) fun b u q => Heap.get?_push_of_some _ q
  have st0 : WalkSt s.heap.objs.size l xs 0 { s with heap := s.heap.push (itO l) } := ⟨⟨itO l, Heap.get?_push_size _ rfl, rfl, rfl⟩, its, rv, hl.isList.at fun o q => Heap.get?_push_of_some _ q⟩
  have run := key_run (pins := pins) (σ := σ) (op := op) (it := s.heap.objs.size) (S := (s.heap.push (itO l)).objs.size) gl turn (fun H' n => I.fpOk (Nat.le_refl _) n) (fun H' n => I.fpOk (by omega) n) hcmp
  refine wpAny_pyIter_list hl.isList ⟨_, _, _, _, _, _, _, _, _, _, rfl, walk_list (A := X.A.in1) calm (Nat.ne_of_lt lt), st0, ?_, hn, run, ⟨H, I1, g0, I.hok.fresh (Nat.le_refl _), I.hok.fresh (by omega)⟩, ?_⟩
  · intro b hb
    show b < (s.heap.push (itO l)).objs.size
    rw [size]
    rcases List.mem_cons.mp hb with z | z
    · exact z ▸ Nat.lt_succ_self _
    · exact List.mem_singleton.mp z ▸ Nat.lt_succ_of_lt lt
  · rintro v s' ⟨x, hx, rx⟩ ⟨H', I', g', _, _⟩
    exact h H' x s' v g' hx I' rx
end
/-- min or max as a built-in that takes key= -/
def KeyFn (X : Cx) (id : String) (bt : (Nat → Int) → Nat → Nat → Bool) : Prop := ∀ (pins : List (Addr × Obj)) (σ : L2.St) (H : Hp) (s : Shared) (l f : Addr) (xs : List V) (kf : Nat → Int) (Gd : Hp → Prop) (Q : Value → Shared → Prop) (E : Value → Shared → Prop), X.A.handled = none → Inv X pins σ H s → 0 < xs.length → Gd H →
  (∀ H', Gd H' → SqL X.K H' l xs) → KTurn X pins σ f xs kf Gd → (∀ H' x s' u, Gd H' → xs[argBest (bt kf) (xs.length - 1)]? = some x → Inv X pins σ H' s' → RelV x u → Q u s') →
  wpAny (model X.prog X.w) X.A (call (.builtin id) [.ref l] [(Str.ofString "key", .ref f)]) Q E s
theorem key_min {X : Cx} : KeyFn X "min" fun kf i j => decide (kf i < kf j) := fun _ _ _ _ _ _ _ kf _ _ _ a1 a2 a3 a4 a5 a6 a7 => call_min_walkK (key_all (op := .Lt) a1 a2 a3 a4 a5 a6 (CmpOf.ints_lt kf fun _ _ z => z) a7)
theorem key_max {X : Cx} : KeyFn X "max" fun kf i j => decide (kf i > kf j) := fun _ _ _ _ _ _ _ kf _ _ _ a1 a2 a3 a4 a5 a6 a7 => call_max_walkK (key_all (op := .Gt) a1 a2 a3 a4 a5 a6 (CmpOf.ints_gt kf fun _ _ z => z) a7)
/-! ### the rule -/
def rKeyLam (bt : (Nat → Int) → Nat → Nat → Bool) (K : PySem.W.Frag) (N : List Str) (js : List Nat) (tb : TE) (σ : L2.St) (Q : VK) (v : V) (H2 : Hp) : Prop := ∃ (l : Addr) (xs : List V) (kf : Nat → Int), v = .ref l ∧ 0 < xs.length ∧ SqL K H2 l xs ∧
  (∀ i x H', xs[i]? = some x → Same H2 H' → tb (startF N [x] (js.map (slotAt σ))) H' fun k H3 => k = .int (kf i) ∧ Same H2 H3) ∧ ∀ x H', Same H2 H' → xs[argBest (bt kf) (xs.length - 1)]? = some x → Q x H'
def tKeyLam (bt : (Nat → Int) → Nat → Nat → Bool) (K : PySem.W.Frag) (T : List (Addr × Str)) (N : List Str) (js : List Nat) (t tb : TE) : TE := fun σ H Q => t σ H fun v H1 => Tabs T H1 ∧ ∀ H2 : Hp, ExtN H1 H2 → Tabs T H2 → rKeyLam bt K N js tb σ Q v H2
def one (R : V → Hp → Prop) (vs : List V) (H : Hp) : Prop := match vs with
  | [v] => R v H
  | _ => False
theorem one_of {R : V → Hp → Prop} {vs : List V} {H : Hp} (h : one R vs H) : ∃ v, vs = [v] ∧ R v H := by
  match vs, h with
  | [v], h => exact ⟨v, rfl, h⟩
/-- what is asked of the lambda's text, by looks at it -/
structure LamTxt (sc scope : Scope) (N fr : List Str) (y : Str) (params : Arguments) (body : Expr) : Prop where
  scp : NScope N [y] fr scope
  free : ∀ z ∈ scope.names, z.2 = .free → sc.names.lookup z.1 = some .cell ∨ sc.names.lookup z.1 = some .free
  fr : ∀ z ∈ fr, (z, NameKind.free) ∈ scope.names
  bind : ∀ (q : Str) (cl : List (Str × Addr)) (pm cv ctv u : Value), bindArgs (PySem.W.kla_fn "<lambda>" q params body scope cl pm cv ctv) ⟨[u], []⟩ = pure [(y, u)]
theorem lamTxt {sc scope : Scope} {N fr : List Str} {y : Str} {params : Arguments} {body : Expr} (h1 : nscB N [y] fr scope = true) (h2 : ndefB sc scope fr = true)
    (h3 : ∀ (q : Str) (cl : List (Str × Addr)) (pm cv ctv u : Value), bindArgs (PySem.W.kla_fn "<lambda>" q params body scope cl pm cv ctv) ⟨[u], []⟩ = pure [(y, u)]) : LamTxt sc scope N fr y params body := ⟨nscope_by h1, ndef_free h2, ndef_fr h2, h3⟩
section
variable {X : Cx} {T : List (Addr × Str)} {c P : Addr} {params : Arguments} {body e : Expr} {scope : Scope} {p lpos kpos pos : Pos} {N fr : List Str} {x y : Str} {js : List Nat} {t tb : TE} {k : Nat} {id : String} {bt : (Nat → Int) → Nat → Nat → Bool}
abbrev lfOf (X : Cx) (params : Arguments) (body : Expr) (scope : Scope) (c' : Addr) : LF := ⟨X.env.qual ++ "<lambda>", params, body, scope, cloFrom X.env.cells scope.names [], c'⟩
theorem pe_keyLam (fn : KeyFn X id bt) (hcalm : X.calm = true) (hg : Gl X x) (hmn : X.mg x = none) (hv : bootBuiltins x = some (.builtin id)) (hxn : x ≠ "__name__") (hxd : (x == ("__debug__" : Str)) = false) (TB : TabB X.base X.mg c P) (hcode : X.env.code = .ref c) (hm : (P, X.env.qual ++ "<lambda>") ∈ T)
    (only : ∀ q ∈ T, q.1 = P → q.2 = X.env.qual ++ "<lambda>") (hdef : defaultsOf params X.env = ([], [])) (L : LamTxt X.env.scope scope N fr y params body) (hjs : js.map (fun j => X.N[j]?) = fr.map some) (hr : Room (k + 2) X.A) (ha : PE X e t)
    (hbody : ∀ (f c' : Addr) (A : Around) (outer : List Env) (s : Shared) (H : Hp), Room k (A.deeper (envF (lfOf X params body scope c').nf f s.heap.objs.size)) → PE (ncx CX0 X.prog X.w X.K X.mg X.base N (lfOf X params body scope c').nf f A outer s H E0) body tb)
    (he : backTo pos (starEach [e] X.env) = (false, eval e X.env) :: backTo pos (starEach [] X.env) := by rfl) (hpl : (backTo pos (starEach [e] X.env)).any (·.1) = false := by rfl) (he2 : starEach [e] X.env = (false, eval e X.env) :: starEach [] X.env := by rfl) :
    PE X (.Call (.Name x p) [e] [⟨some "key", .Lambda params body scope lpos, kpos⟩] pos) (tKeyLam bt X.K T N js t tb) := by
  constructor
  intro pins s σ H Q I h
  refine wpAny_Call_Name_kw (ld_blt I hg hmn hv ?_ hxn hxd)
  have h' : tCons t tNil σ H (one fun v H1 => Tabs T H1 ∧ ∀ H2 : Hp, ExtN H1 H2 → Tabs T H2 → rKeyLam bt X.K N js tb σ Q v H2) := h
  refine PyProof.Rows.callWith_kw (thn ((pa_cons ha pa_nil he2).run pos pins s σ H _ I h') ?_) he hpl rfl rfl
  rintro us s1 ⟨vs, H1, I1, r1, q1⟩
  obtain ⟨v, rfl, hT, q1⟩ := one_of q1
  obtain ⟨u1, rfl, rv1⟩ := vals1 r1
  show wpAny _ _ (evalAll [do let z ← eval (.Lambda params body scope lpos) X.env; standAt pos; pure z]) _ _ _
  have has : ∀ z ∈ scope.names, z.2 = .free → ∃ c, X.env.cells.lookup z.1 = some c := fun z hz q => by
    rcases L.free z hz q with q | q
    · exact I.ok.has z.1 (.inl q)
    · exact I.ok.has z.1 (.inr q)
  refine wpAny_evalAll_cons (wpAny_bind (lam_make2 (T := T) I1 TB hcode hm only hT hdef has ?_))
  intro f c' pm ctv H2 s2 I2 ext T2 ho hn hs hc
  refine wpAny_bind (wpAny_standAt (wpAny_pure (wpAny_evalAll_nil ?_)))
  obtain ⟨l, xs, kf, rfl, len, hl, ht, hq⟩ := q1 H2 ext T2
  obtain rfl : u1 = Value.ref l := rv1
  show wpAny _ _ (call (.builtin id) [.ref l] [(Str.ofString "key", .ref f)]) _ _ _
  have IP := pin_fn I2 ho rfl hn hs
  refine fn _ σ H2 s2 l f xs kf (Same H2) _ _ (I2.ok.hd hcalm) IP len (Same.refl H2) (fun H' g => g.seq hl) ?_ ?_
  · intro i z s' H' u hz g J rz
    have room : Room (k + 1) X.A.in1 := Room.in1 hr
    exact lam_one (L := lfOf X params body scope c') L.scp (fun pm ctv u => L.bind _ _ pm _ ctv u) room J.env0.in1 (pinned J) (g _ _ hc) (cells_of J (Caps.made J.ok L.free L.fr hjs)) rz (hbody f c' _ _ _ _ (room.deeper _)) (ht i z H' hz g)
  · intro H' z s' u g hz J rz
    exact ⟨z, H', unpin J, rz, hq z H' g hz⟩
end
end AoLam
set_option Elab.async false
set_option maxRecDepth 100000
set_option maxHeartbeats 2000000
namespace Ao
open PySem PySem.Spec PyProof.Rows L2 LamX NdefX AoLam
abbrev sEach : Stmt := top 13
abbrev sBest : Stmt := top 14
/-! ### the first of the least, of the greatest -/
theorem arg_min (key : Nat → Nat) (x : Nat) (l : List Nat) (kf : Nat → Int) (hk : ∀ (i m : Nat), (x :: l)[i]? = some m → kf i = (key m : Int)) : ∀ j, j ≤ l.length → (x :: l)[argBest (fun i j => decide (kf i < kf j)) j]? = some (minBy key x (l.take j))
  | 0, _ => by rw [List.take_zero]; rfl
  | j + 1, hj => by
    have ih := arg_min key x l kf hk j (by omega)
    obtain ⟨m, hm⟩ : ∃ m, l[j]? = some m := ⟨_, List.getElem?_eq_getElem (by omega)⟩
    have hm' : (x :: l)[j + 1]? = some m := hm
    have e1 := hk _ _ hm'
    have e2 := hk _ _ ih
    have e3 : minBy key x (l.take (j + 1)) = if key m < key (minBy key x (l.take j)) then m else minBy key x (l.take j) := by
      unfold minBy
      rw [take_snoc hm, List.foldl_append]
      rfl
    show (x :: l)[if decide (kf (j + 1) < kf (argBest (fun i j => decide (kf i < kf j)) j)) = true then j + 1 else argBest (fun i j => decide (kf i < kf j)) j]? = _
    rw [e3, e1, e2]
    by_cases c : key m < key (minBy key x (l.take j))
    · rw [if_pos c, if_pos (decide_eq_true (by omega))]
      exact hm'
    · rw [if_neg c, if_neg (by simp; omega)]
      exact ih
theorem arg_max (key : Nat → Nat) (x : Nat) (l : List Nat) (kf : Nat → Int) (hk : ∀ (i m : Nat), (x :: l)[i]? = some m → kf i = (key m : Int)) : ∀ j, j ≤ l.length → (x :: l)[argBest (fun i j => decide (kf i > kf j)) j]? = some (maxBy key x (l.take j))
  | 0, _ => by rw [List.take_zero]; rfl
  | j + 1, hj => by
    have ih := arg_max key x l kf hk j (by omega)
    obtain ⟨m, hm⟩ : ∃ m, l[j]? = some m := ⟨_, List.getElem?_eq_getElem (by omega)⟩
    have hm' : (x :: l)[j + 1]? = some m := hm
    have e1 := hk _ _ hm'
    have e2 := hk _ _ ih
    have e3 : maxBy key x (l.take (j + 1)) = if key (maxBy key x (l.take j)) < key m then m else maxBy key x (l.take j) := by
      unfold maxBy
      rw [take_snoc hm, List.foldl_append]
      rfl
    show (x :: l)[if decide (kf (j + 1) > kf (argBest (fun i j => decide (kf i > kf j)) j)) = true then j + 1 else argBest (fun i j => decide (kf i > kf j)) j]? = _
    rw [e3, e1, e2]
    by_cases c : key (maxBy key x (l.take j)) < key m
    · rw [if_pos c, if_pos (decide_eq_true (by omega))]
      exact hm'
    · rw [if_neg c, if_neg (by simp; omega)]
      exact ih
/-- a def's promise by its body, the def's code object being known -/
theorem okC {P : Program} {w : World} {K : PySem.W.Frag} {mg : Str → Option Value} {base : Heap} {x qual : Str} {st : Stmt} {f c : Addr} {fd : FuncData} {N ps : List Str} {k : Nat} {sp : Sp} (F : Fun K x qual st f fd) (code : fd.code = .ref c) (S : FnScope N ps (defScope st)) (len : ∀ vs H Q E, sp vs H Q E → vs.length = ps.length)
    (body : ∀ (A : Around) (outer : List Env) (s : Shared) (H : Hp) (vs : List V) (Q : VK) (E : XK), Room k (A.deeper (envOfC qual (defScope st) s.heap.objs.size f (.ref c))) → sp vs H Q E →
      ∃ t, PSs (cxOf CX0 P w K mg base N qual (defScope st) f (.ref c) A outer s H E).nox (defBody st) t ∧ t { nx := fun _ H' => Q .non H', rt := Q } (L2.start N vs) H) : FnOk P w K mg base CX0 (k + 1) f fd ps sp := by
  cases F.ex with
  | intro _ h => obtain ⟨_, _, _, _, _, v, _, _, rfl, there, named⟩ := h; obtain rfl : v = .ref c := code; exact fn_of there named S len fun A outer s H vs Q E room asked => (body A outer s H vs Q E room asked).elim fun t h => ⟨t, h.1.nox, h.2⟩
section
variable {P : Program} {w : World} {K : PySem.W.Frag} {mg : Str → Option Value} {base : Heap} {CA CG : Addr}
/-! ### forced_by_each -/
/-- a pair of what the first can force, what the second can -/
def EachAt (H : Hp) (p : Addr) (t : Pn13.Task) : Prop := ∃ d1 d2 : Addr, H p = some (.tup [.ref d1, .ref d2]) ∧ H d1 = some (.dK (dkv (t.forced 1))) ∧ H d2 = some (.dK (dkv (t.forced 2)))
theorem EachAt.ext {H H' : Hp} {p : Addr} {t : Pn13.Task} (x : EachAt H p t) (e : Ext H H') : EachAt H' p t := by
  obtain ⟨d1, d2, h1, h2, h3⟩ := x
  exact ⟨d1, d2, (e _ _ h1 fun ps z => nomatch z), (e _ _ h2 fun ps z => nomatch z), (e _ _ h3 fun ps z => nomatch z)⟩
theorem EachAt.pick {H : Hp} {p : Addr} {t : Pn13.Task} (x : EachAt H p t) (n : Nat) : ∃ (po pt : Addr) (xs : List V), H p = some (.tup xs) ∧ atI xs ((n : Int) % 2) = some (.ref po) ∧ H po = some (.dK (dkv (t.forced ((decS n).turn + 1)))) ∧ atI xs ((1 : Int) - (n : Int) % 2) = some (.ref pt) ∧ H pt = some (.dK (dkv (t.forced (1 - (decS n).turn + 1)))) := by
  obtain ⟨d1, d2, h1, h2, h3⟩ := x
  rw [one_sub n, odd n]
  have h := decS_turn n
  by_cases c : (decS n).turn = 0
  · rw [c]
    exact ⟨d1, d2, _, h1, rfl, h2, rfl, h3⟩
  · rw [show (decS n).turn = 1 by omega]
    exact ⟨d2, d1, _, h1, rfl, h3, rfl, h2⟩
def spEach (K : PySem.W.Frag) (CA CG : Addr) : Sp := fun vs H Q _ => ∃ (g : Addr) (t : Pn13.Task), vs = [.ref g] ∧ GameAt K CA CG H g t ∧ ∀ (p : Addr) (H' : Hp), Same H H' → H p = none → EachAt H' p t → Q (.ref p) H'
theorem scEach : FnScope ["game"] ["game"] (defScope sEach) := ⟨rfl, rfl, rfl, by decide +kernel, rfl, by decide +kernel, by decide +kernel⟩
theorem ok_each {f fF : Addr} {fd fdF : FuncData} (F : Fun K "forced_by_each" "forced_by_each" sEach f fd) (FB : FnIs P w K mg base 4 "forced_by" ["game", "who"] (spForced K CA CG) fF fdF) : FnOk P w K mg base CX0 5 f fd ["game"] (spEach K CA CG) := by
  refine F.ok scEach (fun vs H Q E h => ?_) (fun cdv A outer s H vs Q E hr h => ?_)
  · obtain ⟨a, b, rfl, _⟩ := h
    rfl
  · obtain ⟨g, t, rfl, G, k⟩ := h
    refine ⟨_, pss_one (ps_ret (pe_tup (pa_cons (pe_call FB.ok hr rfl FB.gl FB.kp FB.b .nil pass0 (pa_cons (pv 0) (pa_cons pe_int pa_nil))) (pa_cons (pe_call FB.ok hr rfl FB.gl FB.kp FB.b .nil pass0 (pa_cons (pv 0) (pa_cons pe_int pa_nil))) pa_nil)))), ?_⟩
    refine ⟨_, rfl, g, t, 0, rfl, G, fun d1 H1 s1 nd1 hd1 => ⟨_, rfl, g, t, 1, rfl, G.ext (Ext.of s1), fun d2 H2 s2 nd2 hd2 => ⟨(by show 2 ≤ sizeLine; decide), fun p np => ?_⟩⟩⟩
    have s3 : Same H2 (upd H2 p (.tup [.ref d1, .ref d2])) := Same.upd np
    exact k p _ ((s1.trans s2).trans s3) ((s1.trans s2).free np) ⟨d1, d2, upd_same, s3 _ _ (s2 _ _ hd1), s3 _ _ hd2⟩
/-- the name of best_move's lambdas -/
def qLam : Str := (("best_move" : Str) ++ ".<locals>.") ++ "<lambda>"
def spBest (K : PySem.W.Frag) (CA CG : Addr) (T : List (Addr × Str)) : Sp := fun vs H Q _ => ∃ (g fo : Addr) (t : Pn13.Task) (n k : Nat), vs = [.ref g, nI n, .ref fo] ∧ GameAt K CA CG H g t ∧ EachAt H fo t ∧ Tabs T H ∧ t.best (t.forced 1) (t.forced 2) (decS n) = some k ∧ ∀ H', Ext H H' → Tabs T H' → Q (nI k) H'
abbrev nBest : List Str := ["game", "state", "forced", "moves", "winning", "safe", "others", "own", "move"]
theorem scBest : FnScope nBest ["game", "state", "forced"] (defScope sBest) := ⟨rfl, rfl, rfl, by decide +kernel, rfl, by decide +kernel, by decide +kernel⟩
abbrev tBeh (K : PySem.W.Frag) (CA CG : Addr) (i j k : Nat) : TE := tCall (spBehind K CA CG) [] E0 (tCons (tVar i) (tCons (tVar j) (tCons (tVar k) tNil)))
theorem filt_take {p : Nat → Bool} {l : List Nat} {i m : Nat} (h : l[i]? = some m) : (l.take (i + 1)).filter p = if p m = true then (l.take i).filter p ++ [m] else (l.take i).filter p := by
  rw [take_snoc h, List.filter_append]
  cases c : p m <;> simp [c]
theorem nI_inj {a b : Nat} (h : nI a = nI b) : a = b := by
  injection h with h
  omega
theorem forced_if (t : Pn13.Task) (n : Nat) : (if (decS n).turn = 0 then t.forced 1 else t.forced 2) = t.forced ((decS n).turn + 1) := by
  have h := decS_turn n
  by_cases c : (decS n).turn = 0
  · rw [if_pos c, c]
  · rw [if_neg c, show (decS n).turn = 1 by omega]
theorem forced_if2 (t : Pn13.Task) (n : Nat) : (if (decS n).turn = 0 then t.forced 2 else t.forced 1) = t.forced (1 - (decS n).turn + 1) := by
  have h := decS_turn n
  by_cases c : (decS n).turn = 0
  · rw [if_pos c, c]
  · rw [if_neg c, show (decS n).turn = 1 by omega]
theorem ok_best {f fM fB c PT : Addr} {fd fdM fdB : FuncData} {T : List (Addr × Str)} (F : Fun K "best_move" "best_move" sBest f fd) (hcd : fd.code = .ref c) (TB : TxtB mg) (TT : TabB base mg c PT) (hm : (PT, qLam) ∈ T) (hu1 : ∀ p ∈ T, p.1 = PT → p.2 = qLam)
    (M : FnIs P w K mg base 2 "moves_in" ["game", "state"] (spMoves K CA CG) fM fdM) (B : FnIs P w K mg base 2 "state_behind" ["game", "state", "move"] (spBehind K CA CG) fB fdB) :
    FnOk P w K mg base CX0 5 f fd ["game", "state", "forced"] (spBest K CA CG T) := by
  refine okC F hcd scBest (fun vs H Q E h => ?_) (fun A outer s H vs Q E hr h => ?_)
  · obtain ⟨a, b, c, d, e, rfl, _⟩ := h
    rfl
  · obtain ⟨g, fo, t, n, kb, rfl, G, hE, hT, hk, k⟩ := h
    have hu := hu_of hr
    have hr2 : Room 2 _ := hr.mono (by decide)
    refine ⟨_, pss_cons (ps_set (i := 3) scBest.nd rfl (Or.inl rfl) (pe_call M.ok hr2 rfl M.gl M.kp M.b .nil pass0 (pa_cons (pv 0) (pa_cons (pv 1) pa_nil))))
      (pss_cons (ps_set (i := 7) scBest.nd rfl (Or.inr rfl) (pe_ix ix_tup (pv 2) (pe_op op_mod (pv 1) pe_int) (fun _ _ => rfl)))
      (pss_cons (ps_set (i := 6) scBest.nd rfl (Or.inr rfl) (pe_ix ix_tup (pv 2) (pe_op op_sub pe_int (pe_op op_mod (pv 1) pe_int)) (fun _ _ => rfl)))
      (pss_cons (ps_setLc (i := 4) (own := [("move", 8)]) (g := gName 8) (tt := tB (tDIn (tBeh K CA CG 0 1 8) (tVar 7))) (te := tVar 8) (by rfl) scBest.nd rfl rfl (sw_true rfl rfl rfl (by decide +kernel)) (pi_list (pv 3))
        (blkOk_by (own := [("move", 8)]) (N := nBest) (sc := defScope sBest) (by decide +kernel)) (fun _ _ _ _ _ => pg_name (i := 8) scBest.nd rfl (Or.inl rfl))
        (fun _ _ _ _ _ => pts_one (pt_cmp (pc_din hu (pe_call B.ok hr2 rfl B.gl B.kp B.b .nil pass0 (pa_cons (pv 0) (pa_cons (pv 1) (pa_cons (pv 8) pa_nil)))) (pv 7)) rfl)) (fun _ _ _ _ _ => pv 8))
      (pss_cons (ps_if (pt_cmpR op_gt (pe_callB call_len_seq (by rfl) TB.len PySem.boot_len (pa_cons (pv 4) pa_nil)) pe_int (nomark _))
        (pss_one (ps_ret (pe_keyLam (N := ["move", "game", "own", "state"]) (fr := ["game", "own", "state"]) (js := [0, 7, 1]) (y := "move") (k := 2) (T := T) (tb := tDGet (tVar 2) (tBeh K CA CG 1 3 0)) key_min
          rfl (by rfl) TB.min (by decide +kernel) (by decide) (by decide) TT rfl hm hu1 rfl (lamTxt (sc := defScope sBest) (by decide +kernel) (by decide +kernel) (fun _ _ _ _ _ _ => rfl)) rfl hr (pv 4)
          (fun _ _ _ _ _ _ hr' => pe_dget (hu_of hr') (pv 2) (pe_call B.ok hr' rfl B.gl B.kp B.b .nil pass0 (pa_cons (pv 1) (pa_cons (pv 3) (pa_cons (pv 0) pa_nil)))) (fun _ _ => rfl))))) pss_nil)
      (pss_cons (ps_setLc (i := 5) (own := [("move", 8)]) (g := gName 8) (tt := tB (tDNotIn (tBeh K CA CG 0 1 8) (tVar 6))) (te := tVar 8) (by rfl) scBest.nd rfl rfl (sw_true rfl rfl rfl (by decide +kernel)) (pi_list (pv 3))
        (blkOk_by (own := [("move", 8)]) (N := nBest) (sc := defScope sBest) (by decide +kernel)) (fun _ _ _ _ _ => pg_name (i := 8) scBest.nd rfl (Or.inl rfl))
        (fun _ _ _ _ _ => pts_one (pt_cmp (pc_dnotin hu (pe_call B.ok hr2 rfl B.gl B.kp B.b .nil pass0 (pa_cons (pv 0) (pa_cons (pv 1) (pa_cons (pv 8) pa_nil)))) (pv 6)) rfl)) (fun _ _ _ _ _ => pv 8))
      (pss_cons (ps_if (pt_cmpR op_gt (pe_callB call_len_seq (by rfl) TB.len PySem.boot_len (pa_cons (pv 5) pa_nil)) pe_int (nomark _)) (pss_one (ps_ret (pe_ix ix_list (pv 5) pe_int (fun _ _ => rfl)))) pss_nil)
      (pss_one (ps_ret (pe_keyLam (N := ["move", "game", "others", "state"]) (fr := ["game", "others", "state"]) (js := [0, 6, 1]) (y := "move") (k := 2) (T := T) (tb := tDGet (tVar 2) (tBeh K CA CG 1 3 0)) key_max
          rfl (by rfl) TB.max (by decide +kernel) (by decide) (by decide) TT rfl hm hu1 rfl (lamTxt (sc := defScope sBest) (by decide +kernel) (by decide +kernel) (fun _ _ _ _ _ _ => rfl)) rfl hr (pv 3)
          (fun _ _ _ _ _ _ hr' => pe_dget (hu_of hr') (pv 2) (pe_call B.ok hr' rfl B.gl B.kp B.b .nil pass0 (pa_cons (pv 1) (pa_cons (pv 3) (pa_cons (pv 0) pa_nil)))) (fun _ _ => rfl))))))))))), ?_⟩
    rw [best_eq, forced_if, forced_if2] at hk
    generalize hmi : (fun k => Pn13.level (t.forced ((decS n).turn + 1)) (t.move (decS n) k)) = mine at hk
    generalize hth : (fun k => Pn13.level (t.forced (1 - (decS n).turn + 1)) (t.move (decS n) k)) = theirs at hk
    have few : t.acts.length ≤ 10 := by obtain ⟨la, as, GL⟩ := G; exact GL.few
    have lenM := moves_len (t := t) (u := decS n)
    -- moves = moves_in(game, state)
    refine ⟨_, rfl, _, rfl, g, t, n, rfl, G, fun pm H1 s1 npm hpm => ?_⟩
    obtain ⟨po, pt, xs, hxs, at1, hpo, at2, hpt⟩ := (hE.ext (Ext.of s1)).pick n
    -- own = forced[state % 2]
    refine ⟨_, rfl, _, rfl, _, _, rfl, rfl, (by show (0 : Int) < 2; decide), fo, _, _, _, rfl, rfl, SqT.of hxs, at1, ?_⟩
    -- others = forced[1 - state % 2]
    refine ⟨_, rfl, _, rfl, _, _, rfl, rfl, (by show (0 : Int) < 2; decide), _, _, rfl, rfl, fo, _, _, _, rfl, rfl, SqT.of hxs, at2, ?_⟩
    have sA : Same H H1 := s1
    have G3 := G.ext (Ext.of sA)
    have hM : H1 pm = some (.lst ((t.moves (decS n)).map nI)) := hpm
    have hO : H1 po = some (.dK (dkv (t.forced ((decS n).turn + 1)))) := hpo
    have gO := good_forced t ((decS n).turn + 1)
    have gT := good_forced t (1 - (decS n).turn + 1)
    have T3 : Tabs T H1 := hT.ext sA
    have vO : ∀ m, valV (dkv (t.forced ((decS n).turn + 1))) (Sum.inl (enc (t.move (decS n) m) : Int)) = (mine m).map nI := fun m => by rw [← hmi]; exact dkv_level gO (move_turn _ _ _)
    have vT : ∀ m, valV (dkv (t.forced (1 - (decS n).turn + 1))) (Sum.inl (enc (t.move (decS n) m) : Int)) = (theirs m).map nI := fun m => by rw [← hth]; exact dkv_level gT (move_turn _ _ _)
    have lenF : ∀ (p : Nat → Bool) (i : Nat), (((t.moves (decS n)).take i).filter p).length < sizeLine := fun p i =>
      Nat.lt_of_le_of_lt (Nat.le_trans (List.length_filter_le _ _) (Nat.le_trans (by rw [List.length_take]; exact Nat.min_le_right _ _) (Nat.le_trans lenM (Nat.succ_le_succ few)))) (by decide)
    -- winning = [..]
    refine ⟨_, rfl, pm, rfl, ⟨_, SqL.of hM⟩, fun D nD => ?_⟩
    refine lc_list (K := K) (a := pm) (xs := (t.moves (decS n)).map nI) (fun i H' => H' D = some (.lst ((((t.moves (decS n)).take i).filter fun k => (mine k).isSome).map nI)) ∧ Same H1 H') ⟨by rw [List.take_zero]; exact upd_same, Same.upd nD⟩ (fun i H' _ ⟨_, s4⟩ => SqL.of (s4 _ _ hM)) (fun i x H' hi ⟨hD, s4⟩ => ?_) (fun H4 ⟨hD, s4⟩ => ?_)
    · rw [List.getElem?_map] at hi
      obtain ⟨m, hm', rfl⟩ := Option.map_eq_some_iff.mp hi
      have hl := moves_le (List.mem_of_getElem? hm')
      refine ⟨rfl, _, rfl, _, rfl, _, rfl, g, t, n, m, rfl, G3.ext (Ext.of s4), hl, _, rfl, po, _, rfl, DGet.k (k := Sum.inl (enc (t.move (decS n) m) : Int)) (s4 _ _ hO), _, rfl, ?_⟩
      rw [vO, Option.isSome_map, filt_take hm']
      cases c : (mine m).isSome with
      | false => exact iteF ⟨hD, s4⟩
      | true =>
        refine iteT ⟨_, rfl, _, hD, ?_, ?_, fun b o e => ?_⟩
        · rw [List.length_map]; exact lenF _ _
        · rw [upd_same, if_pos rfl, List.map_append]; rfl
        · rw [upd_ne (ne_of_none e nD)]; exact s4 b o e
    · rw [List.length_map, List.take_length] at hD
      have T4 : Tabs T H4 := T3.ext s4
      -- if len(winning) > 0
      refine ⟨_, rfl, D, _, rfl, .inl (SqL.of hD), _, _, rfl, rfl, _, rfl, ?_⟩
      cases hw : (t.moves (decS n)).filter fun k => (mine k).isSome with
      | cons x0 l0 =>
        rw [hw] at hD
        refine ifT (decide_eq_true (by rw [List.length_map, List.length_cons]; omega)) ?_
        refine ⟨_, rfl, T4, fun H5 e5 T5 => ?_⟩
        have kbe : kb = minBy (fun k => (mine k).getD 0) x0 l0 := by
          unfold bestOf at hk
          rw [hw] at hk
          exact (Option.some.inj hk).symm
        have mem : ∀ m ∈ x0 :: l0, m ∈ t.moves (decS n) ∧ (mine m).isSome = true := fun m hm' => by
          rw [← hw] at hm'
          exact List.mem_filter.mp hm'
        refine ⟨D, (x0 :: l0).map nI, fun i => (((mine ((x0 :: l0).getD i 0)).getD 0 : Nat) : Int), rfl, by rw [List.length_map, List.length_cons]; omega, Ext.seqL e5 (SqL.of hD), fun i x H' hx s6 => ?_, fun x H' s6 hx => ?_⟩
        · rw [List.getElem?_map] at hx
          obtain ⟨m, hm', rfl⟩ := Option.map_eq_some_iff.mp hx
          obtain ⟨hm1, hm2⟩ := mem m (List.mem_of_getElem? hm')
          have hO6 : H' po = some (.dK (dkv (t.forced ((decS n).turn + 1)))) := s6 _ _ (e5 _ _ (s4 _ _ hO) fun ps z => nomatch z)
          have G6 : GameAt K CA CG H' g t := ((G3.ext (Ext.of s4)).ext e5).ext (Ext.of s6)
          obtain ⟨lv, hlv⟩ := Option.isSome_iff_exists.mp hm2
          have gd : (x0 :: l0).getD i 0 = m := by rw [List.getD_eq_getElem?_getD, hm']; rfl
          refine ⟨_, rfl, _, rfl, _, rfl, _, rfl, g, t, n, m, rfl, G6, moves_le hm1, po, nI lv, rfl, .inl ⟨_, Sum.inl (enc (t.move (decS n) m) : Int), .inl hO6, rfl, ?_⟩, ?_, s6⟩
          · rw [vO, hlv]; rfl
          · show nI lv = V.int (((mine ((x0 :: l0).getD i 0)).getD 0 : Nat) : Int)
            rw [gd, hlv]; rfl
        · rw [List.length_map, List.length_cons, List.getElem?_map, show l0.length + 1 - 1 = l0.length by omega, arg_min (fun k => (mine k).getD 0) x0 l0 _ (fun i m hm' => by rw [List.getD_eq_getElem?_getD, hm']; rfl) l0.length (Nat.le_refl _), List.take_length] at hx
          have ex : nI (minBy (fun k => (mine k).getD 0) x0 l0) = x := Option.some.inj hx
          rw [← ex, ← kbe]
          exact k H' ((((Ext.of sA).trans (Ext.of s4)).trans e5).trans (Ext.of s6)) (T5.ext s6)
      | nil =>
        rw [hw] at hD
        refine ifF (decide_eq_false (by rw [List.length_map, List.length_nil]; omega)) ?_
        have G4 := G3.ext (Ext.of s4)
        have hM4 := s4 _ _ hM
        have hO4 : H4 pt = some (.dK (dkv (t.forced (1 - (decS n).turn + 1)))) := s4 _ _ hpt
        unfold bestOf at hk
        rw [hw] at hk
        clear hO hpo hpm
        -- safe = [..]
        refine ⟨_, rfl, pm, rfl, ⟨_, SqL.of hM4⟩, fun D2 nD2 => ?_⟩
        refine lc_list (K := K) (a := pm) (xs := (t.moves (decS n)).map nI) (fun i H' => H' D2 = some (.lst ((((t.moves (decS n)).take i).filter fun k => !(theirs k).isSome).map nI)) ∧ Same H4 H') ⟨by rw [List.take_zero]; exact upd_same, Same.upd nD2⟩ (fun i H' _ ⟨_, s5⟩ => SqL.of (s5 _ _ hM4)) (fun i x H' hi ⟨hD2, s5⟩ => ?_) (fun H5 ⟨hD2, s5⟩ => ?_)
        · rw [List.getElem?_map] at hi
          obtain ⟨m, hm', rfl⟩ := Option.map_eq_some_iff.mp hi
          have hl := moves_le (List.mem_of_getElem? hm')
          refine ⟨rfl, _, rfl, _, rfl, _, rfl, g, t, n, m, rfl, G4.ext (Ext.of s5), hl, _, rfl, pt, _, rfl, DGet.k (k := Sum.inl (enc (t.move (decS n) m) : Int)) (s5 _ _ hO4), _, rfl, ?_⟩
          rw [vT, Option.isSome_map, filt_take hm']
          cases c : (theirs m).isSome with
          | true => exact iteF ⟨hD2, s5⟩
          | false =>
            refine iteT ⟨_, rfl, _, hD2, ?_, ?_, fun b o e => ?_⟩
            · rw [List.length_map]; exact lenF _ _
            · rw [upd_same, if_pos (show (!false) = true from rfl), List.map_append]; rfl
            · rw [upd_ne (ne_of_none e nD2)]; exact s5 b o e
        · rw [List.length_map, List.take_length] at hD2
          have T5 : Tabs T H5 := T4.ext s5
          have G5 := G4.ext (Ext.of s5)
          have hM5 := s5 _ _ hM4
          have hO5 := s5 _ _ hO4
          have sE : Ext H H5 := ((Ext.of sA).trans (Ext.of s4)).trans (Ext.of s5)
          -- if len(safe) > 0
          refine ⟨_, rfl, D2, _, rfl, .inl (SqL.of hD2), _, _, rfl, rfl, _, rfl, ?_⟩
          cases hs : (t.moves (decS n)).filter fun k => !(theirs k).isSome with
          | cons x0 l0 =>
            rw [hs] at hD2 hk
            refine ifT (decide_eq_true (by rw [List.length_map, List.length_cons]; omega)) ?_
            refine ⟨_, rfl, D2, _, _, _, rfl, rfl, SqL.of hD2, atI_nat (j := 0) rfl, ?_⟩
            have e : x0 = kb := Option.some.inj hk
            rw [e]
            exact k H5 sE T5
          | nil =>
            rw [hs] at hD2 hk
            refine ifF (decide_eq_false (by rw [List.length_map, List.length_nil]; omega)) ?_
            cases hmv : t.moves (decS n) with
            | nil => rw [hmv] at hk; cases hk
            | cons x0 l0 =>
              have kbe : kb = maxBy (fun k => (theirs k).getD 0) x0 l0 := by
                rw [hmv] at hk
                exact (Option.some.inj hk).symm
              have all : ∀ m ∈ x0 :: l0, m ∈ t.moves (decS n) ∧ (theirs m).isSome = true := fun m hm' => by
                rw [← hmv] at hm'
                refine ⟨hm', ?_⟩
                have q := List.filter_eq_nil_iff.mp hs m hm'
                cases z : (theirs m).isSome with
                | true => rfl
                | false => rw [z] at q; exact absurd rfl q
              refine ⟨_, rfl, T5, fun H6 e6 T6 => ?_⟩
              refine ⟨pm, (x0 :: l0).map nI, fun i => (((theirs ((x0 :: l0).getD i 0)).getD 0 : Nat) : Int), rfl, by rw [List.length_map, List.length_cons]; omega, Ext.seqL e6 (SqL.of (by rw [← hmv]; exact hM5)), fun i x H' hx s7 => ?_, fun x H' s7 hx => ?_⟩
              · rw [List.getElem?_map] at hx
                obtain ⟨m, hm', rfl⟩ := Option.map_eq_some_iff.mp hx
                obtain ⟨hm1, hm2⟩ := all m (List.mem_of_getElem? hm')
                have hO7 : H' pt = some (.dK (dkv (t.forced (1 - (decS n).turn + 1)))) := s7 _ _ (e6 _ _ hO5 fun ps z => nomatch z)
                have G7 : GameAt K CA CG H' g t := (G5.ext e6).ext (Ext.of s7)
                obtain ⟨lv, hlv⟩ := Option.isSome_iff_exists.mp hm2
                have gd : (x0 :: l0).getD i 0 = m := by rw [List.getD_eq_getElem?_getD, hm']; rfl
                refine ⟨_, rfl, _, rfl, _, rfl, _, rfl, g, t, n, m, rfl, G7, moves_le hm1, pt, nI lv, rfl, .inl ⟨_, Sum.inl (enc (t.move (decS n) m) : Int), .inl hO7, rfl, ?_⟩, ?_, s7⟩
                · rw [vT, hlv]; rfl
                · show nI lv = V.int (((theirs ((x0 :: l0).getD i 0)).getD 0 : Nat) : Int)
                  rw [gd, hlv]; rfl
              · rw [List.length_map, List.length_cons, List.getElem?_map, show l0.length + 1 - 1 = l0.length by omega, arg_max (fun k => (theirs k).getD 0) x0 l0 _ (fun i m hm' => by rw [List.getD_eq_getElem?_getD, hm']; rfl) l0.length (Nat.le_refl _), List.take_length] at hx
                have ex : nI (maxBy (fun k => (theirs k).getD 0) x0 l0) = x := Option.some.inj hx
                rw [← ex, ← kbe]
                exact k H' ((sE.trans e6).trans (Ext.of s7)) (T6.ext s7)
end
end Ao
set_option Elab.async false
set_option maxRecDepth 100000
set_option maxHeartbeats 2000000
namespace Ao
open PySem PySem.Spec PyProof.Rows L2 LamX NdefX AoLam
abbrev sLine : Stmt := top 15
/-- a store to a list that is not the list of acts leaves the game -/
theorem GameL.upd_list {K : PySem.W.Frag} {CA CG : Addr} {H : Hp} {g la p : Addr} {as : List Addr} {t : Pn13.Task} {xs : List V} {o : HO} (x : GameL K CA CG H g la as t) (hp : H p = some (.lst xs)) (n : p ≠ la) : GameL K CA CG (upd H p o) g la as t := by
  obtain ⟨dg, wa, ma, h1, h2, h3⟩ := x.ob
  have go : ∀ {b : Addr} {u : HO}, H b = some u → (∀ xs, u ≠ .lst xs) → upd H p o b = some u := fun {b u} e n => by
    have : b ≠ p := fun z => by
      rw [z, hp] at e
      exact n _ (Option.some.inj e).symm
    rw [upd_ne this]
    exact e
  have goT : ∀ {b : Addr} {ys : List V}, SqT K H b ys → SqT K (upd H p o) b ys := fun {b ys} q => by
    rcases q with (q | ⟨ob, q⟩) | q
    · exact .inl (.inl (go q fun _ z => nomatch z))
    · exact .inl (.inr ⟨ob, go q fun _ z => nomatch z⟩)
    · exact .inr q
  refine ⟨⟨dg, wa, ma, (go h1 fun _ z => nomatch z), goT h2, goT h3⟩, by rw [upd_ne n.symm]; exact x.lst, x.len, fun i b hb => ?_, x.few, x.fc⟩
  obtain ⟨y, h4, dy, h5⟩ := x.acts i b hb
  exact ⟨y, h4, dy, go h5 fun _ z => nomatch z⟩
theorem EachAt.upd_list {H : Hp} {q p : Addr} {t : Pn13.Task} {xs : List V} {o : HO} (x : EachAt H q t) (hp : H p = some (.lst xs)) : EachAt (upd H p o) q t := by
  have go : ∀ {b : Addr} {u : HO}, H b = some u → (∀ xs, u ≠ .lst xs) → upd H p o b = some u := fun {b u} e n => by
    have : b ≠ p := fun z => by
      rw [z, hp] at e
      exact n _ (Option.some.inj e).symm
    rw [upd_ne this]
    exact e
  obtain ⟨d1, d2, h1, h2, h3⟩ := x
  exact ⟨d1, d2, (go h1 fun _ z => nomatch z), (go h2 fun _ z => nomatch z), (go h3 fun _ z => nomatch z)⟩
theorem tabs_list {T : List (Addr × Str)} {H : Hp} {p : Addr} {xs : List V} {o : HO} (h : Tabs T H) (hp : H p = some (.lst xs)) : Tabs T (upd H p o) := fun q hq => by
  obtain ⟨ps, h1, h2, h3⟩ := h q hq
  have go : ∀ {b : Addr} {v : HO}, H b = some v → HO.lst xs ≠ v → upd H p o b = some v := fun {b v} e n => by
    have : b ≠ p := fun z => by
      rw [z, hp] at e
      exact n (Option.some.inj e)
    rw [upd_ne this]
    exact e
  refine ⟨ps, go h1 (fun z => nomatch z), h2, fun pos cv hc => ?_⟩
  obtain ⟨cd, e1, e2⟩ := h3 pos cv hc
  refine ⟨cd, e1, go e2 fun z => ?_⟩
  unfold CodeO at z
  cases z
section
variable {P : Program} {w : World} {K : PySem.W.Frag} {mg : Str → Option Value} {base : Heap} {CA CG : Addr}
abbrev lineOf (t : Pn13.Task) (m : Nat) (u : Pn13.State) : List Nat := t.line (t.forced 1) (t.forced 2) m u
def spLine (K : PySem.W.Frag) (CA CG : Addr) (T : List (Addr × Str)) : Sp := fun vs H Q _ => ∃ (g : Addr) (t : Pn13.Task) (n m : Nat), vs = [.ref g, nI n, nI m] ∧ GameAt K CA CG H g t ∧ Tabs T H ∧ m ≤ 40 ∧
  ∀ (p : Addr) (H' : Hp), Ext H H' → Tabs T H' → H p = none → H' p = some (.lst ((lineOf t m (decS n)).map nI)) → Q (.ref p) H'
abbrev nLine : List Str := ["game", "state", "most", "forced", "made", "move"]
theorem scLine : FnScope nLine ["game", "state", "most"] (defScope sLine) := ⟨rfl, rfl, rfl, by decide +kernel, rfl, by decide +kernel, by decide +kernel⟩
/-- where the loop stands: n the state's number -/
structure LineAt (K : PySem.W.Frag) (CA CG : Addr) (T : List (Addr × Str)) (H0 : Hp) (g la fo ma : Addr) (as : List Addr) (t : Pn13.Task) (m : Nat) (whole : List Nat) (n : Nat) (H : Hp) : Prop where
  out : ∃ out : List Nat, H ma = some (.lst (out.map nI)) ∧ out.length ≤ m ∧ out ++ lineOf t (m - out.length) (decS n) = whole
  game : GameL K CA CG H g la as t
  each : EachAt H fo t
  ext : Ext H0 H
  tabs : Tabs T H
def madeOf (ma : Addr) (H : Hp) : Nat := match H ma with
  | some (.lst xs) => xs.length
  | _ => 0
theorem madeOf_is {ma : Addr} {H : Hp} {xs : List V} (h : H ma = some (.lst xs)) : madeOf ma H = xs.length := by
  unfold madeOf
  rw [h]
theorem ok_line {f fM fE fB fS : Addr} {fd fdM fdE fdB fdS : FuncData} {T : List (Addr × Str)} (F : Fun K "best_line" "best_line" sLine f fd) (TB : TxtB mg) (M : FnIs P w K mg base 2 "moves_in" ["game", "state"] (spMoves K CA CG) fM fdM) (EA : FnIs P w K mg base 5 "forced_by_each" ["game"] (spEach K CA CG) fE fdE)
    (B : FnIs P w K mg base 5 "best_move" ["game", "state", "forced"] (spBest K CA CG T) fB fdB) (S : FnIs P w K mg base 2 "state_behind" ["game", "state", "move"] (spBehind K CA CG) fS fdS) :
    FnOk P w K mg base CX0 6 f fd ["game", "state", "most"] (spLine K CA CG T) := by
  refine F.ok scLine (fun vs H Q E h => ?_) (fun cdv A outer s H vs Q E hr h => ?_)
  · obtain ⟨a, b, c, d, rfl, _⟩ := h
    rfl
  · obtain ⟨g, t, n0, m, rfl, G, hT, hm, k⟩ := h
    have hr2 : Room 2 _ := hr.mono (by decide)
    refine ⟨_, pss_cons (ps_set (i := 3) scLine.nd rfl (Or.inl rfl) (pe_call EA.ok hr rfl EA.gl EA.kp EA.b .nil pass0 (pa_cons (pv 0) pa_nil)))
      (pss_cons (ps_set (i := 4) scLine.nd rfl (Or.inl rfl) (pe_lst pa_nil))
      (pss_cons (ps_while PassesOwn.never (PW.pt (pw_and (pt_cmpR op_lt (pe_callB call_len_seq (by rfl) TB.len PySem.boot_len (pa_cons (pv 4) pa_nil)) (pv 2) (nomark _)) (pw_and1 (pt_cmpR op_gt (pe_callB call_len_seq (by rfl) TB.len PySem.boot_len (pa_cons (pe_call M.ok hr2 rfl M.gl M.kp M.b .nil pass0 (pa_cons (pv 0) (pa_cons (pv 1) pa_nil))) pa_nil)) pe_int (nomark _)))))
        (pss_cons (ps_set (i := 5) scLine.nd rfl (Or.inl rfl) (pe_call B.ok hr rfl B.gl B.kp B.b .nil pass0 (pa_cons (pv 0) (pa_cons (pv 1) (pa_cons (pv 3) pa_nil)))))
        (pss_cons (ps_expr (pe_bm PySem.F.plainAttrs_list PySem.F.slot_list_append PySem.F.type_list_append mt_append (pv 4) (pa_cons (pv 5) pa_nil)))
        (pss_one (ps_set (i := 1) scLine.nd rfl (Or.inl rfl) (pe_call S.ok hr2 rfl S.gl S.kp S.b .nil pass0 (pa_cons (pv 0) (pa_cons (pv 1) (pa_cons (pv 5) pa_nil)))))))))
      (pss_one (ps_ret (pv 4))))), ?_⟩
    -- forced = forced_by_each(game)
    refine ⟨_, rfl, g, t, rfl, G, fun fo H1 s1 nfo hfo => ?_⟩
    obtain ⟨la, as, GL⟩ := G
    -- made = []
    refine ⟨Nat.zero_le _, fun ma nma => ?_⟩
    have s2 : Same H1 (upd H1 ma (.lst [])) := Same.upd nma
    have GL1 := GL.ext (Ext.of s1)
    have nla : ma ≠ la := (ne_of_none GL1.lst nma).symm
    have nmaH : H ma = none := s1.free nma
    have start : LineAt K CA CG T H g la fo ma as t m (lineOf t m (decS n0)) n0 (upd H1 ma (.lst [])) := ⟨⟨[], upd_same, Nat.zero_le _, rfl⟩, GL1.ext (Ext.of s2), hfo.ext (Ext.of s2), Ext.of (s1.trans s2), hT.ext (s1.trans s2)⟩
    refine while_by (fun σ H' => ∃ (n : Nat) (v5 : Option V), σ = [some (.ref g), some (nI n), some (nI m), some (.ref fo), some (.ref ma), v5] ∧ LineAt K CA CG T H g la fo ma as t m (lineOf t m (decS n0)) n H') (fun _ H' => m - madeOf ma H')
      ⟨n0, none, rfl, start⟩ (fun σ H2 hP => ?_) (fun σ H Q Q' hQ h => ?_)
    · obtain ⟨n, v5, rfl, L⟩ := hP
      obtain ⟨out, ho, hlen, hall⟩ := L.out
      refine ⟨_, rfl, ma, _, rfl, .inl (SqL.of ho), _, rfl, _, _, rfl, rfl, _, rfl, ?_⟩
      rw [List.length_map]
      by_cases c1 : out.length < m
      · refine ifT (decide_eq_true (by omega)) ?_
        refine ⟨_, rfl, _, rfl, g, t, n, rfl, ⟨la, as, L.game⟩, fun pm H3 s3 npm hpm => ?_⟩
        refine ⟨pm, _, rfl, .inl (SqL.of hpm), _, _, rfl, rfl, _, rfl, ?_⟩
        rw [List.length_map]
        have GL3 := L.game.ext (Ext.of s3)
        cases hb : t.best (t.forced 1) (t.forced 2) (decS n) with
        | none =>
          have em := (best_none _ _ _ _).mp hb
          refine ifF (decide_eq_false (by rw [em, List.length_nil]; omega)) ?_
          rw [show lineOf t (m - out.length) (decS n) = [] from line_none hb _, List.append_nil] at hall
          rw [hall] at ho
          exact ⟨_, rfl, k ma _ (L.ext.trans (Ext.of s3)) (L.tabs.ext s3) nmaH (s3 _ _ ho)⟩
        | some kb =>
          have hkm := best_mem hb
          have em : 0 < (t.moves (decS n)).length := List.length_pos_of_mem hkm
          refine ifT (decide_eq_true (by omega)) ?_
          -- move = best_move(game, state, forced)
          refine ⟨_, rfl, _, rfl, _, rfl, g, fo, t, n, kb, rfl, ⟨la, as, GL3⟩, L.each.ext (Ext.of s3), L.tabs.ext s3, hb, fun H4 e4 T4 => ?_⟩
          have ho4 : H4 ma = some (.lst (out.map nI)) := e4 _ _ (s3 _ _ ho) fun ps z => nomatch z
          have GL4 := GL3.ext e4
          -- made.append(move)
          refine ⟨_, rfl, .inl ⟨rfl, _, SqL.of ho4⟩, _, rfl, ma, _, _, rfl, rfl, ho4, ?_, ?_⟩
          · rw [List.length_map]
            exact Nat.lt_of_lt_of_le (Nat.lt_of_lt_of_le c1 hm) (by decide)
          -- state = state_behind(game, state, move)
          have GL5 := GL4.upd_list (o := .lst (out.map nI ++ [nI kb])) ho4 nla
          refine ⟨_, rfl, _, rfl, _, rfl, g, t, n, kb, rfl, ⟨la, as, GL5⟩, moves_le hkm, ?_⟩
          refine ⟨⟨enc (t.move (decS n) kb), some (nI kb), rfl, ⟨out ++ [kb], ?_, ?_, ?_⟩, GL5, ((L.each.ext (Ext.of s3)).ext e4).upd_list ho4, ?_, tabs_list T4 ho4⟩, ?_⟩
          · rw [upd_same, List.map_append]
            rfl
          · rw [List.length_append, List.length_singleton]
            omega
          · rw [dec_enc (move_turn _ _ _), ← hall, show m - out.length = (m - (out ++ [kb]).length) + 1 by rw [List.length_append, List.length_singleton]; omega, List.append_assoc]
            exact congrArg (out ++ ·) (line_some hb).symm
          · intro b o e nt
            have nb : b ≠ ma := ne_of_none e nmaH
            rw [upd_ne nb]
            exact e4 _ _ (s3 _ _ (L.ext b o e nt)) nt
          · rw [madeOf_is ho, madeOf_is (xs := out.map nI ++ [nI kb]) upd_same, List.length_append, List.length_map, List.length_singleton]
            omega
      · refine ifF (decide_eq_false (by omega)) (iteF ?_)
        have e0 : m - out.length = 0 := by omega
        rw [e0, show lineOf t 0 (decS n) = [] from rfl, List.append_nil] at hall
        rw [hall] at ho
        exact ⟨_, rfl, k ma _ L.ext L.tabs nmaH ho⟩
    · obtain ⟨v, e, p, ys, e3, h3, v2, e2, i, j, e4, e5, kk, e6, q⟩ := h
      refine ⟨v, e, p, ys, e3, h3, v2, e2, i, j, e4, e5, kk, e6, ?_⟩
      by_cases c : kk = true
      · rw [if_pos c] at q ⊢
        obtain ⟨v3, e7, v4, e8, g, t, n, e9, G, nw⟩ := q
        refine ⟨v3, e7, v4, e8, g, t, n, e9, G, fun p H' s np hp => ?_⟩
        obtain ⟨p', ys', e10, h10, i', j', e11, e12, kk', e13, q'⟩ := nw p H' s np hp
        exact ⟨p', ys', e10, h10, i', j', e11, e12, kk', e13, hQ _ _ q'⟩
      · rw [if_neg c] at q ⊢
        exact hQ _ _ q
end
end Ao
set_option Elab.async false
set_option maxRecDepth 100000
set_option maxHeartbeats 2000000
/-! The end of a row against a function of plain Lean, where a def of the program makes lambdas: the tables of code objects are tracked from the start. -/
namespace AoEnd
open PySem PySem.Spec PyProof.Rows L2 LamX
open PySem.W (WData Codec OpenSpec WellAll ReadsW CodeHd tabObj)
/-! ### data stays data in a larger heap -/
section
variable {K : PySem.W.Frag} {H H' : Hp}
theorem sqL_more (e : Same H H') {a : Addr} {xs : List V} (h : SqL K H a xs) : SqL K H' a xs := e.seq h
theorem sqT_more (e : Same H H') {a : Addr} {xs : List V} (h : SqT K H a xs) : SqT K H' a xs := by
  cases h with
  | inr q => exact .inr q
  | inl q => exact .inl (q.elim (fun z => .inl (e _ _ z)) fun ⟨o, z⟩ => .inr ⟨o, e _ _ z⟩)
mutual
theorem dw_more (e : Same H H') : ∀ {v : V} {d : WData}, Dw K H v d → Dw K H' v d
  | _, _, .non => .non
  | _, _, .bl b => .bl b
  | _, _, .int i => .int i
  | _, _, .str x => .str x
  | _, _, .byt b => .byt b
  | _, _, .lst h a => .lst (sqL_more e h) (dws_more e a)
  | _, _, .tup h a => .tup (sqT_more e h) (dws_more e a)
theorem dws_more (e : Same H H') : ∀ {vs : List V} {ds : List WData}, DwAll K H vs ds → DwAll K H' vs ds
  | _, _, .nil => .nil
  | _, _, .cons h t => .cons (dw_more e h) (dws_more e t)
end
end
/-! ### the heap at the call: the arguments, and the tables -/
/-- the tables at ts, each empty; else what H tells -/
def withT (ts : List Addr) (H : Hp) : Hp := fun b => if b ∈ ts then some (.tbl #[]) else H b
theorem withT_in {ts : List Addr} {H : Hp} {b : Addr} (h : b ∈ ts) : withT ts H b = some (.tbl #[]) := if_pos h
theorem withT_out {ts : List Addr} {H : Hp} {b : Addr} (h : b ∉ ts) : withT ts H b = H b := if_neg h
/-- a program's code objects and their tables, as the top left them -/
structure TabsAt (K : PySem.W.Frag) (cs : List (Addr × Addr)) (h : Heap) : Prop where
  hd : ∀ p ∈ cs, CodeHd h p.1 p.2
  em : ∀ p ∈ cs, h.get? p.2 = some (tabObj #[])
  no : ∀ p ∈ cs, K.lookup p.2 = none
abbrev tabsOf (cs : List (Addr × Addr)) : List Addr := cs.map (·.2)
section
variable {P : Program} {w : World} {K : PySem.W.Frag} {mg mb : Str → Option Value} {s : Shared} {cs : List (Addr × Addr)} {A : List Addr}
theorem TabsAt.at {h : Heap} (C : TabsAt K cs h) {b : Addr} (hb : b ∈ tabsOf cs) : h.get? b = some (tabObj #[]) := by
  obtain ⟨p, hp, rfl⟩ := List.mem_map.mp hb
  exact C.em p hp
theorem arg_apart {h : Heap} (C : TabsAt K cs h) (ar : ∀ a ∈ A, ArgOb h A a) {b : Addr} {u : HO} (q : argH K h A b = some u) : b ∉ tabsOf cs := fun hb => by
  have e := C.at hb
  obtain ⟨_, vs, _, _, z⟩ := argH_is ar q
  rcases z with ⟨z, _⟩ | ⟨z, _⟩
  · rw [z] at e; injection e with e; injection e with e _; cases e
  · rw [z] at e; injection e with e; injection e with e _; cases e
theorem same_with {h : Heap} (C : TabsAt K cs h) (ar : ∀ a ∈ A, ArgOb h A a) : Same (argH K h A) (withT (tabsOf cs) (argH K h A)) := fun b o q => by
  rw [withT_out (arg_apart C ar q)]
  exact q
theorem ok_with {h : Heap} (C : TabsAt K cs h) (ar : ∀ a ∈ A, ArgOb h A a) : HOk P w (withT (tabsOf cs) (argH K h A)) h := fun b u q => by
  by_cases hb : b ∈ tabsOf cs
  · rw [withT_in hb] at q
    cases q
    exact C.at hb
  · rw [withT_out hb] at q
    exact (argH_ok (P := P) (w := w) ar b u q).stay (fun _ _ _ z => z) (fun c z => same_with C ar c _ z) fun c xs z => same_with C ar c _ z
/-- what is tracked is a table, or locked -/
theorem with_only {h : Heap} (ar : ∀ a ∈ A, ArgOb h A a) (b : Addr) : withT (tabsOf cs) (argH K h A) b = none ∨ b ∈ tabsOf cs ∨ ∃ o u, withT (tabsOf cs) (argH K h A) b = some (.frz o u) := by
  by_cases hb : b ∈ tabsOf cs
  · exact .inr (.inl hb)
  · rw [withT_out hb]
    exact (argH_only ar b).elim .inl fun z => .inr (.inr z)
/-- an object that is no list, no tuple, no empty table is not tracked -/
theorem with_none {h : Heap} (C : TabsAt K cs h) (ar : ∀ a ∈ A, ArgOb h A a) {b : Addr} {o : Obj} (e : h.get? b = some o) (n1 : o ≠ tabObj #[]) (n2 : ∀ (vs : Array Value) (n : Nat), o.data ≠ .seq vs n) : withT (tabsOf cs) (argH K h A) b = none := by
  by_cases hb : b ∈ tabsOf cs
  · have z := C.at hb
    rw [e] at z
    exact absurd (Option.some.inj z) n1
  · rw [withT_out hb]
    cases q : argH K h A b with
    | none => rfl
    | some u =>
      obtain ⟨_, vs, _, _, z⟩ := argH_is ar q
      rcases z with ⟨z, _⟩ | ⟨z, _⟩
      · rw [e] at z; exact absurd (congrArg Obj.data (Option.some.inj z)) (n2 _ _)
      · rw [e] at z; exact absurd (congrArg Obj.data (Option.some.inj z)) (n2 _ _)
theorem written_none {h : Heap} (C : TabsAt K cs h) (ar : ∀ a ∈ A, ArgOb h A a) {b : Addr} {o : Obj} (e : K.lookup b = some o) : withT (tabsOf cs) (argH K h A) b = none := by
  have nt : b ∉ tabsOf cs := fun hb => by
    obtain ⟨p, hp, rfl⟩ := List.mem_map.mp hb
    rw [C.no p hp] at e
    cases e
  rw [withT_out nt]
  cases q : argH K h A b with
  | none => rfl
  | some u => rw [(argH_is ar q).1] at e; cases e
end
/-- what the top's machine leaves besides -/
structure Left (K : PySem.W.Frag) (mg mb : Str → Option Value) (s : Shared) : Prop where
  kin : K.In s.heap
  glob : s.heap.Ns mainGlobals mg
  blt : s.heap.Ns builtinsNs mb
  boot : ∀ x : Str, x ≠ "__name__" → mb x = bootBuiltins x
  lim : s.heap.NoLimit
  gens : s.gens = #[]
  main : ∃ (bm : Addr) (ob : Obj), mg "__builtins__" = some (.ref bm) ∧ bm ≠ builtinsNs ∧ s.heap.get? bm = some ob ∧ ob.cls = .type "module" ∧ ob.dict = some builtinsNs ∧ ob.data = .plain
section
variable {P : Program} {w : World} {K : PySem.W.Frag} {mg mb : Str → Option Value} {s : Shared} {cs : List (Addr × Addr)} {A : List Addr}
theorem ns_hid {H : Hp} {h : Heap} {b : Addr} {m : Str → Option Value} (n : ∀ o es ep, h.get? b = some o → o.data = .dict es ep → H b = none) (x : h.Ns b m) : (hidT h H).Ns b m := by
  obtain ⟨o, es, ep, e, d, r⟩ := x
  exact ⟨o, es, ep, hidT_get e (n o es ep e d), d, r⟩
theorem env_with (L : Left K mg mb s) (C : TabsAt K cs s.heap) (ar : ∀ a ∈ A, ArgOb s.heap A a) : Env0 P w K mg (hidT s.heap (withT (tabsOf cs) (argH K s.heap A))) callerA [] s (withT (tabsOf cs) (argH K s.heap A)) := by
  have nd : ∀ b o es ep, s.heap.get? b = some o → o.data = .dict es ep → withT (tabsOf cs) (argH K s.heap A) b = none := fun b o es ep e d => by
    refine with_none C ar e (fun z => ?_) fun vs n z => ?_
    · rw [z] at d; cases d
    · rw [d] at z; cases z
  have md : L2.Mod K mg (hidT s.heap (withT (tabsOf cs) (argH K s.heap A))) := by
    refine ⟨fun b o e => hidT_get (L.kin b o e) (written_none C ar e), ns_hid (nd _) L.glob, ⟨mb, ns_hid (nd _) L.blt, L.boot⟩, ?_⟩
    obtain ⟨mc, h1, h2⟩ := L.lim
    exact ⟨mc, ns_hid (nd _) h1, h2⟩
  exact ⟨rfl, md, fun b o e => of_hidT e, Nat.le_of_eq (hidT_size _ _), trivial, (fun b hb => nomatch (show b ∈ ([] : List Addr) from hb)), ok_with C ar, AllBare.of_eq L.gens⟩
theorem tab_with (L : Left K mg mb s) (C : TabsAt K cs s.heap) (ar : ∀ a ∈ A, ArgOb s.heap A a) : ∀ p ∈ cs, TabB (hidT s.heap (withT (tabsOf cs) (argH K s.heap A))) mg p.1 p.2 := fun p hp => by
  have em := C.em p hp
  have gn : mainGlobals ≠ p.2 := fun z => by
    obtain ⟨o, es, ep, e, d, _⟩ := L.glob
    rw [z, em] at e
    cases e
    cases d
  refine ⟨?_, ?_, gn⟩
  · obtain ⟨o, vs, fl, t1, fg, t2, inF, tx, t3, e, r1, r2, r3, rest⟩ := C.hd p hp
    refine ⟨o, vs, fl, t1, fg, t2, inF, tx, t3, hidT_get e (with_none C ar e (fun z => ?_) fun us n z => ?_), r1, r2, r3, rest⟩
    · rw [z] at r1; cases r1
    · rw [r2] at z; cases z
  · obtain ⟨bm, ob, b1, b2, b3, b4, b5, b6⟩ := L.main
    refine ⟨bm, ob, b1, b2, fun z => ?_, fun z => ?_, hidT_get b3 (with_none C ar b3 (fun z => ?_) fun us n z => ?_), b4, b5, b6⟩
    · obtain ⟨o, es, ep, e, d, _⟩ := L.glob
      rw [z, e] at b3
      cases b3
      rw [d] at b6
      cases b6
    · rw [z, em] at b3
      cases b3
      cases b4
    · rw [z] at b4; cases b4
    · rw [b6] at z; cases z
/-- the call, from the promise of the row's def -/
theorem call_tabs {k : Nat} {fa : Addr} {fd : FuncData} {ps : List Str} {sp : Sp} {vals : List Value} {ds : List WData} {R : PySem.W.WRecords} {cl : Str → Option Addr} {d0 : WData} (L : Left K mg mb s) (C : TabsAt K cs s.heap) (well : WellAll w.params s.heap vals ds) (pl : plWs ds = true) (wt : ∀ d ∈ ds, d.weight ≤ 1048576) (room : Room k callerA)
    (F : ∀ base : Heap, K.In base → base.Ns mainGlobals mg → (∀ p ∈ cs, TabB base mg p.1 p.2) → FnOk P w K mg base CX0 k fa fd ps sp) (bind : ∀ (s : Shared) (us : List Value), us.length = ps.length → BindsTo s fd ⟨us, []⟩ (ps.zip us)) (len : ds.length = ps.length)
    (asks : ∀ (H : Hp) (xs : List V), (∀ p ∈ cs, H p.2 = some (.tbl #[])) → DwAll K H xs ds → sp xs H (fun v H' => Dw K H' v d0) fun _ _ _ => False) :
    codeAny (model P w) callerA (.call (.ref fa) ⟨vals, []⟩) (fun r s' => ∃ u as, r = .ok (.ret u) ∧ ReadsW R cl s'.heap u d0 as ∧ OldK s.heap s'.heap ∧ s'.os = s.os ∧ AllBare s'.gens) s := by
  obtain ⟨A, inA, ar⟩ := area_all ds vals well pl wt
  have e0 := env_with (P := P) (w := w) L C ar
  have dws := dws_more (same_with C ar) (dw_all L.kin ar ds vals well pl inA)
  have lens : vals.length = ps.length := (wellAll_len well).trans len
  have hT : ∀ p ∈ cs, withT (tabsOf cs) (argH K s.heap A) p.2 = some (.tbl #[]) := fun p hp => withT_in (List.mem_map.mpr ⟨p, hp, rfl⟩)
  have run := (F _ e0.mod.kin e0.mod.glob (tab_with L C ar)).run callerA [] s _ ⟨vals, []⟩ vals (vals.map toV) _ _ room e0 (bind s vals lens) (vals_toV inA) (asks _ _ hT dws)
  refine codeAny_mono run fun r s' res => ?_
  match r, res with
  | .ok (.ret u), ⟨v, H', os, bare, un, ok', rv, q⟩ =>
    have kept : ∀ b o, b ∉ tabsOf cs → s.heap.get? b = some o → s'.heap.get? b = some o := fun b o nb e => by
      rcases with_only ar b with z | z | ⟨ob, x, z⟩
      · exact un.keep b o e z (fun z => nomatch (show b ∈ ([] : List Addr) from z)) (by simp)
      · exact absurd z nb
      · have e1 := (ok_with (P := P) (w := w) C ar b _ z).1
        have e2 := (ok' b _ (un.frzs b ob _ z)).1
        rw [e] at e1
        cases e1
        exact e2
    have grown : ∀ b ∈ tabsOf cs, ∃ more : Array Value, s'.heap.get? b = some (tabObj more) := fun b hb => by
      obtain ⟨more, z⟩ := un.tbls b #[] (withT_in hb)
      exact ⟨_, ok' b _ z⟩
    have old : OldK s.heap s'.heap := by
      constructor
      · intro b o e
        by_cases hb : b ∈ tabsOf cs
        · obtain ⟨p, hp, rfl⟩ := List.mem_map.mp hb
          obtain ⟨more, z⟩ := grown _ hb
          have em := C.em p hp
          rw [e] at em
          cases em
          refine .inr (.inl ⟨((C.hd p hp).tab (C.em p hp)).isCodeTable, rfl, #[], more, rfl, ?_⟩)
          rw [Array.empty_append]
          exact z
        · exact .inl (kept b o hb e)
      · intro b o e
        by_cases hb : b ∈ tabsOf cs
        · obtain ⟨more, z⟩ := grown b hb
          exact ⟨_, z⟩
        · exact ⟨o, kept b o hb e⟩
    have kin' : K.In s'.heap := fun b o e => by
      refine kept b o (fun hb => ?_) (L.kin b o e)
      obtain ⟨p, hp, rfl⟩ := List.mem_map.mp hb
      rw [C.no p hp] at e
      cases e
    obtain ⟨as, rd⟩ := Dw.reads (R := R) (cl := cl) ok' kin' d0 v u q rv
    exact ⟨u, as, rfl, rd, old, os, bare⟩
end
/-- the row: from what the top has left (F) and the promise's meaning -/
theorem walk_tabs {r : OpenSpec} {k : Nat} {q : Program} {loose : List Str} {XP : (Str → Option Value) → Heap → Prop} {YP : World → Heap → Prop} {d : DefRec} {K : Params → PySem.W.Frag} {ps : List Str} (well : r.wellSaid = true) (len : r.args.length = ps.length) (room : Room k callerA) (hY : ∀ (w : World) (h : Heap), YP w h → (K w.params).In h)
    (F : ∀ (w : World) (mg mb : Str → Option Value) (mean : PySem.ExcName → Option Value) (fa : Addr) (h : Heap), YP w h → (K w.params).In h → Top q (PySem.W.looseW q loose) mean mg mb h → mg d.name = some (.ref fa) → ∃ (fd : FuncData) (cs : List (Addr × Addr)) (sp : Sp), TabsAt (K w.params) cs h ∧
      (∀ (s : Shared) (us : List Value), us.length = ps.length → BindsTo s fd ⟨us, []⟩ (ps.zip us)) ∧
      (∀ (H : Hp) (xs : List V) (a : Codec.denoteAll r.args), (∀ p ∈ cs, H p.2 = some (.tbl #[])) → Codec.withinAll r.args a = true → Codec.app r.args r.asked a = true → DwAll (K w.params) H xs (Codec.encAll r.args a) → sp xs H (fun v H' => Dw (K w.params) H' v (r.ret.enc (Codec.app r.args r.f a))) fun _ _ _ => False) ∧
      ∀ base : Heap, (K w.params).In base → base.Ns mainGlobals mg → (∀ p ∈ cs, TabB base mg p.1 p.2) → FnOk r.prog w (K w.params) mg base CX0 k fa fd ps sp) :
    PySem.W.WalkOS q loose XP YP r d [] (fun g us => PySem.call g us) := by
  intro w s0 s1 mg mb ground says fa o pm cd doc dV kV _ _ _ _ isFn noGens args vals as pre lay _ wells _
  obtain ⟨a, e1, asked⟩ := PySem.W.os_pre_some pre
  obtain ⟨e3, inside⟩ := Codec.encAll_of_decAll r.args args a e1
  subst e3
  have kin := hY w s1.heap says
  have T := ground.T
  obtain ⟨fd, cs, sp, C, bind, asks, ok⟩ := F w mg mb _ fa s1.heap says kin T isFn
  have L : Left (K w.params) mg mb s1 := ⟨kin, T.g, T.b, T.builtins, T.nolimit, noGens, T.bmain⟩
  have all := call_tabs (R := []) (cl := classAt s0.heap) (d0 := r.ret.enc (Codec.app r.args r.f a)) L C wells (pl_encAll _ _) (layable_weight lay) room ok bind (by rw [encAll_len]; exact len) fun H xs hT dws => asks H xs a hT inside asked dws
  refine PySem.W.enter_call (codeAny_mono all ?_)
  rintro res s' ⟨u, as', rfl, rd, old, os, bare⟩
  refine ⟨.inl ⟨u, _, as', rfl, fun _ => rfl, rd, (OpenSpec.post_iff well inside _ _).mpr rfl, fun z => ?_⟩, old, os, bare⟩
  exact Bool.noConfusion (show false = true from z)
end AoEnd
set_option Elab.async false
set_option maxRecDepth 100000
set_option maxHeartbeats 2000000
namespace Ao
open PySem PySem.Spec PyProof.Rows L2
abbrev sActI : Stmt := inClass (top 1) 0
abbrev sGameI : Stmt := inClass (top 2) 0
abbrev sWish : Stmt := top 34
abbrev sIsAct : Stmt := top 35
/-- a list is still read where an instance was stored to -/
theorem seq_ins {K : PySem.W.Frag} {H : Hp} {p l C dx : Addr} {fs : List (Str × V)} {o : HO} {xs : List V} (hp : H p = some (.ins C dx fs)) (h : SqL K H l xs) : SqL K (upd H p o) l xs := by
  have ne : ∀ u, H l = some u → (∀ C dx fs, u ≠ .ins C dx fs) → upd H p o l = some u := fun u e n => by
    have : l ≠ p := fun z => by
      rw [z, hp] at e
      exact n _ _ _ (Option.some.inj e).symm
    rw [upd_ne this]
    exact e
  rcases h with (h | ⟨ob, h⟩) | h
  · exact .inl (.inl (ne _ h fun _ _ _ z => nomatch z))
  · exact .inl (.inr ⟨ob, ne _ h fun _ _ _ z => nomatch z⟩)
  · exact .inr h
section
variable {P : Program} {w : World} {K : PySem.W.Frag} {mg : Str → Option Value} {base : Heap} {CA CG : Addr}
/-! ### Act.__init__ -/
abbrev actL (x : Pn13.Act) : List V := [nI x.whose, nI x.pre, nI x.no, nI x.add, nI x.del]
def spActI (K : PySem.W.Frag) (CA : Addr) : Sp := fun vs H Q _ => ∃ (p dx l : Addr) (x : Pn13.Act), vs = [.ref p, .ref l] ∧ H p = some (.ins CA dx []) ∧ SqL K H l (actL x) ∧ ∀ H' : Hp, ActAt CA H' p x → (∀ b o, H b = some o → b ≠ p → H' b = some o) → Q .non H'
theorem scActI : FnScope ["self", "told"] ["self", "told"] (defScope sActI) := ⟨rfl, rfl, rfl, by decide +kernel, rfl, by decide +kernel, by decide +kernel⟩
theorem actF_new (x : Pn13.Act) : putF "takes" (nI x.del) (putF "brings" (nI x.add) (putF "bars" (nI x.no) (putF "needs" (nI x.pre) (putF "whose" (nI x.whose) [])))) = actF x := by
  repeat first | rw [put_nil] | rw [put_past (by decide +kernel)]
  rfl
theorem ok_actI {f : Addr} {fd : FuncData} (F : Fun K "__init__" "Act.__init__" sActI f fd) (TA : TxtA K CA) : FnOk P w K mg base CX0 1 f fd ["self", "told"] (spActI K CA) := by
  refine F.ok scActI (fun vs H Q E h => ?_) (fun cdv A outer s H vs Q E hr h => ?_)
  · obtain ⟨a, b, c, d, rfl, _⟩ := h
    rfl
  · obtain ⟨p, dx, l, x, rfl, hp, hl, k⟩ := h
    refine ⟨_, pss_cons (ps_fld (pv 0) (pe_ix ix_list (pv 1) pe_int (fun _ _ => rfl)) rfl) (pss_cons (ps_fld (pv 0) (pe_ix ix_list (pv 1) pe_int (fun _ _ => rfl)) rfl) (pss_cons (ps_fld (pv 0) (pe_ix ix_list (pv 1) pe_int (fun _ _ => rfl)) rfl)
      (pss_cons (ps_fld (pv 0) (pe_ix ix_list (pv 1) pe_int (fun _ _ => rfl)) rfl) (pss_one (ps_fld (pv 0) (pe_ix ix_list (pv 1) pe_int (fun _ _ => rfl)) rfl))))), ?_⟩
    have l1 := seq_ins (o := .ins CA dx (putF "whose" (nI x.whose) [])) hp hl
    have l2 := seq_ins (o := .ins CA dx (putF "needs" (nI x.pre) (putF "whose" (nI x.whose) []))) upd_same l1
    have l3 := seq_ins (o := .ins CA dx (putF "bars" (nI x.no) (putF "needs" (nI x.pre) (putF "whose" (nI x.whose) [])))) upd_same l2
    have l4 := seq_ins (o := .ins CA dx (putF "brings" (nI x.add) (putF "bars" (nI x.no) (putF "needs" (nI x.pre) (putF "whose" (nI x.whose) []))))) upd_same l3
    refine ⟨_, rfl, l, _, _, _, rfl, rfl, hl, atI_nat (j := 0) rfl, _, rfl, p, CA, dx, _, rfl, hp, TA.cl, TA.nW, (by show 0 < 1000; decide), ?_⟩
    refine ⟨_, rfl, l, _, _, _, rfl, rfl, l1, atI_nat (j := 1) rfl, _, rfl, p, CA, dx, _, rfl, upd_same, TA.cl, TA.nN, (by show 1 < 1000; decide), ?_⟩
    refine ⟨_, rfl, l, _, _, _, rfl, rfl, l2, atI_nat (j := 2) rfl, _, rfl, p, CA, dx, _, rfl, upd_same, TA.cl, TA.nB, (by show 2 < 1000; decide), ?_⟩
    refine ⟨_, rfl, l, _, _, _, rfl, rfl, l3, atI_nat (j := 3) rfl, _, rfl, p, CA, dx, _, rfl, upd_same, TA.cl, TA.nR, (by show 3 < 1000; decide), ?_⟩
    refine ⟨_, rfl, l, _, _, _, rfl, rfl, l4, atI_nat (j := 4) rfl, _, rfl, p, CA, dx, _, rfl, upd_same, TA.cl, TA.nT, (by show 4 < 1000; decide), ?_⟩
    refine k _ ⟨dx, Eq.trans upd_same (congrArg (fun q => some (HO.ins CA dx q)) (actF_new x))⟩ fun b o e hb => ?_
    rw [upd_ne hb, upd_ne hb, upd_ne hb, upd_ne hb, upd_ne hb]
    exact e
/-! ### Game.__init__ -/
def spGameI (CG : Addr) : Sp := fun vs H Q _ => ∃ (p dx wa ma : Addr) (t : Pn13.Task), vs = [.ref p, nI t.facts, .ref wa, .ref ma] ∧ H p = some (.ins CG dx []) ∧ ∀ (H' : Hp) (la : Addr), H la = none → H' p = some (.ins CG dx (gameF t wa ma la)) → H' la = some (.lst []) → (∀ b o, H b = some o → b ≠ p → H' b = some o) → Q .non H'
theorem scGameI : FnScope ["self", "facts", "wants", "may_pass"] ["self", "facts", "wants", "may_pass"] (defScope sGameI) := ⟨rfl, rfl, rfl, by decide +kernel, rfl, by decide +kernel, by decide +kernel⟩
theorem gameF_new (t : Pn13.Task) (wa ma la : Addr) : putF "acts" (.ref la) (putF "may_pass" (.ref ma) (putF "wants" (.ref wa) (putF "facts" (nI t.facts) []))) = gameF t wa ma la := by
  repeat first | rw [put_nil] | rw [put_past (by decide +kernel)]
  rfl
theorem ok_gameI {f : Addr} {fd : FuncData} (F : Fun K "__init__" "Game.__init__" sGameI f fd) (TG : TxtG K CG) : FnOk P w K mg base CX0 1 f fd ["self", "facts", "wants", "may_pass"] (spGameI CG) := by
  refine F.ok scGameI (fun vs H Q E h => ?_) (fun cdv A outer s H vs Q E hr h => ?_)
  · obtain ⟨a, b, c, d, e, rfl, _⟩ := h
    rfl
  · obtain ⟨p, dx, wa, ma, t, rfl, hp, k⟩ := h
    refine ⟨_, pss_cons (ps_fld (pv 0) (pv 1) rfl) (pss_cons (ps_fld (pv 0) (pv 2) rfl) (pss_cons (ps_fld (pv 0) (pv 3) rfl) (pss_one (ps_fld (pv 0) (pe_lst pa_nil) rfl)))), ?_⟩
    refine ⟨_, rfl, _, rfl, p, CG, dx, _, rfl, hp, TG.cl, TG.nF, (by show 0 < 1000; decide), ?_⟩
    refine ⟨_, rfl, _, rfl, p, CG, dx, _, rfl, upd_same, TG.cl, TG.nW, (by show 1 < 1000; decide), ?_⟩
    refine ⟨_, rfl, _, rfl, p, CG, dx, _, rfl, upd_same, TG.cl, TG.nM, (by show 2 < 1000; decide), ?_⟩
    refine ⟨Nat.zero_le _, fun la nla => ?_⟩
    have npl : p ≠ la := ne_of_none upd_same nla
    have nla0 : H la = none := by
      rw [upd_ne npl.symm, upd_ne npl.symm, upd_ne npl.symm] at nla
      exact nla
    refine ⟨_, rfl, p, CG, dx, _, rfl, (by rw [upd_ne npl]; exact upd_same), TG.cl, TG.nA, (by show 3 < 1000; decide), ?_⟩
    refine k _ la nla0 (Eq.trans upd_same (congrArg (fun q => some (HO.ins CG dx q)) (gameF_new t wa ma la))) (by rw [upd_ne npl.symm]; exact upd_same) fun b o e hb => ?_
    rw [upd_ne hb, upd_ne (ne_of_none e nla0), upd_ne hb, upd_ne hb, upd_ne hb]
    exact e
/-! ### is_wish, is_act -/
def spWish : Sp := fun vs H Q _ => ∃ (n s : Nat), vs = [nI n, nI s] ∧ Q (.bl (decide (0 < s) && decide (s < 2 ^ n))) H
theorem scWish : FnScope ["facts", "wanted"] ["facts", "wanted"] (defScope sWish) := ⟨rfl, rfl, rfl, by decide +kernel, rfl, by decide +kernel, by decide +kernel⟩
theorem ok_wish {f fA : Addr} {fd fdA : FuncData} (F : Fun K "is_wish" "is_wish" sWish f fd) (R : FnIs P w K mg base 1 "are_facts" ["facts", "so"] spAre fA fdA) : FnOk P w K mg base CX0 2 f fd ["facts", "wanted"] spWish := by
  refine F.ok scWish (fun vs H Q E h => ?_) (fun cdv A outer s H vs Q E hr h => ?_)
  · obtain ⟨a, b, rfl, _⟩ := h
    rfl
  · obtain ⟨n, s, rfl, k⟩ := h
    refine ⟨_, pss_one (ps_ret (pe_and (pe_cmpR op_gt (pv 1) pe_int (nomark _)) (pe_one (pe_call R.ok hr rfl R.gl R.kp R.b .nil pass0 (pa_cons (pv 0) (pa_cons (pv 1) pa_nil)))))), ?_⟩
    refine ⟨_, rfl, _, _, rfl, rfl, _, rfl, ?_⟩
    by_cases c : 0 < s
    · rw [decide_eq_true c, Bool.true_and] at k
      exact ifT (decide_eq_true (by omega)) ⟨_, rfl, _, rfl, n, s, rfl, k⟩
    · rw [decide_eq_false c, Bool.false_and] at k
      exact ifF (decide_eq_false (by omega)) k
def spIsAct (K : PySem.W.Frag) : Sp := fun vs H Q _ => ∃ (n : Nat) (l : Addr) (ns : List Nat), vs = [nI n, .ref l] ∧ SqL K H l (ns.map nI) ∧ ns.length ≤ 1000 ∧ ∀ H', Same H H' → Q (.bl (Pn13.act? n ns).isSome) H'
abbrev nIsAct : List Str := ["facts", "told", "so"]
theorem scIsAct : FnScope nIsAct ["facts", "told"] (defScope sIsAct) := ⟨rfl, rfl, rfl, by decide +kernel, rfl, by decide +kernel, by decide +kernel⟩
theorem act_some (n : Nat) (ns : List Nat) : (Pn13.act? n ns).isSome = (decide (ns.length = 5) && (decide (ns.getD 0 0 ≤ 1) && (ns.tail.all fun x => decide (x < 2 ^ n)))) := by
  match ns with
  | [w, p, q, a, d] =>
    show (if w ≤ 1 ∧ ([p, q, a, d].all fun x => decide (x < 2 ^ n)) = true then some _ else none).isSome = (true && (decide (w ≤ 1) && ([p, q, a, d].all fun x => decide (x < 2 ^ n))))
    by_cases c1 : w ≤ 1
    · by_cases c2 : ([p, q, a, d].all fun x => decide (x < 2 ^ n)) = true
      · rw [if_pos ⟨c1, c2⟩, decide_eq_true c1, c2]; rfl
      · rw [if_neg fun z => c2 z.2, decide_eq_true c1, (Bool.not_eq_true _).mp c2]; rfl
    · rw [if_neg fun z => c1 z.1, decide_eq_false c1]; rfl
  | [] => rfl
  | [_] => rfl
  | [_, _] => rfl
  | [_, _, _] => rfl
  | [_, _, _, _] => rfl
  | _ :: _ :: _ :: _ :: _ :: _ :: r =>
    show false = _
    rw [decide_eq_false (by simp only [List.length_cons]; omega)]
    rfl
end
end Ao
set_option Elab.async false
set_option maxRecDepth 100000
set_option maxHeartbeats 2000000
namespace Ao
open PySem PySem.Spec PyProof.Rows L2
/-- a module's constant that is a whole number -/
def NumC (mg : Str → Option Value) (x : Str) (i : Int) : Prop := ∃ u, mg x = some u ∧ RelV (.int i) u
theorem pe_num {X : Cx} {x : Str} {i : Int} {pos : Pos} (hg : Gl X x) (h : NumC X.mg x i) (hd : (x == ("__debug__" : Str)) = false := by decide) : PE X (.Name x pos) (tC (.int i)) := by
  obtain ⟨u, h1, h2⟩ := h
  exact pe_glob hg h1 h2 hd
theorem cut_tail (xs : List V) : cutV xs (some 1) none = xs.tail := by
  unfold cutV HT.sIx
  cases xs with
  | nil => rfl
  | cons a r => simp
section
variable {P : Program} {w : World} {K : PySem.W.Frag} {mg : Str → Option Value} {base : Heap} {CA CG : Addr}
theorem ok_isAct {f fA : Addr} {fd fdA : FuncData} (F : Fun K "is_act" "is_act" sIsAct f fd) (TB : TxtB mg) (N5 : NumC mg "NUMBERS_OF_ACT" 5) (R : FnIs P w K mg base 1 "are_facts" ["facts", "so"] spAre fA fdA) : FnOk P w K mg base CX0 2 f fd ["facts", "told"] (spIsAct K) := by
  refine F.ok scIsAct (fun vs H Q E h => ?_) (fun cdv A outer s H vs Q E hr h => ?_)
  · obtain ⟨a, b, c, rfl, _⟩ := h
    rfl
  · obtain ⟨n, l, ns, rfl, hl, len, k⟩ := h
    refine ⟨_, pss_cons (ps_if (PW.pt (pw_or (pt_cmpR op_ne (pe_callB call_len_seq (by rfl) TB.len PySem.boot_len (pa_cons (pv 1) pa_nil)) (pe_num (by rfl) N5) (nomark _)) (pw_or1 (pt_cmpR op_gt (pe_ix ix_list (pv 1) pe_int (fun _ _ => rfl)) pe_int (nomark _))))) (pss_one (ps_ret pe_bl)) pss_nil)
      (pss_one (ps_ret (pe_callB (cr_all rfl) (by rfl) TB.all (by decide +kernel) (pa_cons (pe_lc (own := [("so", 2)]) (g := gName 2) (tt := tYes) (te := tCall spAre [] E0 (tCons (tVar 0) (tCons (tVar 2) tNil))) (by rfl) scIsAct.nd (pi_list (pe_slice sl_list (pv 1) (po_some pe_int) po_none))
        (blkOk_by (own := [("so", 2)]) (N := nIsAct) (sc := defScope sIsAct) (by decide +kernel)) (fun _ _ _ _ _ => pg_name (i := 2) scIsAct.nd rfl (Or.inl rfl))
        (fun _ _ _ _ _ => pts_nil) (fun _ _ _ _ _ => pe_call R.ok hr rfl R.gl R.kp R.b .nil pass0 (pa_cons (pv 0) (pa_cons (pv 2) pa_nil)))) pa_nil)))), ?_⟩
    rw [show (Pn13.act? n ns).isSome = _ from act_some n ns] at k
    refine ⟨_, rfl, l, _, rfl, .inl hl, rfl, _, rfl, ?_⟩
    rw [List.length_map]
    have e5 : (!decide (V.int ((ns.length : Nat) : Int) = V.int 5)) = !decide (ns.length = 5) := by
      rw [show decide (V.int ((ns.length : Nat) : Int) = V.int 5) = (ns.length == 5) from eqV_nat _ 5]
      rfl
    by_cases c5 : ns.length = 5
    · refine ifF (by rw [e5, decide_eq_true c5]; rfl) ?_
      rw [decide_eq_true c5, Bool.true_and] at k
      obtain ⟨x0, r0, rfl⟩ : ∃ x r, ns = x :: r := by
        cases ns with
        | nil => simp at c5
        | cons x r => exact ⟨x, r, rfl⟩
      refine ⟨_, rfl, l, _, _, _, rfl, rfl, hl, atI_nat (j := 0) rfl, _, _, rfl, rfl, _, rfl, ?_⟩
      have k : ∀ H', Same H H' → Q (.bl (decide (x0 ≤ 1) && (r0.all fun x => decide (x < 2 ^ n)))) H' := k
      by_cases c1 : x0 ≤ 1
      · refine ifF (decide_eq_false (by omega)) ?_
        rw [decide_eq_true c1, Bool.true_and] at k
        refine ⟨_, rfl, _, rfl, l, _, rfl, hl, fun p np => ?_⟩
        rw [cut_tail]
        refine ⟨p, rfl, ⟨_, SqL.of upd_same⟩, fun D nD => ?_⟩
        have s0 : Same H (upd H p (.lst (r0.map nI))) := Same.upd np
        have hp : (upd H p (.lst (r0.map nI))) p = some (.lst (r0.map nI)) := upd_same
        have rl : r0.length ≤ 1000 := by rw [List.length_cons] at len; omega
        refine lc_list (K := K) (a := p) (xs := r0.map nI) (fun i H' => H' D = some (.lst (((r0.map fun x => decide (x < 2 ^ n)).take i).map V.bl)) ∧ Same (upd H p (.lst (r0.map nI))) H') ⟨by rw [List.take_zero]; exact upd_same, Same.upd nD⟩ (fun i H' _ ⟨_, s2⟩ => SqL.of (s2 _ _ hp)) (fun i x H' hi ⟨hD, s2⟩ => ?_) (fun H' ⟨hD, s2⟩ => ?_)
        · rw [List.getElem?_map] at hi
          obtain ⟨m, hm, rfl⟩ := Option.map_eq_some_iff.mp hi
          refine ⟨rfl, _, rfl, _, rfl, n, m, rfl, _, hD, ?_, ?_, fun b o e => ?_⟩
          · rw [List.length_map, List.length_take, List.length_map]
            exact Nat.lt_of_le_of_lt (Nat.le_trans (Nat.min_le_right _ _) rl) (by decide)
          · rw [upd_same, take_snoc (show (r0.map fun x => decide (x < 2 ^ n))[i]? = some (decide (m < 2 ^ n)) by rw [List.getElem?_map, hm]; rfl), List.map_append]
            rfl
          · rw [upd_ne (ne_of_none e nD)]
            exact s2 b o e
        · rw [List.length_map, show r0.length = (r0.map fun x => decide (x < 2 ^ n)).length from (List.length_map _).symm, List.take_length] at hD
          refine ⟨D, _, rfl, SqL.of hD, ?_⟩
          rw [List.all_map]
          exact k H' (s0.trans s2)
      · refine ifT (decide_eq_true (by omega)) ?_
        rw [decide_eq_false c1, Bool.false_and] at k
        exact k H (Same.refl H)
    · refine ifT (by rw [e5, decide_eq_false c5]; rfl) ?_
      rw [decide_eq_false c5, Bool.false_and] at k
      exact iteT (k H (Same.refl H))
end
end Ao
set_option Elab.async false
set_option maxRecDepth 100000
set_option maxHeartbeats 2000000
namespace Ao
open PySem PySem.Spec PyProof.Rows L2 LamX
abbrev sHouseI : Stmt := inClass (top 33) 0
abbrev sBegins : Stmt := inClass (top 33) 1
abbrev sAct : Stmt := inClass (top 33) 2
abbrev sAt : Stmt := inClass (top 33) 3
abbrev sValue : Stmt := inClass (top 33) 4
abbrev sBestM : Stmt := inClass (top 33) 5
abbrev sLineM : Stmt := inClass (top 33) 6
abbrev sMoveM : Stmt := inClass (top 33) 7
abbrev sAnswerM : Stmt := inClass (top 33) 8
abbrev sCounts : Stmt := inClass (top 33) 9
abbrev sNow : Stmt := inClass (top 33) 10
abbrev sMake : Stmt := inClass (top 33) 11
/-! ### the house in the heap -/
def houseF (g : Addr) (n : Nat) : List (Str × V) := [("game", .ref g), ("state", nI n)]
theorem houseF_game (g : Addr) (n : Nat) : (houseF g n).lookup ("game" : Str) = some (.ref g) := lk_here
theorem houseF_state (g : Addr) (n : Nat) : (houseF g n).lookup ("state" : Str) = some (nI n) := (lk_past (by decide +kernel)).trans lk_here
theorem houseF_no {m : Str} (g : Addr) (n : Nat) (h1 : (m == ("game" : Str)) = false) (h2 : (m == ("state" : Str)) = false) : (houseF g n).lookup m = none := (lk_past h1).trans ((lk_past h2).trans rfl)
theorem houseF_new (g : Addr) (n : Nat) : putF "state" (nI n) (putF "game" (.ref g) []) = houseF g n := by
  repeat first | rw [put_nil] | rw [put_past (by decide +kernel)]
  rfl
theorem houseF_game' (g g' : Addr) (n : Nat) : putF "game" (.ref g') (houseF g n) = houseF g' n := put_here
theorem houseF_state' (g : Addr) (n m : Nat) : putF "state" (nI m) (houseF g n) = houseF g m := (put_past (by decide +kernel)).trans (congrArg _ put_here)
/-- a house stands at a, its game's list of acts at la -/
structure HouseL (K : PySem.W.Frag) (CA CG CH : Addr) (H : Hp) (a la : Addr) (h : Pn13.House) : Prop where
  ob : ∃ dx g as, H a = some (.ins CH dx (houseF g (enc h.now))) ∧ GameL K CA CG H g la as h.task
  turn : h.now.turn ≤ 1
/-- all but the house at a, the list at la and the tables stays -/
def Keep (a la : Addr) (H H' : Hp) : Prop := ∀ b o, H b = some o → b ≠ a → b ≠ la → (∀ ps, o ≠ .tbl ps) → H' b = some o
theorem Keep.of {a la : Addr} {H H' : Hp} (e : Ext H H') : Keep a la H H' := fun b o h _ _ n => e b o h n
/-- p was not tracked (or as a table alone) -/
def New (H : Hp) (p : Addr) : Prop := ∀ o, H p = some o → ∃ ps, o = .tbl ps
theorem New.of {H : Hp} {p : Addr} (h : H p = none) : New H p := fun o e => by rw [h] at e; cases e
theorem New.ext {H H' : Hp} {p : Addr} (e : Ext H H') (h : H' p = none) : New H p := fun o q => by
  by_cases t : ∃ ps, o = .tbl ps
  · exact t
  · rw [e p o q fun ps z => t ⟨ps, z⟩] at h
    cases h
/-- what a call on the house ends in: the next house, a new list of what is answered -/
def Ends1 (K : PySem.W.Frag) (CA CG CH : Addr) (T : List (Addr × Str)) (a la : Addr) (H : Hp) (h' : Pn13.House) (ans : List Int) (Q : VK) : Prop :=
  ∀ (p la' : Addr) (H' : Hp), HouseL K CA CG CH H' a la' h' → (la' = la ∨ H la' = none) → Tabs T H' → Keep a la H H' → New H p → H' p = some (.lst (ans.map V.int)) → Q (.ref p) H'
structure TxtH (K : PySem.W.Frag) (CH : Addr) : Prop where
  cl : Cls K CH
  nG : NoAttr K CH "game"
  nS : NoAttr K CH "state"
theorem HouseL.ext {K : PySem.W.Frag} {CA CG CH : Addr} {H H' : Hp} {a la : Addr} {h : Pn13.House} (x : HouseL K CA CG CH H a la h) (e : Ext H H') : HouseL K CA CG CH H' a la h := by
  obtain ⟨dx, g, as, h1, h2⟩ := x.ob
  exact ⟨⟨dx, g, as, (e _ _ h1 fun ps z => nomatch z), h2.ext e⟩, x.turn⟩
theorem tabs_upd {T : List (Addr × Str)} {H : Hp} {a : Addr} {u o : HO} (h : Tabs T H) (ha : H a = some u) (n1 : ∀ ps, u ≠ .tbl ps) (n2 : ∀ c q, u ≠ CodeO c q) : Tabs T (upd H a o) := fun p hp => by
  obtain ⟨ps, h1, h2, h3⟩ := h p hp
  have ne : ∀ {b : Addr} {v : HO}, H b = some v → u ≠ v → upd H a o b = some v := fun {b v} e n => by
    have : b ≠ a := fun z => by
      rw [z, ha] at e
      exact n (Option.some.inj e)
    rw [upd_ne this]
    exact e
  refine ⟨ps, ne h1 (n1 ps), h2, fun pos cv hc => ?_⟩
  obtain ⟨cd, e1, e2⟩ := h3 pos cv hc
  exact ⟨cd, e1, ne e2 (n2 cd p.2)⟩
theorem ins_noT {C dx : Addr} {fs : List (Str × V)} : ∀ ps, HO.ins C dx fs ≠ .tbl ps := fun _ z => nomatch z
theorem ins_noC {C dx : Addr} {fs : List (Str × V)} : ∀ c q, HO.ins C dx fs ≠ CodeO c q := fun _ _ z => by
  unfold CodeO at z
  cases z
theorem lst_noT {xs : List V} : ∀ ps, HO.lst xs ≠ .tbl ps := fun _ z => nomatch z
theorem lst_noC {xs : List V} : ∀ c q, HO.lst xs ≠ CodeO c q := fun _ _ z => by
  unfold CodeO at z
  cases z
theorem outI (n : Nat) : Pn13Neutral.out (Pn13.ok n) = [(n : Int)] := rfl
/-- the game's parts are not the house: a store to the house leaves them -/
theorem GameL.upd_house {K : PySem.W.Frag} {CA CG CH : Addr} {H : Hp} {a g la dx : Addr} {as : List Addr} {t : Pn13.Task} {fs : List (Str × V)} {o : HO} (x : GameL K CA CG H g la as t) (ha : H a = some (.ins CH dx fs)) (nG : CG ≠ CH) (nA : CA ≠ CH) : GameL K CA CG (upd H a o) g la as t := by
  obtain ⟨dg, wa, ma, h1, h2, h3⟩ := x.ob
  have ne : ∀ {b : Addr} {u : HO}, H b = some u → u ≠ .ins CH dx fs → upd H a o b = some u := fun {b u} e n => by
    have : b ≠ a := fun z => by
      rw [z, ha] at e
      exact n (Option.some.inj e).symm
    rw [upd_ne this]
    exact e
  have sq : ∀ {b : Addr} {xs : List V}, SqT K H b xs → SqT K (upd H a o) b xs := fun {b xs} q => by
    rcases q with (q | ⟨ob, q⟩) | q
    · exact .inl (.inl (ne q fun z => nomatch z))
    · exact .inl (.inr ⟨ob, ne q fun z => nomatch z⟩)
    · exact .inr q
  refine ⟨⟨dg, wa, ma, ne h1 fun z => ?_, sq h2, sq h3⟩, (ne x.lst fun z => nomatch z), x.len, fun i b hb => ?_, x.few, x.fc⟩
  · injection z with z; exact nG z
  · obtain ⟨y, h4, dy, h5⟩ := x.acts i b hb
    exact ⟨y, h4, dy, ne h5 fun z => by injection z with z; exact nA z⟩
section
variable {P : Program} {w : World} {K : PySem.W.Frag} {mg : Str → Option Value} {base : Heap} {CA CG CH : Addr} {T : List (Addr × Str)}
/-! ### at -/
def spAt (K : PySem.W.Frag) (CA CG CH : Addr) (T : List (Addr × Str)) : Sp := fun vs H Q _ => ∃ (a la : Addr) (h : Pn13.House) (s w : Nat), vs = [.ref a, nI s, nI w] ∧ HouseL K CA CG CH H a la h ∧ Tabs T H ∧ Ends1 K CA CG CH T a la H (Pn13.step h (.at_ s w)).1 (Pn13Neutral.out (Pn13.step h (.at_ s w)).2) Q
theorem scAt : FnScope ["self", "so", "turn"] ["self", "so", "turn"] (defScope sAt) := ⟨rfl, rfl, rfl, by decide +kernel, rfl, by decide +kernel, by decide +kernel⟩
theorem ok_at {f fR fS fW : Addr} {fd fdR fdS fdW : FuncData} (F : Fun K "at" "House.at" sAt f fd) (TH : TxtH K CH) (TG : TxtG K CG) (nG : CG ≠ CH) (nA : CA ≠ CH) (NW : NumC mg "WRONG" (-1)) (R : FnIs P w K mg base 1 "are_facts" ["facts", "so"] spAre fR fdR) (S : FnIs P w K mg base 1 "state_of" ["so", "turn"] spStateOf fS fdS)
    (W : FnIs P w K mg base 1 "winner" ["game", "state"] (spWinner K CA CG) fW fdW) : FnOk P w K mg base CX0 2 f fd ["self", "so", "turn"] (spAt K CA CG CH T) := by
  refine F.ok scAt (fun vs H Q E h => ?_) (fun cdv A outer s H vs Q E hr h => ?_)
  · obtain ⟨a, b, c, d, e, rfl, _⟩ := h
    rfl
  · obtain ⟨a, la, h, so, wh, rfl, HL, hT, k⟩ := h
    obtain ⟨dx, g, as, ha, GL⟩ := HL.ob
    obtain ⟨dg, wa, ma, hg, _, _⟩ := GL.ob
    refine ⟨_, pss_cons (ps_if (PW.pt (pw_or (pt_not (pt_val (pe_call R.ok hr rfl R.gl R.kp R.b .nil pass0 (pa_cons (pe_fld (pe_fld (pv 0) rfl) rfl) (pa_cons (pv 1) pa_nil))))) (pw_or1 (pt_cmpR op_gt (pv 2) pe_int (nomark _))))) (pss_one (ps_ret (pe_lst (pa_cons (pe_num (by rfl) NW) pa_nil)))) pss_nil)
      (pss_cons (ps_fld (pv 0) (pe_call S.ok hr rfl S.gl S.kp S.b .nil pass0 (pa_cons (pv 1) (pa_cons (pv 2) pa_nil))) rfl)
      (pss_one (ps_ret (pe_lst (pa_cons (pe_call W.ok hr rfl W.gl W.kp W.b .nil pass0 (pa_cons (pe_fld (pv 0) rfl) (pa_cons (pe_fld (pv 0) rfl) pa_nil))) pa_nil))))), ?_⟩
    have wrong : (2 ^ h.task.facts ≤ so ∨ 1 < wh) → ∀ p, H p = none → Q (.ref p) (upd H p (.lst [.int (-1)])) := fun c p np => by
      have e : Pn13.step h (.at_ so wh) = (h, Pn13.ok (-1)) := if_pos c
      rw [e] at k
      exact k p la _ (HL.ext (Ext.of (Same.upd np))) (.inl rfl) (hT.ext (Same.upd np)) (Keep.of (Ext.of (Same.upd np))) (.of np) upd_same
    refine ⟨_, rfl, a, CH, dx, _, _, rfl, ha, TH.cl, TH.nG, houseF_game _ _, g, CG, dg, _, _, rfl, hg, TG.cl, TG.nF, gameF_facts _ _ _ _, _, rfl, h.task.facts, so, rfl, _, rfl, ?_⟩
    by_cases c1 : so < 2 ^ h.task.facts
    · refine ifF (by rw [decide_eq_true c1]; rfl) ⟨_, rfl, _, _, rfl, rfl, _, rfl, ?_⟩
      by_cases c2 : wh ≤ 1
      · refine ifF (decide_eq_false (by omega)) ?_
        have e : Pn13.step h (.at_ so wh) = ({ h with now := ⟨so, wh⟩ }, Pn13.ok (h.task.won ⟨so, wh⟩ : Nat)) := if_neg (by omega)
        rw [e] at k
        have en : decS (2 * so + wh) = ⟨so, wh⟩ := dec_enc (u := ⟨so, wh⟩) c2
        refine ⟨_, rfl, _, rfl, so, wh, rfl, _, rfl, a, CH, dx, _, rfl, ha, TH.cl, TH.nS, (by show 2 < 1000; decide), ?_⟩
        rw [houseF_state']
        have GL' := GL.upd_house (o := .ins CH dx (houseF g (2 * so + wh))) ha nG nA
        have hE : Keep a la H (upd H a (.ins CH dx (houseF g (2 * so + wh)))) := fun b o e n _ _ => by rw [upd_ne n]; exact e
        refine ⟨_, rfl, a, CH, dx, _, _, rfl, upd_same, TH.cl, TH.nG, houseF_game _ _, _, rfl, a, CH, dx, _, _, rfl, upd_same, TH.cl, TH.nS, houseF_state _ _, g, h.task, 2 * so + wh, rfl, ⟨la, as, GL'⟩, (by show 1 ≤ sizeLine; decide), fun p np => ?_⟩
        rw [en]
        have nap : a ≠ p := ne_of_none upd_same np
        have npH : H p = none := by rw [upd_ne nap.symm] at np; exact np
        refine k p la _ ⟨⟨dx, g, as, by rw [upd_ne nap]; exact upd_same, GL'.ext (Ext.of (Same.upd np))⟩, c2⟩ (.inl rfl) ?_ (fun b o e n1 n2 n3 => ?_) (.of npH) upd_same
        · exact Tabs.ext (tabs_upd hT ha ins_noT ins_noC) (Same.upd np)
        · rw [upd_ne (ne_of_none e npH)]
          exact hE b o e n1 n2 n3
      · refine ifT (decide_eq_true (by omega)) ⟨(by show 1 ≤ sizeLine; decide), fun p np => wrong (.inr (by omega)) p np⟩
    · refine ifT (by rw [decide_eq_false c1]; rfl) (iteT ⟨(by show 1 ≤ sizeLine; decide), fun p np => wrong (.inl (by omega)) p np⟩)
end
end Ao
set_option Elab.async false
set_option maxRecDepth 100000
set_option maxHeartbeats 2000000
namespace Ao
open PySem PySem.Spec PyProof.Rows L2 LamX
section
variable {P : Program} {w : World} {K : PySem.W.Frag} {mg : Str → Option Value} {base : Heap} {CA CG CH : Addr} {T : List (Addr × Str)}
/-! ### value -/
def sp0 (K : PySem.W.Frag) (CA CG CH : Addr) (T : List (Addr × Str)) (c : Pn13.Call) : Sp := fun vs H Q _ => ∃ (a la : Addr) (h : Pn13.House), vs = [.ref a] ∧ HouseL K CA CG CH H a la h ∧ Tabs T H ∧ Ends1 K CA CG CH T a la H (Pn13.step h c).1 (Pn13Neutral.out (Pn13.step h c).2) Q
theorem scValue : FnScope ["self", "first", "second"] ["self"] (defScope sValue) := ⟨rfl, rfl, rfl, by decide +kernel, rfl, by decide +kernel, by decide +kernel⟩
theorem ok_value {f fF : Addr} {fd fdF : FuncData} (F : Fun K "value" "House.value" sValue f fd) (TH : TxtH K CH) (FB : FnIs P w K mg base 4 "forced_by" ["game", "who"] (spForced K CA CG) fF fdF) : FnOk P w K mg base CX0 5 f fd ["self"] (sp0 K CA CG CH T .value) := by
  refine F.ok scValue (fun vs H Q E h => ?_) (fun cdv A outer s H vs Q E hr h => ?_)
  · obtain ⟨a, b, c, rfl, _⟩ := h
    rfl
  · obtain ⟨a, la, h, rfl, HL, hT, k⟩ := h
    have hu := hu_of hr
    obtain ⟨dx, g, as, ha, GL⟩ := HL.ob
    have G : GameAt K CA CG H g h.task := ⟨la, as, GL⟩
    refine ⟨_, pss_cons (ps_set (i := 1) scValue.nd rfl (Or.inl rfl) (pe_call FB.ok hr rfl FB.gl FB.kp FB.b .nil pass0 (pa_cons (pe_fld (pv 0) rfl) (pa_cons pe_int pa_nil))))
      (pss_cons (ps_if (pt_cmp (pc_din hu (pe_fld (pv 0) rfl) (pv 1)) rfl) (pss_one (ps_ret (pe_lst (pa_cons pe_int (pa_cons (pe_dget hu (pv 1) (pe_fld (pv 0) rfl) (fun _ _ => rfl)) pa_nil))))) pss_nil)
      (pss_cons (ps_set (i := 2) scValue.nd rfl (Or.inl rfl) (pe_call FB.ok hr rfl FB.gl FB.kp FB.b .nil pass0 (pa_cons (pe_fld (pv 0) rfl) (pa_cons pe_int pa_nil))))
      (pss_cons (ps_if (pt_cmp (pc_din hu (pe_fld (pv 0) rfl) (pv 2)) rfl) (pss_one (ps_ret (pe_lst (pa_cons pe_int (pa_cons (pe_dget hu (pv 2) (pe_fld (pv 0) rfl) (fun _ _ => rfl)) pa_nil))))) pss_nil)
      (pss_one (ps_ret (pe_lst (pa_cons pe_int (pa_cons pe_int pa_nil)))))))), ?_⟩
    have told : ∀ (x y : Nat) (H' : Hp), h.task.value h.now = (x, y) → Same H H' → ∀ p, H' p = none → Q (.ref p) (upd H' p (.lst [.int x, .int y])) := fun x y H' e s1 p np => by
      have e1 : Pn13.step h .value = (h, ⟨((h.task.value h.now).1 : Nat), [(h.task.value h.now).2]⟩) := rfl
      rw [e1, e] at k
      have s2 : Same H (upd H' p (.lst [.int x, .int y])) := s1.trans (Same.upd np)
      exact k p la _ (HL.ext (Ext.of s2)) (.inl rfl) (hT.ext s2) (Keep.of (Ext.of s2)) (.of (s1.free np)) upd_same
    have hv : h.task.value h.now = match Pn13.level (h.task.forced 1) h.now with
      | some n => (1, n)
      | none => match Pn13.level (h.task.forced 2) h.now with
        | some n => (2, n)
        | none => (0, 0) := rfl
    refine ⟨_, rfl, a, CH, dx, _, _, rfl, ha, TH.cl, TH.nG, houseF_game _ _, g, h.task, 0, rfl, G, fun d1 H1 s1 nd1 hd1 => ?_⟩
    have ha1 := s1 _ _ ha
    have v1 := dkv_level (good_forced h.task 1) HL.turn
    refine ⟨_, rfl, a, CH, dx, _, _, rfl, ha1, TH.cl, TH.nS, houseF_state _ _, _, rfl, d1, _, rfl, DGet.k (k := Sum.inl (enc h.now : Int)) hd1, _, rfl, ?_⟩
    rw [v1, Option.isSome_map]
    cases c1 : Pn13.level (h.task.forced 1) h.now with
    | some n =>
      rw [c1] at hv v1
      refine iteT ⟨_, rfl, _, rfl, a, CH, dx, _, _, rfl, ha1, TH.cl, TH.nS, houseF_state _ _, d1, nI n, rfl, .inl ⟨_, Sum.inl (enc h.now : Int), .inl hd1, rfl, v1.symm⟩, (by show 2 ≤ sizeLine; decide), fun p np => told 1 n H1 hv s1 p np⟩
    | none =>
      rw [c1] at hv
      refine iteF ⟨_, rfl, a, CH, dx, _, _, rfl, ha1, TH.cl, TH.nG, houseF_game _ _, g, h.task, 1, rfl, G.ext (Ext.of s1), fun d2 H2 s2 nd2 hd2 => ?_⟩
      have ha2 := s2 _ _ ha1
      have v2 := dkv_level (good_forced h.task 2) HL.turn
      refine ⟨_, rfl, a, CH, dx, _, _, rfl, ha2, TH.cl, TH.nS, houseF_state _ _, _, rfl, d2, _, rfl, DGet.k (k := Sum.inl (enc h.now : Int)) hd2, _, rfl, ?_⟩
      rw [v2, Option.isSome_map]
      cases c2 : Pn13.level (h.task.forced 2) h.now with
      | some n =>
        rw [c2] at hv v2
        refine iteT ⟨_, rfl, _, rfl, a, CH, dx, _, _, rfl, ha2, TH.cl, TH.nS, houseF_state _ _, d2, nI n, rfl, .inl ⟨_, Sum.inl (enc h.now : Int), .inl hd2, rfl, v2.symm⟩, (by show 2 ≤ sizeLine; decide), fun p np => told 2 n H2 hv (s1.trans s2) p np⟩
      | none =>
        rw [c2] at hv
        exact iteF ⟨(by show 2 ≤ sizeLine; decide), fun p np => told 0 0 H2 hv (s1.trans s2) p np⟩
/-! ### best_now -/
/-- a promise over the house that leaves it as it is and gives back the best move -/
def spNow (K : PySem.W.Frag) (CA CG CH : Addr) (T : List (Addr × Str)) : Sp := fun vs H Q _ => ∃ (a la : Addr) (h : Pn13.House) (k : Nat), vs = [.ref a] ∧ HouseL K CA CG CH H a la h ∧ Tabs T H ∧ h.task.best (h.task.forced 1) (h.task.forced 2) h.now = some k ∧ ∀ H', Ext H H' → Tabs T H' → Q (nI k) H'
theorem scNow : FnScope ["self"] ["self"] (defScope sNow) := ⟨rfl, rfl, rfl, by decide +kernel, rfl, by decide +kernel, by decide +kernel⟩
theorem ok_now {f fE fB : Addr} {fd fdE fdB : FuncData} (F : Fun K "best_now" "House.best_now" sNow f fd) (TH : TxtH K CH) (EA : FnIs P w K mg base 5 "forced_by_each" ["game"] (spEach K CA CG) fE fdE) (B : FnIs P w K mg base 5 "best_move" ["game", "state", "forced"] (spBest K CA CG T) fB fdB) :
    FnOk P w K mg base CX0 6 f fd ["self"] (spNow K CA CG CH T) := by
  refine F.ok scNow (fun vs H Q E h => ?_) (fun cdv A outer s H vs Q E hr h => ?_)
  · obtain ⟨a, b, c, d, rfl, _⟩ := h
    rfl
  · obtain ⟨a, la, h, kb, rfl, HL, hT, hk, k⟩ := h
    obtain ⟨dx, g, as, ha, GL⟩ := HL.ob
    have G : GameAt K CA CG H g h.task := ⟨la, as, GL⟩
    have ed := dec_enc HL.turn
    refine ⟨_, pss_one (ps_ret (pe_call B.ok hr rfl B.gl B.kp B.b .nil pass0 (pa_cons (pe_fld (pv 0) rfl) (pa_cons (pe_fld (pv 0) rfl) (pa_cons (pe_call EA.ok hr rfl EA.gl EA.kp EA.b .nil pass0 (pa_cons (pe_fld (pv 0) rfl) pa_nil)) pa_nil))))), ?_⟩
    refine ⟨_, rfl, a, CH, dx, _, _, rfl, ha, TH.cl, TH.nG, houseF_game _ _, _, rfl, a, CH, dx, _, _, rfl, ha, TH.cl, TH.nS, houseF_state _ _, _, rfl, a, CH, dx, _, _, rfl, ha, TH.cl, TH.nG, houseF_game _ _, g, h.task, rfl, G, fun fo H1 s1 nfo hfo => ?_⟩
    exact ⟨g, fo, h.task, enc h.now, kb, rfl, G.ext (Ext.of s1), hfo, hT.ext s1, (by rw [ed]; exact hk), fun H2 e2 T2 => k H2 ((Ext.of s1).trans e2) T2⟩
/-! ### best -/
theorem scBestM : FnScope ["self", "moves"] ["self"] (defScope sBestM) := ⟨rfl, rfl, rfl, by decide +kernel, rfl, by decide +kernel, by decide +kernel⟩
theorem ok_bestM {f fM fB : Addr} {fd fdM fdB : FuncData} (F : Fun K "best" "House.best" sBestM f fd) (TH : TxtH K CH) (TB : TxtB mg) (N5 : NumC mg "NO_MOVE" (-5)) (M : FnIs P w K mg base 2 "moves_in" ["game", "state"] (spMoves K CA CG) fM fdM) (m_now : Meth K CH "best_now" fB) (b_now : Binds K fdB ["self"] []) (B : FnOk P w K mg base CX0 6 fB fdB ["self"] (spNow K CA CG CH T)) :
    FnOk P w K mg base CX0 7 f fd ["self"] (sp0 K CA CG CH T .best) := by
  refine F.ok scBestM (fun vs H Q E h => ?_) (fun cdv A outer s H vs Q E hr h => ?_)
  · obtain ⟨a, b, c, rfl, _⟩ := h
    rfl
  · obtain ⟨a, la, h, rfl, HL, hT, k⟩ := h
    obtain ⟨dx, g, as, ha, GL⟩ := HL.ob
    have G : GameAt K CA CG H g h.task := ⟨la, as, GL⟩
    have hr2 : Room 2 _ := hr.mono (by decide)
    have ed := dec_enc HL.turn
    refine ⟨_, pss_cons (ps_set (i := 1) scBestM.nd rfl (Or.inl rfl) (pe_call M.ok hr2 rfl M.gl M.kp M.b .nil pass0 (pa_cons (pe_fld (pv 0) rfl) (pa_cons (pe_fld (pv 0) rfl) pa_nil))))
      (pss_cons (ps_if (pt_cmpR op_eq (pe_callB call_len_seq (by rfl) TB.len PySem.boot_len (pa_cons (pv 1) pa_nil)) pe_int (nomark _)) (pss_one (ps_ret (pe_lst (pa_cons (pe_num (by rfl) N5) pa_nil)))) pss_nil)
      (pss_one (ps_ret (pe_lst (pa_cons (pe_meth0 (pv 0) TH.cl m_now B hr b_now .nil pass0) (pa_cons (pe_callB call_len_seq (by rfl) TB.len PySem.boot_len (pa_cons (pv 1) pa_nil)) pa_nil)))))), ?_⟩
    refine ⟨_, rfl, a, CH, dx, _, _, rfl, ha, TH.cl, TH.nG, houseF_game _ _, _, rfl, a, CH, dx, _, _, rfl, ha, TH.cl, TH.nS, houseF_state _ _, g, h.task, enc h.now, rfl, G, fun pm H1 s1 npm hpm => ?_⟩
    rw [ed] at hpm
    have ha1 := s1 _ _ ha
    refine ⟨_, rfl, pm, _, rfl, .inl (SqL.of hpm), rfl, _, rfl, ?_⟩
    rw [List.length_map]
    have e0 : decide (V.int (((h.task.moves h.now).length : Nat) : Int) = V.int 0) = ((h.task.moves h.now).length == 0) := eqV_nat _ 0
    have es : Pn13.step h .best = (h, match h.task.best (h.task.forced 1) (h.task.forced 2) h.now with
      | none => Pn13.ok (-5)
      | some k => ⟨(k : Nat), [(h.task.moves h.now).length]⟩) := rfl
    rw [es] at k
    cases hb : h.task.best (h.task.forced 1) (h.task.forced 2) h.now with
    | none =>
      rw [hb] at k
      have em := (best_none _ _ _ _).mp hb
      refine ifT (by rw [e0, em]; rfl) ⟨(by show 1 ≤ sizeLine; decide), fun p np => ?_⟩
      have s2 : Same H (upd H1 p (.lst [.int (-5)])) := s1.trans (Same.upd np)
      exact k p la _ (HL.ext (Ext.of s2)) (.inl rfl) (hT.ext s2) (Keep.of (Ext.of s2)) (.of (s1.free np)) upd_same
    | some m =>
      rw [hb] at k
      have em : h.task.moves h.now ≠ [] := fun z => by
        rw [(best_none _ (h.task.forced 1) (h.task.forced 2) _).mpr z] at hb
        cases hb
      refine ifF (by rw [e0]; exact beq_eq_false_iff_ne.mpr fun z => em (List.length_eq_zero_iff.mp z)) ?_
      refine ⟨_, rfl, a, dx, _, rfl, ha1, houseF_no _ _ (by decide +kernel) (by decide +kernel), a, la, h, m, rfl, HL.ext (Ext.of s1), hT.ext s1, hb, fun H2 e2 T2 => ?_⟩
      refine ⟨_, rfl, pm, _, rfl, .inl (SqL.of (e2 _ _ hpm fun ps z => nomatch z)), (by show 2 ≤ sizeLine; decide), fun p np => ?_⟩
      have s3 : Ext H (upd H2 p (.lst [nI m, V.int (((h.task.moves h.now).map nI).length : Int)])) := ((Ext.of s1).trans e2).trans (Ext.of (Same.upd np))
      refine k p la _ (HL.ext s3) (.inl rfl) (T2.ext (Same.upd np)) (Keep.of s3) (.ext ((Ext.of s1).trans e2) np) ?_
      rw [upd_same, List.length_map]
      rfl
end
end Ao
set_option Elab.async false
set_option maxRecDepth 100000
set_option maxHeartbeats 2000000
namespace Ao
open PySem PySem.Spec PyProof.Rows L2 LamX
section
variable {P : Program} {w : World} {K : PySem.W.Frag} {mg : Str → Option Value} {base : Heap} {CA CG CH : Addr} {T : List (Addr × Str)}
/-! ### begins -/
def spBegins (K : PySem.W.Frag) (CA CG CH : Addr) (T : List (Addr × Str)) : Sp := fun vs H Q _ => ∃ (a la : Addr) (h : Pn13.House) (n x y p q : Nat), vs = [.ref a, nI n, nI x, nI y, nI p, nI q] ∧ HouseL K CA CG CH H a la h ∧ Tabs T H ∧
  Ends1 K CA CG CH T a la H (Pn13.step h (.begins n x y p q)).1 (Pn13Neutral.out (Pn13.step h (.begins n x y p q)).2) Q
abbrev nBegins : List Str := ["self", "facts", "first_wants", "second_wants", "first_may", "second_may"]
theorem scBegins : FnScope nBegins nBegins (defScope sBegins) := ⟨rfl, rfl, rfl, by decide +kernel, rfl, by decide +kernel, by decide +kernel⟩
/-- a class that the program makes -/
structure MkIs (P : Program) (w : World) (K : PySem.W.Frag) (mg : Str → Option Value) (base : Heap) (k : Nat) (x : Str) (C : Addr) (ps : List Str) (sp : Sp) (f : Addr) (fd : FuncData) : Prop where
  makes : Mk K C f
  gl : mg x = some (.ref C)
  b : Binds K fd ps []
  ok : FnOk P w K mg base CX0 k f fd ps sp
theorem bN_of {p : Nat} (h : p ≤ 1) : bN (p == 1) = p := by
  by_cases c : p = 1
  · rw [c]; rfl
  · rw [show p = 0 by omega]; rfl
theorem tabs_new {H : Hp} {p : Addr} {o : HO} (hT : Tabs T H) (np : H p = none) : Tabs T (upd H p o) := hT.ext (Same.upd np)
theorem ok_begins {f fW fG fS : Addr} {fd fdW fdG fdS : FuncData} (F : Fun K "begins" "House.begins" sBegins f fd) (TH : TxtH K CH) (nG : CG ≠ CH) (NW : NumC mg "WRONG" (-1)) (NF : NumC mg "MOST_FACTS" 4) (W : FnIs P w K mg base 2 "is_wish" ["facts", "wanted"] spWish fW fdW)
    (G : MkIs P w K mg base 1 "Game" CG ["self", "facts", "wants", "may_pass"] (spGameI CG) fG fdG) (S : FnIs P w K mg base 1 "state_of" ["so", "turn"] spStateOf fS fdS) : FnOk P w K mg base CX0 3 f fd nBegins (spBegins K CA CG CH T) := by
  refine F.ok scBegins (fun vs H Q E h => ?_) (fun cdv A outer s H vs Q E hr h => ?_)
  · obtain ⟨a, b, c, d, e, g, i, j, rfl, _⟩ := h
    rfl
  · obtain ⟨a, la, h, n, x, y, p, q, rfl, HL, hT, k⟩ := h
    obtain ⟨dx, g, as, ha, GL⟩ := HL.ob
    have hr1 : Room 1 _ := hr.mono (by decide)
    refine ⟨_, pss_cons (ps_if (PW.pt (pw_or (pt_cmpR op_lt (pv 1) pe_int (nomark _)) (pw_or1 (pt_cmpR op_gt (pv 1) (pe_num (by rfl) NF) (nomark _))))) (pss_one (ps_ret (pe_lst (pa_cons (pe_num (by rfl) NW) pa_nil)))) pss_nil)
      (pss_cons (ps_if (PW.pt (pw_or (pt_not (pt_val (pe_call W.ok hr rfl W.gl W.kp W.b .nil pass0 (pa_cons (pv 1) (pa_cons (pv 2) pa_nil))))) (pw_or1 (pt_not (pt_val (pe_call W.ok hr rfl W.gl W.kp W.b .nil pass0 (pa_cons (pv 1) (pa_cons (pv 3) pa_nil)))))))) (pss_one (ps_ret (pe_lst (pa_cons (pe_num (by rfl) NW) pa_nil)))) pss_nil)
      (pss_cons (ps_if (PW.pt (pw_or (pt_cmpR op_gt (pv 4) pe_int (nomark _)) (pw_or1 (pt_cmpR op_gt (pv 5) pe_int (nomark _))))) (pss_one (ps_ret (pe_lst (pa_cons (pe_num (by rfl) NW) pa_nil)))) pss_nil)
      (pss_cons (ps_fld (pv 0) (pe_make G.makes G.ok hr rfl G.gl G.b .nil pass0 (pa_cons (pv 1) (pa_cons (pe_tup (pa_cons (pv 2) (pa_cons (pv 3) pa_nil))) (pa_cons (pe_tup (pa_cons (pv 4) (pa_cons (pv 5) pa_nil))) pa_nil)))) rfl)
      (pss_cons (ps_fld (pv 0) (pe_call S.ok hr1 rfl S.gl S.kp S.b .nil pass0 (pa_cons pe_int (pa_cons pe_int pa_nil))) rfl)
      (pss_one (ps_ret (pe_lst (pa_cons pe_int pa_nil)))))))), ?_⟩
    have es : Pn13.step h (.begins n x y p q) = if n = 0 ∨ 4 < n ∨ 2 ^ n ≤ x ∨ 2 ^ n ≤ y ∨ x = 0 ∨ y = 0 ∨ 1 < p ∨ 1 < q then (h, Pn13.ok (-1)) else (⟨⟨n, p == 1, q == 1, [], x, y⟩, ⟨0, 0⟩⟩, Pn13.ok 0) := rfl
    have wrong : (n = 0 ∨ 4 < n ∨ 2 ^ n ≤ x ∨ 2 ^ n ≤ y ∨ x = 0 ∨ y = 0 ∨ 1 < p ∨ 1 < q) → ∀ r, H r = none → Q (.ref r) (upd H r (.lst [.int (-1)])) := fun c r nr => by
      rw [es, if_pos c] at k
      exact k r la _ (HL.ext (Ext.of (Same.upd nr))) (.inl rfl) (hT.ext (Same.upd nr)) (Keep.of (Ext.of (Same.upd nr))) (.of nr) upd_same
    have one : 1 ≤ sizeLine := by decide
    refine ⟨_, rfl, _, _, rfl, rfl, _, rfl, ?_⟩
    by_cases c1 : n = 0
    · exact ifT (decide_eq_true (by omega)) (iteT ⟨one, fun r nr => wrong (.inl c1) r nr⟩)
    refine ifF (decide_eq_false (by omega)) ⟨_, rfl, _, _, rfl, rfl, _, rfl, ?_⟩
    by_cases c2 : 4 < n
    · exact ifT (decide_eq_true (by omega)) ⟨one, fun r nr => wrong (.inr (.inl c2)) r nr⟩
    refine ifF (decide_eq_false (by omega)) ⟨_, rfl, _, rfl, n, x, rfl, _, rfl, ?_⟩
    by_cases c3 : 0 < x ∧ x < 2 ^ n
    case neg => exact ifT (by rw [Bool.not_eq_true', Bool.and_eq_false_iff, decide_eq_false_iff_not, decide_eq_false_iff_not]; omega) (iteT ⟨one, fun r nr => wrong (by omega) r nr⟩)
    refine ifF (by rw [decide_eq_true c3.1, decide_eq_true c3.2]; rfl) ⟨_, rfl, _, rfl, n, y, rfl, _, rfl, ?_⟩
    by_cases c4 : 0 < y ∧ y < 2 ^ n
    case neg => exact ifT (by rw [Bool.not_eq_true', Bool.and_eq_false_iff, decide_eq_false_iff_not, decide_eq_false_iff_not]; omega) ⟨one, fun r nr => wrong (by omega) r nr⟩
    refine ifF (by rw [decide_eq_true c4.1, decide_eq_true c4.2]; rfl) ⟨_, rfl, _, _, rfl, rfl, _, rfl, ?_⟩
    by_cases c5 : 1 < p
    · exact ifT (decide_eq_true (by omega)) (iteT ⟨one, fun r nr => wrong (by omega) r nr⟩)
    refine ifF (decide_eq_false (by omega)) ⟨_, rfl, _, _, rfl, rfl, _, rfl, ?_⟩
    by_cases c6 : 1 < q
    · exact ifT (decide_eq_true (by omega)) ⟨one, fun r nr => wrong (by omega) r nr⟩
    refine ifF (decide_eq_false (by omega)) ?_
    rw [es, if_neg (by omega)] at k
    -- self.game = Game(facts, (..), (..))
    refine ⟨_, rfl, _, rfl, _, rfl, (by show 2 ≤ sizeLine; decide), fun wa nwa => ⟨_, rfl, _, rfl, (by show 2 ≤ sizeLine; decide), fun ma nma => ?_⟩⟩
    intro gx dg nx nd ne
    have s1 : Same H (upd (upd H wa (.tup [nI x, nI y])) ma (.tup [nI p, nI q])) := (Same.upd nwa).trans (Same.upd nma)
    refine ⟨gx, dg, wa, ma, ⟨n, p == 1, q == 1, [], x, y⟩, rfl, upd_same, fun H2 la2 nla2 hgx hla2 kp => ⟨rfl, ?_⟩⟩
    have s2 : Same (upd (upd H wa (.tup [nI x, nI y])) ma (.tup [nI p, nI q])) H2 := Same.made nx nd kp
    have s12 := s1.trans s2
    have ha2 := s12 _ _ ha
    have hwa : H2 wa = some (.tup [nI x, nI y]) := s2 _ _ (by rw [upd_ne (ne_of_none upd_same nma)]; exact upd_same)
    have hma : H2 ma = some (.tup [nI p, nI q]) := s2 _ _ upd_same
    have nax : a ≠ gx := fun z => by rw [z, (show H2 gx = _ from hgx)] at ha2; injection ha2 with z; injection z with z; exact nG z
    refine ⟨_, rfl, a, CH, dx, _, rfl, ha2, TH.cl, TH.nG, (by show 2 < 1000; decide), ?_⟩
    rw [houseF_game']
    refine ⟨0, 0, rfl, _, rfl, a, CH, dx, _, rfl, upd_same, TH.cl, TH.nS, (by show 2 < 1000; decide), ?_⟩
    rw [houseF_state']
    have hup : ∀ o1 o2 b, b ≠ a → upd (upd H2 a o1) a o2 b = H2 b := fun o1 o2 b hb => by rw [upd_ne hb, upd_ne hb]
    refine ⟨one, fun r nr => ?_⟩
    have nra : a ≠ r := ne_of_none upd_same nr
    have nrH2 : H2 r = none := by rw [hup _ _ r nra.symm] at nr; exact nr
    have nla : a ≠ la2 := ne_of ha2 hla2 (by intro z; cases z)
    have nwa2 : wa ≠ a := ne_of hwa ha2 (by intro z; cases z)
    have nma2 : ma ≠ a := ne_of hma ha2 (by intro z; cases z)
    refine k r la2 _ ⟨⟨dx, gx, [], by rw [upd_ne nra]; exact upd_same, ⟨dg, wa, ma, ?_, ?_, ?_⟩, ?_, rfl, fun i b hb => by simp at hb, Nat.zero_le _, by show n ≤ 4; omega⟩, Nat.zero_le _⟩ (.inr ?_) ?_ (fun b o e n1 n2 n3 => ?_) (.of (s12.free nrH2)) upd_same
    · rw [upd_ne (ne_of_none hgx nrH2), hup _ _ _ nax.symm]; exact hgx
    · exact SqT.of (by rw [upd_ne (ne_of_none hwa nrH2), hup _ _ _ nwa2]; exact hwa)
    · refine SqT.of ?_
      show _ = some (HO.tup [nI (bN (p == 1)), nI (bN (q == 1))])
      rw [upd_ne (ne_of_none hma nrH2), hup _ _ _ nma2, bN_of (by omega), bN_of (by omega)]
      exact hma
    · rw [upd_ne (ne_of_none hla2 nrH2), hup _ _ _ nla.symm]; exact hla2
    · have z : (upd (upd H wa (.tup [nI x, nI y])) ma (.tup [nI p, nI q])) la2 = none := by
        have e1 : la2 ≠ gx := fun z => by rw [z, upd_same] at nla2; cases nla2
        have e2 : la2 ≠ dg := fun z => by
          rw [upd_ne e1, z, upd_same] at nla2; cases nla2
        rw [upd_ne e1, upd_ne e2] at nla2
        exact nla2
      exact s1.free z
    · exact tabs_new (tabs_upd (tabs_upd (hT.ext s12) ha2 ins_noT ins_noC) upd_same ins_noT ins_noC) nr
    · rw [upd_ne (ne_of_none (s12 _ _ e) nrH2), hup _ _ _ n1]
      exact s12 _ _ e
end
end Ao
set_option Elab.async false
set_option maxRecDepth 100000
set_option maxHeartbeats 2000000
namespace Ao
open PySem PySem.Spec PyProof.Rows L2 LamX
theorem act_list {n : Nat} {ns : List Nat} {x : Pn13.Act} (h : Pn13.act? n ns = some x) : ns.map nI = actL x := by
  match ns, h with
  | [w, p, q, a, d], h =>
    have h : (if w ≤ 1 ∧ ([p, q, a, d].all fun x => decide (x < 2 ^ n)) = true then some (⟨w, p, q, a, d⟩ : Pn13.Act) else none) = some x := h
    split at h
    · have e := Option.some.inj h
      rw [← e]
      rfl
    · cases h
section
variable {P : Program} {w : World} {K : PySem.W.Frag} {mg : Str → Option Value} {base : Heap} {CA CG CH : Addr} {T : List (Addr × Str)}
/-! ### act -/
def spAct (K : PySem.W.Frag) (CA CG CH : Addr) (T : List (Addr × Str)) : Sp := fun vs H Q _ => ∃ (a la l : Addr) (h : Pn13.House) (ns : List Nat), vs = [.ref a, .ref l] ∧ HouseL K CA CG CH H a la h ∧ Tabs T H ∧ SqL K H l (ns.map nI) ∧ ns.length ≤ 1000 ∧
  Ends1 K CA CG CH T a la H (Pn13.step h (.act ns)).1 (Pn13Neutral.out (Pn13.step h (.act ns)).2) Q
theorem scAct : FnScope ["self", "told", "number"] ["self", "told"] (defScope sAct) := ⟨rfl, rfl, rfl, by decide +kernel, rfl, by decide +kernel, by decide +kernel⟩
theorem ok_act {f fI fA : Addr} {fd fdI fdA : FuncData} (F : Fun K "act" "House.act" sAct f fd) (TH : TxtH K CH) (TG : TxtG K CG) (TB : TxtB mg) (NW : NumC mg "WRONG" (-1)) (NF : NumC mg "FULL" (-7)) (NM : NumC mg "MOST_ACTS" 10) (I : FnIs P w K mg base 2 "is_act" ["facts", "told"] (spIsAct K) fI fdI)
    (M : MkIs P w K mg base 1 "Act" CA ["self", "told"] (spActI K CA) fA fdA) : FnOk P w K mg base CX0 3 f fd ["self", "told"] (spAct K CA CG CH T) := by
  refine F.ok scAct (fun vs H Q E h => ?_) (fun cdv A outer s H vs Q E hr h => ?_)
  · obtain ⟨a, b, c, d, e, rfl, _⟩ := h
    rfl
  · obtain ⟨a, la, l, h, ns, rfl, HL, hT, hl, len, k⟩ := h
    obtain ⟨dx, g, as, ha, GL⟩ := HL.ob
    obtain ⟨dg, wa, ma, hg, hwa, hma⟩ := GL.ob
    have one : 1 ≤ sizeLine := by decide
    refine ⟨_, pss_cons (ps_set (i := 2) scAct.nd rfl (Or.inl rfl) (pe_callB call_len_seq (by rfl) TB.len PySem.boot_len (pa_cons (pe_fld (pe_fld (pv 0) rfl) rfl) pa_nil)))
      (pss_cons (ps_if (pt_cmpR op_eq (pv 2) (pe_num (by rfl) NM) (nomark _)) (pss_one (ps_ret (pe_lst (pa_cons (pe_num (by rfl) NF) pa_nil)))) pss_nil)
      (pss_cons (ps_if (pt_not (pt_val (pe_call I.ok hr rfl I.gl I.kp I.b .nil pass0 (pa_cons (pe_fld (pe_fld (pv 0) rfl) rfl) (pa_cons (pv 1) pa_nil))))) (pss_one (ps_ret (pe_lst (pa_cons (pe_num (by rfl) NW) pa_nil)))) pss_nil)
      (pss_cons (ps_expr (pe_bm PySem.F.plainAttrs_list PySem.F.slot_list_append PySem.F.type_list_append mt_append (pe_fld (pe_fld (pv 0) rfl) rfl) (pa_cons (pe_make M.makes M.ok hr rfl M.gl M.b .nil pass0 (pa_cons (pv 1) pa_nil)) pa_nil)))
      (pss_one (ps_ret (pe_lst (pa_cons (pv 2) pa_nil))))))), ?_⟩
    have es : Pn13.step h (.act ns) = if h.task.acts.length = 10 then (h, Pn13.ok (-7)) else match Pn13.act? h.task.facts ns with
      | none => (h, Pn13.ok (-1))
      | some a => ({ h with task := { h.task with acts := h.task.acts ++ [a] } }, Pn13.ok (h.task.acts.length : Nat)) := rfl
    rw [es] at k
    refine ⟨_, rfl, a, CH, dx, _, _, rfl, ha, TH.cl, TH.nG, houseF_game _ _, g, CG, dg, _, _, rfl, hg, TG.cl, TG.nA, gameF_acts _ _ _ _, la, _, rfl, .inl (SqL.of GL.lst), ?_⟩
    dsimp only
    rw [List.length_map, GL.len]
    refine ⟨_, rfl, rfl, _, rfl, ?_⟩
    have e10 : decide (V.int ((h.task.acts.length : Nat) : Int) = V.int 10) = (h.task.acts.length == 10) := eqV_nat _ 10
    by_cases c1 : h.task.acts.length = 10
    · rw [if_pos c1] at k
      refine ifT (by rw [e10, c1]; rfl) ⟨one, fun p np => ?_⟩
      exact k p la _ (HL.ext (Ext.of (Same.upd np))) (.inl rfl) (hT.ext (Same.upd np)) (Keep.of (Ext.of (Same.upd np))) (.of np) upd_same
    · rw [if_neg c1] at k
      refine ifF (by rw [e10]; exact beq_eq_false_iff_ne.mpr c1) ?_
      refine ⟨_, rfl, a, CH, dx, _, _, rfl, ha, TH.cl, TH.nG, houseF_game _ _, g, CG, dg, _, _, rfl, hg, TG.cl, TG.nF, gameF_facts _ _ _ _, _, rfl, h.task.facts, l, ns, rfl, hl, len, fun H1 s1 => ⟨_, rfl, ?_⟩⟩
      cases hx : Pn13.act? h.task.facts ns with
      | none =>
        rw [hx] at k
        refine iteT ⟨one, fun p np => ?_⟩
        have s2 : Same H (upd H1 p (.lst [.int (-1)])) := s1.trans (Same.upd np)
        exact k p la _ (HL.ext (Ext.of s2)) (.inl rfl) (hT.ext s2) (Keep.of (Ext.of s2)) (.of (s1.free np)) upd_same
      | some x =>
        rw [hx] at k
        have few := GL.few
        have ha1 := s1 _ _ ha
        have hg1 := s1 _ _ hg
        refine iteF ⟨_, rfl, a, CH, dx, _, _, rfl, ha1, TH.cl, TH.nG, houseF_game _ _, g, CG, dg, _, _, rfl, hg1, TG.cl, TG.nA, gameF_acts _ _ _ _, .inl ⟨rfl, _, SqL.of (s1 _ _ GL.lst)⟩, _, rfl, ?_⟩
        intro y dy ny ndy ney
        have hl1 : SqL K H1 l (actL x) := by rw [← act_list hx]; exact s1.seq hl
        refine ⟨y, dy, l, x, rfl, upd_same, ((Same.upd ndy).trans (Same.upd (by rw [upd_ne ney.symm]; exact ny))).seq hl1, fun H2 hy kp => ⟨rfl, ?_⟩⟩
        have s2 : Same H1 H2 := Same.made ny ndy kp
        have s12 := s1.trans s2
        have hla2 := s12 _ _ GL.lst
        refine ⟨la, _, _, rfl, rfl, hla2, ?_, ?_⟩
        · rw [List.length_map, GL.len]
          exact Nat.lt_of_le_of_lt few (by decide)
        · refine ⟨_, rfl, one, fun p np => ?_⟩
          have npla : la ≠ p := ne_of_none upd_same np
          have np2 : H2 p = none := by rw [upd_ne npla.symm] at np; exact np
          have GL2 := GL.ext (Ext.of s12)
          have go : ∀ {b : Addr} {o : HO}, H2 b = some o → (∀ xs, o ≠ .lst xs) → upd (upd H2 la (.lst (as.map V.ref ++ [V.ref y]))) p (.lst [.int (h.task.acts.length : Nat)]) b = some o := fun {b o} e n => by
            have e1 : b ≠ la := fun z => by rw [z, hla2] at e; exact n _ (Option.some.inj e).symm
            rw [upd_ne (ne_of_none e np2), upd_ne e1]
            exact e
          have goT : ∀ {b : Addr} {xs : List V}, SqT K H2 b xs → SqT K (upd (upd H2 la (.lst (as.map V.ref ++ [V.ref y]))) p (.lst [.int (h.task.acts.length : Nat)])) b xs := fun {b xs} q => by
            rcases q with (q | ⟨ob, q⟩) | q
            · exact .inl (.inl (go q fun _ z => nomatch z))
            · exact .inl (.inr ⟨ob, go q fun _ z => nomatch z⟩)
            · exact .inr q
          refine k p la _ ⟨⟨dx, g, as ++ [y], go (s12 _ _ ha) (fun _ z => nomatch z), ⟨dg, wa, ma, go (s12 _ _ hg) (fun _ z => nomatch z), goT (Same.seqT s12 hwa), goT (Same.seqT s12 hma)⟩, ?_, ?_, fun i b hb => ?_, ?_, GL.fc⟩, HL.turn⟩ (.inl rfl) ?_ (fun b o e n1 n2 n3 => ?_) (.of (s12.free np2)) upd_same
          · rw [upd_ne npla, upd_same, List.map_append]
            rfl
          · show (as ++ [y]).length = (h.task.acts ++ [x]).length
            rw [List.length_append, List.length_append, GL.len]
            rfl
          · by_cases c : i < as.length
            · rw [List.getElem?_append_left c] at hb
              obtain ⟨z, h4, dz, h5⟩ := GL2.acts i b hb
              exact ⟨z, by show (h.task.acts ++ [x])[i]? = some z; rw [List.getElem?_append_left (by rw [← GL.len]; exact c)]; exact h4, dz, go h5 fun _ z => nomatch z⟩
            · have hi : i = as.length := by
                have q := (List.getElem?_eq_some_iff.mp hb).1
                rw [List.length_append, List.length_singleton] at q
                omega
              subst hi
              rw [List.getElem?_append_right (Nat.le_refl _), Nat.sub_self] at hb
              have e : y = b := Option.some.inj hb
              subst e
              obtain ⟨dz, hz⟩ := hy
              exact ⟨x, by show (h.task.acts ++ [x])[as.length]? = some x; rw [GL.len, List.getElem?_append_right (Nat.le_refl _), Nat.sub_self]; rfl, dz, go hz fun _ z => nomatch z⟩
          · show (h.task.acts ++ [x]).length ≤ 10
            rw [List.length_append, List.length_singleton]
            omega
          · exact tabs_new (tabs_upd (hT.ext s12) hla2 lst_noT lst_noC) np
          · rw [upd_ne (ne_of_none (s12 _ _ e) np2), upd_ne n2]
            exact s12 _ _ e
/-! ### House.__init__ -/
def spHouseI (K : PySem.W.Frag) (CA CG CH : Addr) (T : List (Addr × Str)) : Sp := fun vs H Q _ => ∃ (a dx : Addr), vs = [.ref a] ∧ H a = some (.ins CH dx []) ∧ Tabs T H ∧ ∀ (H' : Hp) (la : Addr), HouseL K CA CG CH H' a la Pn13.init → H la = none → Tabs T H' → (∀ b o, H b = some o → b ≠ a → H' b = some o) → Q .non H'
theorem scHouseI : FnScope ["self"] ["self"] (defScope sHouseI) := ⟨rfl, rfl, rfl, by decide +kernel, rfl, by decide +kernel, by decide +kernel⟩
theorem ok_houseI {f fG fS : Addr} {fd fdG fdS : FuncData} (F : Fun K "__init__" "House.__init__" sHouseI f fd) (TH : TxtH K CH) (nG : CG ≠ CH) (G : MkIs P w K mg base 1 "Game" CG ["self", "facts", "wants", "may_pass"] (spGameI CG) fG fdG) (S : FnIs P w K mg base 1 "state_of" ["so", "turn"] spStateOf fS fdS) :
    FnOk P w K mg base CX0 3 f fd ["self"] (spHouseI K CA CG CH T) := by
  refine F.ok scHouseI (fun vs H Q E h => ?_) (fun cdv A outer s H vs Q E hr h => ?_)
  · obtain ⟨a, b, rfl, _⟩ := h
    rfl
  · obtain ⟨a, dx, rfl, ha, hT, k⟩ := h
    have hr1 : Room 1 _ := hr.mono (by decide)
    refine ⟨_, pss_cons (ps_fld (pv 0) (pe_make G.makes G.ok hr rfl G.gl G.b .nil pass0 (pa_cons pe_int (pa_cons (pe_tup (pa_cons pe_int (pa_cons pe_int pa_nil))) (pa_cons (pe_tup (pa_cons pe_int (pa_cons pe_int pa_nil))) pa_nil)))) rfl)
      (pss_one (ps_fld (pv 0) (pe_call S.ok hr1 rfl S.gl S.kp S.b .nil pass0 (pa_cons pe_int (pa_cons pe_int pa_nil))) rfl)), ?_⟩
    refine ⟨(by show 2 ≤ sizeLine; decide), fun wa nwa => ⟨(by show 2 ≤ sizeLine; decide), fun ma nma => ?_⟩⟩
    intro gx dg nx nd ne
    have s1 : Same H (upd (upd H wa (.tup [V.int 1, V.int 1])) ma (.tup [V.int 0, V.int 0])) := (Same.upd nwa).trans (Same.upd nma)
    refine ⟨gx, dg, wa, ma, Pn13.init.task, rfl, upd_same, fun H2 la2 nla2 hgx hla2 kp => ⟨rfl, ?_⟩⟩
    have s2 : Same (upd (upd H wa (.tup [V.int 1, V.int 1])) ma (.tup [V.int 0, V.int 0])) H2 := Same.made nx nd kp
    have s12 := s1.trans s2
    have ha2 := s12 _ _ ha
    have hwa : H2 wa = some (.tup [V.int 1, V.int 1]) := s2 _ _ (by rw [upd_ne (ne_of_none upd_same nma)]; exact upd_same)
    have hma : H2 ma = some (.tup [V.int 0, V.int 0]) := s2 _ _ upd_same
    have nax : a ≠ gx := fun z => by rw [z, (show H2 gx = _ from hgx)] at ha2; injection ha2 with z; injection z with z; exact nG z
    refine ⟨_, rfl, a, CH, dx, _, rfl, ha2, TH.cl, TH.nG, (by show 0 < 1000; decide), ?_⟩
    refine ⟨0, 0, rfl, _, rfl, a, CH, dx, _, rfl, upd_same, TH.cl, TH.nS, (by show 1 < 1000; decide), ?_⟩
    have hup : ∀ o1 o2 b, b ≠ a → upd (upd H2 a o1) a o2 b = H2 b := fun o1 o2 b hb => by rw [upd_ne hb, upd_ne hb]
    have nla : a ≠ la2 := ne_of ha2 hla2 (by intro z; cases z)
    have nwa2 : wa ≠ a := ne_of hwa ha2 (by intro z; cases z)
    have nma2 : ma ≠ a := ne_of hma ha2 (by intro z; cases z)
    refine k _ la2 ⟨⟨dx, gx, [], Eq.trans upd_same (congrArg (fun q => some (HO.ins CH dx q)) (houseF_new gx _)), ⟨dg, wa, ma, ?_, ?_, ?_⟩, ?_, rfl, fun i b hb => by simp at hb, Nat.zero_le _, by decide⟩, Nat.zero_le _⟩ ?_ ?_ (fun b o e n1 => ?_)
    · rw [hup _ _ _ nax.symm]; exact hgx
    · exact SqT.of (by rw [hup _ _ _ nwa2]; exact hwa)
    · exact SqT.of (by rw [hup _ _ _ nma2]; exact hma)
    · rw [hup _ _ _ nla.symm]; exact hla2
    · have z : (upd (upd H wa (.tup [V.int 1, V.int 1])) ma (.tup [V.int 0, V.int 0])) la2 = none := by
        have e1 : la2 ≠ gx := fun z => by rw [z, upd_same] at nla2; cases nla2
        have e2 : la2 ≠ dg := fun z => by
          rw [upd_ne e1, z, upd_same] at nla2; cases nla2
        rw [upd_ne e1, upd_ne e2] at nla2
        exact nla2
      exact s1.free z
    · exact tabs_upd (tabs_upd (hT.ext s12) ha2 ins_noT ins_noC) upd_same ins_noT ins_noC
    · rw [hup _ _ _ n1]
      exact s12 _ _ e
end
end Ao
set_option autoImplicit false
namespace Ao
/-! ### the list of calls, read from the front -/
/-- a call by its number and what it is handed -/
def callN : Nat → List Nat → Option Pn13.Call
  | 0, [n, g, a, p, q] => some (.begins n g a p q)
  | 1, r => some (.act r)
  | 2, [s, w] => some (.at_ s w)
  | 3, [] => some .value
  | 4, [] => some .best
  | 5, [n] => some (.line n)
  | 6, [k] => some (.move k)
  | 7, [] => some .answer
  | 8, [] => some .counts
  | _, _ => none
def sizeN : Nat → Nat
  | 0 => 5
  | 2 => 2
  | 5 => 1
  | 6 => 1
  | _ => 0
abbrev zs (ns : List Nat) : List Int := ns.map fun (n : Nat) => (n : Int)
/-- rest begins with the call cl; t is left -/
structure OneCall (rest : List Int) (n : Nat) (args : List Nat) (cl : Pn13.Call) (t : List Int) : Prop where
  num : n ≤ 8
  is : callN n args = some cl
  plain : n ≠ 1 → args.length = sizeN n ∧ rest = (n : Int) :: (zs args ++ t)
  row : n = 1 → args.length ≤ 6 ∧ rest = 1 :: (args.length : Int) :: (zs args ++ t)
/-- a whole list of calls -/
inductive Reads : List Int → List Pn13.Call → Prop
  | nil : Reads [] []
  | cons {rest : List Int} {n : Nat} {args : List Nat} {cl : Pn13.Call} {t : List Int} {cs : List Pn13.Call} : OneCall rest n args cl t → Reads t cs → Reads rest (cl :: cs)
theorem nat_of {z : Int} (h : Pn13Neutral.whole32 z = true) : ∃ n : Nat, z = (n : Int) := by
  unfold Pn13Neutral.whole32 at h
  rw [Bool.and_eq_true, decide_eq_true_eq] at h
  exact ⟨z.toNat, by omega⟩
theorem nats_of : ∀ {l : List Int}, (∀ z ∈ l, Pn13Neutral.whole32 z = true) → ∃ ns : List Nat, l = zs ns ∧ Pn13Neutral.nats l = ns
  | [], _ => ⟨[], rfl, rfl⟩
  | z :: l, h => by
    obtain ⟨n, rfl⟩ := nat_of (h z (List.mem_cons_self ..))
    obtain ⟨ns, rfl, e⟩ := nats_of (l := l) fun y hy => h y (List.mem_cons_of_mem _ hy)
    refine ⟨n :: ns, rfl, ?_⟩
    unfold Pn13Neutral.nats at e ⊢
    rw [List.map_cons, e]
    rfl
/-- the calls as the specification plays them -/
def played (h : Pn13.House) : List Pn13.Call → List (List Int)
  | [] => []
  | c :: cs => Pn13Neutral.out (Pn13.step h c).2 :: played (Pn13.step h c).1 cs
theorem shape_of {p : Int} {n k : Nat} (h : PyPn13.shape p = some (n, k)) : (p = 0 ∧ n = 5 ∧ k = 0) ∨ (p = 1 ∧ n = 0 ∧ k = 1) ∨ (p = 2 ∧ n = 2 ∧ k = 0) ∨ (p = 3 ∧ n = 0 ∧ k = 0) ∨ (p = 4 ∧ n = 0 ∧ k = 0) ∨ (p = 5 ∧ n = 1 ∧ k = 0) ∨ (p = 6 ∧ n = 1 ∧ k = 0) ∨ (p = 7 ∧ n = 0 ∧ k = 0) ∨ (p = 8 ∧ n = 0 ∧ k = 0) := by
  unfold PyPn13.shape at h
  repeat' split at h
  all_goals first | (cases h; done) | (cases h; simp_all; done)
theorem one_call {rest t : List Int} {c : List (List Int)} (h : PyFlat.call PyPn13.shape rest = some (c, t)) (ha : Pn13Neutral.asked1 (PyPn13.whole c) = true) :
    ∃ (n : Nat) (args : List Nat) (cl : Pn13.Call), OneCall rest n args cl t ∧ Pn13Neutral.callOf (PyPn13.whole c) = some cl := by
  cases rest with
  | nil => cases h
  | cons p r =>
    unfold PyFlat.call at h
    dsimp only at h
    cases hs : PyPn13.shape p with
    | none => rw [hs] at h; cases h
    | some nk =>
      obtain ⟨n, k⟩ := nk
      rw [hs] at h
      dsimp only at h
      split at h
      · cases h
      · rename_i hlen
        rcases shape_of hs with ⟨rfl, rfl, rfl⟩ | ⟨rfl, rfl, rfl⟩ | ⟨rfl, rfl, rfl⟩ | ⟨rfl, rfl, rfl⟩ | ⟨rfl, rfl, rfl⟩ | ⟨rfl, rfl, rfl⟩ | ⟨rfl, rfl, rfl⟩ | ⟨rfl, rfl, rfl⟩ | ⟨rfl, rfl, rfl⟩
        · match r, hlen with
          | a :: b :: c' :: d :: e :: r', _ =>
            cases h
            have ha : (Pn13Neutral.whole32 a && (Pn13Neutral.whole32 b && (Pn13Neutral.whole32 c' && (Pn13Neutral.whole32 d && Pn13Neutral.whole32 e)))) = true := ha
            simp only [Bool.and_eq_true] at ha
            obtain ⟨h1, h2, h3, h4, h5⟩ := ha
            obtain ⟨a, rfl⟩ := nat_of h1
            obtain ⟨b, rfl⟩ := nat_of h2
            obtain ⟨c', rfl⟩ := nat_of h3
            obtain ⟨d, rfl⟩ := nat_of h4
            obtain ⟨e, rfl⟩ := nat_of h5
            exact ⟨0, [a, b, c', d, e], _, ⟨by decide, rfl, fun _ => ⟨rfl, rfl⟩, fun z => absurd z (by decide)⟩, rfl⟩
          | [], hl => exact absurd (by decide) hl
          | [_], hl => exact absurd (by simp) hl
          | [_, _], hl => exact absurd (by simp) hl
          | [_, _, _], hl => exact absurd (by simp) hl
          | [_, _, _, _], hl => exact absurd (by simp) hl
        · cases r with
          | nil => cases h
          | cons m r' =>
            simp only [List.drop_zero, PyFlat.rows, PyFlat.row] at h
            by_cases c1 : 0 ≤ m ∧ m.toNat ≤ r'.length
            · rw [if_pos c1] at h
              cases h
              have ha : (decide ((r'.take m.toNat).length ≤ 6) && (r'.take m.toNat).all Pn13Neutral.whole32) = true := ha
              rw [Bool.and_eq_true, decide_eq_true_eq, List.all_eq_true] at ha
              obtain ⟨ns, e1, e2⟩ := nats_of ha.2
              have el : ns.length = m.toNat := by
                have q := congrArg List.length e1
                rw [List.length_take, List.length_map] at q
                omega
              refine ⟨1, ns, .act ns, ⟨by decide, rfl, fun z => absurd rfl z, fun _ => ⟨by have q := ha.1; rw [e1, List.length_map] at q; exact q, ?_⟩⟩, ?_⟩
              · rw [← e1, List.take_append_drop, el, Int.toNat_of_nonneg c1.1]
              · show some (Pn13.Call.act (Pn13Neutral.nats (r'.take m.toNat))) = _
                rw [e2]
            · rw [if_neg c1] at h
              cases h
        · match r, hlen with
          | a :: b :: r', _ =>
            cases h
            have ha : (Pn13Neutral.whole32 a && Pn13Neutral.whole32 b) = true := ha
            simp only [Bool.and_eq_true] at ha
            obtain ⟨h1, h2⟩ := ha
            obtain ⟨a, rfl⟩ := nat_of h1
            obtain ⟨b, rfl⟩ := nat_of h2
            exact ⟨2, [a, b], _, ⟨by decide, rfl, fun _ => ⟨rfl, rfl⟩, fun z => absurd z (by decide)⟩, rfl⟩
          | [], hl => exact absurd (by decide) hl
          | [_], hl => exact absurd (by simp) hl
        · cases h
          exact ⟨3, [], _, ⟨by decide, rfl, fun _ => ⟨rfl, rfl⟩, fun z => absurd z (by decide)⟩, rfl⟩
        · cases h
          exact ⟨4, [], _, ⟨by decide, rfl, fun _ => ⟨rfl, rfl⟩, fun z => absurd z (by decide)⟩, rfl⟩
        · match r, hlen with
          | a :: r', _ =>
            cases h
            obtain ⟨a, rfl⟩ := nat_of (show Pn13Neutral.whole32 a = true from ha)
            exact ⟨5, [a], _, ⟨by decide, rfl, fun _ => ⟨rfl, rfl⟩, fun z => absurd z (by decide)⟩, rfl⟩
          | [], hl => exact absurd (by decide) hl
        · match r, hlen with
          | a :: r', _ =>
            cases h
            obtain ⟨a, rfl⟩ := nat_of (show Pn13Neutral.whole32 a = true from ha)
            exact ⟨6, [a], _, ⟨by decide, rfl, fun _ => ⟨rfl, rfl⟩, fun z => absurd z (by decide)⟩, rfl⟩
          | [], hl => exact absurd (by decide) hl
        · cases h
          exact ⟨7, [], _, ⟨by decide, rfl, fun _ => ⟨rfl, rfl⟩, fun z => absurd z (by decide)⟩, rfl⟩
        · cases h
          exact ⟨8, [], _, ⟨by decide, rfl, fun _ => ⟨rfl, rfl⟩, fun z => absurd z (by decide)⟩, rfl⟩
theorem reads_all : ∀ (f : Nat) (l : List Int) (raw : List (List (List Int))), PyFlat.calls PyPn13.shape f l = some raw → (∀ c ∈ raw, Pn13Neutral.asked1 (PyPn13.whole c) = true) →
    ∃ cs, Reads l cs ∧ ∀ h : Pn13.House, PyFlat.played Pn13Neutral.step h (raw.map PyPn13.whole) = played h cs
  | f, [], raw, h, _ => by
    have e : raw = [] := by
      cases f <;> (unfold PyFlat.calls at h; cases h; rfl)
    rw [e]
    exact ⟨[], .nil, fun _ => rfl⟩
  | 0, _ :: _, raw, h, _ => by cases h
  | f + 1, p :: r, raw, h, ha => by
    unfold PyFlat.calls at h
    cases hc : PyFlat.call PyPn13.shape (p :: r) with
    | none => rw [hc] at h; cases h
    | some ct =>
      obtain ⟨c, t⟩ := ct
      rw [hc] at h
      dsimp only at h
      cases hr : PyFlat.calls PyPn13.shape f t with
      | none => rw [hr] at h; cases h
      | some cs0 =>
        rw [hr] at h
        cases h
        obtain ⟨n, args, cl, o, e⟩ := one_call hc (ha c (List.mem_cons_self ..))
        obtain ⟨cs, rd, pl⟩ := reads_all f t cs0 hr fun x hx => ha x (List.mem_cons_of_mem _ hx)
        refine ⟨cl :: cs, .cons o rd, fun h => ?_⟩
        have es : Pn13Neutral.step h (PyPn13.whole c) = ((Pn13.step h cl).1, Pn13Neutral.out (Pn13.step h cl).2) := by
          unfold Pn13Neutral.step
          rw [e]
        rw [List.map_cons]
        show (Pn13Neutral.step h (PyPn13.whole c)).2 :: PyFlat.played Pn13Neutral.step (Pn13Neutral.step h (PyPn13.whole c)).1 _ = _
        rw [es]
        show _ :: PyFlat.played Pn13Neutral.step (Pn13.step h cl).1 _ = _
        rw [pl]
        rfl
/-- what is asked of the whole list -/
theorem asked_reads {l : List Int} (h : PyPn13.answers_asked l = true) : ∃ cs, Reads l cs ∧ PyPn13.answers l = PyFlat.told (played Pn13.init cs) := by
  unfold PyPn13.answers_asked at h
  cases hr : PyFlat.calls PyPn13.shape l.length l with
  | none => rw [hr] at h; cases h
  | some raw =>
    rw [hr] at h
    simp only [Bool.and_eq_true] at h
    obtain ⟨⟨_, ha⟩, _⟩ := h
    unfold Pn13Neutral.asked at ha
    simp only [Bool.and_eq_true] at ha
    have hall := ha.1
    rw [List.all_eq_true] at hall
    obtain ⟨cs, rd, pl⟩ := reads_all _ l raw hr fun c hc => hall _ (List.mem_map.mpr ⟨c, hc, rfl⟩)
    refine ⟨cs, rd, ?_⟩
    unfold PyPn13.answers PyPn13.calls
    rw [hr]
    show PyFlat.told (PyFlat.played Pn13Neutral.step Pn13Neutral.start (raw.map PyPn13.whole)) = _
    rw [pl]
    rfl
/-- told, one answer at a time -/
theorem told_cons (a : List Int) (as : List (List Int)) : PyFlat.told (a :: as) = ((a.length : Int) :: a) ++ PyFlat.told as := rfl
end Ao
set_option Elab.async false
set_option maxRecDepth 100000
set_option maxHeartbeats 2000000
namespace Ao
open PySem PySem.Spec PyProof.Rows L2 LamX
abbrev sAnswers : Stmt := top 37
/-! ### how long an answer is -/
theorem line_len (t : Pn13.Task) (a b : List (List Pn13.State)) : ∀ (n : Nat) (u : Pn13.State), (t.line a b n u).length ≤ n
  | 0, _ => Nat.le_refl _
  | n + 1, u => by
    unfold Pn13.Task.line
    cases t.best a b u with
    | none => exact Nat.zero_le _
    | some k => exact Nat.succ_le_succ (line_len t a b n _)
theorem out_len (h : Pn13.House) (c : Pn13.Call) : (Pn13Neutral.out (Pn13.step h c).2).length ≤ 43 := by
  have e : ∀ a : Pn13.Ans, (Pn13Neutral.out a).length = a.l.length + 1 := fun a => by
    unfold Pn13Neutral.out
    rw [List.length_cons, List.length_map]
  rw [e]
  cases c with
  | begins n g a p q => unfold Pn13.step; dsimp only; split <;> exact Nat.le_of_ble_eq_true rfl
  | act r =>
    unfold Pn13.step; dsimp only
    split
    · exact Nat.le_of_ble_eq_true rfl
    · split <;> exact Nat.le_of_ble_eq_true rfl
  | at_ s w => unfold Pn13.step; dsimp only; split <;> exact Nat.le_of_ble_eq_true rfl
  | value => exact Nat.le_of_ble_eq_true rfl
  | best =>
    unfold Pn13.step; dsimp only
    split <;> exact Nat.le_of_ble_eq_true rfl
  | line n =>
    unfold Pn13.step; dsimp only
    split
    · exact Nat.le_of_ble_eq_true rfl
    · rename_i c
      have q := line_len h.task (h.task.forced 1) (h.task.forced 2) n h.now
      have c : ¬ 40 < n := c
      show (h.task.line (h.task.forced 1) (h.task.forced 2) n h.now).length + 1 ≤ 43
      omega
  | move k => unfold Pn13.step; dsimp only; split <;> exact Nat.le_of_ble_eq_true rfl
  | answer =>
    unfold Pn13.step; dsimp only
    split <;> exact Nat.le_of_ble_eq_true rfl
  | counts => exact Nat.le_of_ble_eq_true rfl
theorem cut_zs (l : List Int) (i j : Nat) (h : i + j ≤ l.length) : cutV (l.map V.int) (some (i : Int)) (some ((i : Int) + (j : Int))) = ((l.drop i).take j).map V.int := by
  unfold cutV
  rw [show (i : Int) + (j : Int) = ((i + j : Nat) : Int) by omega, HT.sIx_nat, HT.sIx_nat, List.length_map, Nat.min_eq_left h, Nat.min_eq_left (show i ≤ l.length by omega), ← List.map_drop, ← List.map_take, show i + j - i = j by omega]
theorem zs_nI (ns : List Nat) : (zs ns).map V.int = ns.map nI := by
  rw [List.map_map]
  rfl
/-! ### the list that is handed in -/
/-- the list at c stays readable whatever happens to the house at a and the acts at la -/
def Handed (K : PySem.W.Frag) (H : Hp) (c a la G : Addr) (xs : List V) : Prop := (Rd H c (.lst xs) ∧ c ≠ a ∧ c ≠ la ∧ c ≠ G) ∨ ∀ H' : Hp, SqL K H' c xs
theorem Handed.seq {K : PySem.W.Frag} {H : Hp} {c a la G : Addr} {xs : List V} (h : Handed K H c a la G xs) : SqL K H c xs := by
  rcases h with h | h
  · exact .inl h.1
  · exact h H
theorem Handed.keep {K : PySem.W.Frag} {H H' : Hp} {c a la la' G : Addr} {xs : List V} (h : Handed K H c a la G xs) (k : Keep a la H H') (n : la' = la ∨ H la' = none) : Handed K H' c a la' G xs := by
  rcases h with ⟨h, n1, n2, n3⟩ | h
  · have e : ∃ o, H c = some o := by
      rcases h with h | ⟨o, h⟩
      · exact ⟨_, h⟩
      · exact ⟨_, h⟩
    refine .inl ⟨?_, n1, ?_, n3⟩
    · rcases h with h | ⟨o, h⟩
      · exact .inl (k _ _ h n1 n2 fun _ z => nomatch z)
      · exact .inr ⟨o, k _ _ h n1 n2 fun _ z => nomatch z⟩
    · rcases n with z | z
      · rw [z]; exact n2
      · obtain ⟨o, e⟩ := e
        exact fun q => by rw [q, z] at e; cases e
  · exact .inr h
theorem Handed.same {K : PySem.W.Frag} {H H' : Hp} {c a la G : Addr} {xs : List V} (h : Handed K H c a la G xs) (s : Same H H') : Handed K H' c a la G xs := by
  rcases h with ⟨h, n⟩ | h
  · refine .inl ⟨?_, n⟩
    rcases h with h | ⟨o, h⟩
    · exact .inl (s _ _ h)
    · exact .inr ⟨o, s _ _ h⟩
  · exact .inr h
theorem Handed.upd {K : PySem.W.Frag} {H : Hp} {c a la G : Addr} {xs : List V} {o : HO} (h : Handed K H c a la G xs) : Handed K (upd H G o) c a la G xs := by
  rcases h with ⟨h, n⟩ | h
  · refine .inl ⟨?_, n⟩
    unfold Rd
    rw [upd_ne n.2.2]
    exact h
  · exact .inr h
theorem HouseL.upd_list {K : PySem.W.Frag} {CA CG CH : Addr} {H : Hp} {a la G : Addr} {h : Pn13.House} {xs : List V} {o : HO} (x : HouseL K CA CG CH H a la h) (hG : H G = some (.lst xs)) (n : G ≠ la) : HouseL K CA CG CH (upd H G o) a la h := by
  obtain ⟨dx, g, as, ha, GL⟩ := x.ob
  obtain ⟨dg, wa, ma, h1, h2, h3⟩ := GL.ob
  have go : ∀ {b : Addr} {u : HO}, H b = some u → (∀ xs, u ≠ .lst xs) → upd H G o b = some u := fun {b u} e n => by
    have : b ≠ G := fun z => by
      rw [z, hG] at e
      exact n _ (Option.some.inj e).symm
    rw [upd_ne this]
    exact e
  have goT : ∀ {b : Addr} {ys : List V}, SqT K H b ys → SqT K (upd H G o) b ys := fun {b ys} q => by
    rcases q with (q | ⟨ob, q⟩) | q
    · exact .inl (.inl (go q fun _ z => nomatch z))
    · exact .inl (.inr ⟨ob, go q fun _ z => nomatch z⟩)
    · exact .inr q
  refine ⟨⟨dx, g, as, (go ha fun _ z => nomatch z), ⟨dg, wa, ma, (go h1 fun _ z => nomatch z), goT h2, goT h3⟩, by rw [upd_ne n.symm]; exact GL.lst, GL.len, fun i b hb => ?_, GL.few, GL.fc⟩, x.turn⟩
  obtain ⟨y, h4, dy, h5⟩ := GL.acts i b hb
  exact ⟨y, h4, dy, go h5 fun _ z => nomatch z⟩
theorem drop_cons {l r : List Int} {x : Int} {i : Nat} (h : l.drop i = x :: r) : l[i]? = some x ∧ l.drop (i + 1) = r ∧ i < l.length := by
  have hi : i < l.length := by
    cases Nat.lt_or_ge i l.length with
    | inl z => exact z
    | inr z => rw [List.drop_eq_nil_of_le z] at h; cases h
  rw [List.drop_eq_getElem_cons hi] at h
  injection h with h1 h2
  exact ⟨by rw [List.getElem?_eq_getElem hi, h1], h2, hi⟩
theorem drop_app {l t : List Int} {ns : List Nat} {j : Nat} (h : l.drop j = zs ns ++ t) (hj : j ≤ l.length) : (l.drop j).take ns.length = zs ns ∧ l.drop (j + ns.length) = t ∧ j + ns.length ≤ l.length := by
  have e : (zs ns).length = ns.length := List.length_map _
  have q := congrArg List.length h
  rw [List.length_drop, List.length_append, e] at q
  refine ⟨by rw [h, ← e, List.take_left], ?_, by omega⟩
  rw [← List.drop_drop, h, ← e, List.drop_left]
section
variable {P : Program} {w : World} {K : PySem.W.Frag} {mg : Str → Option Value} {base : Heap} {CA CG CH : Addr} {T : List (Addr × Str)}
/-- answer_of's -/
def spAnsOf (K : PySem.W.Frag) (CA CG CH : Addr) (T : List (Addr × Str)) : Sp := fun vs H Q _ => ∃ (a la l : Addr) (h : Pn13.House) (n : Nat) (args : List Nat) (cl : Pn13.Call), vs = [.ref a, nI n, .ref l] ∧ HouseL K CA CG CH H a la h ∧ Tabs T H ∧ SqL K H l (args.map nI) ∧ args.length ≤ 1000 ∧ callN n args = some cl ∧
  Ends1 K CA CG CH T a la H (Pn13.step h cl).1 (Pn13Neutral.out (Pn13.step h cl).2) Q
def spAnswers (K : PySem.W.Frag) (T : List (Addr × Str)) : Sp := fun vs H Q _ => ∃ (c : Addr) (l : List Int) (cs : List Pn13.Call), vs = [.ref c] ∧ SqL K H c (l.map V.int) ∧ l.length ≤ 480 ∧ Tabs T H ∧ Reads l cs ∧ ∀ (H' : Hp) (p : Addr), H' p = some (.lst ((PyFlat.told (played Pn13.init cs)).map V.int)) → Q (.ref p) H'
abbrev nAnswers : List Str := ["calls", "house", "given", "place", "call", "start", "size", "answer"]
theorem scAnswers : FnScope nAnswers ["calls"] (defScope sAnswers) := ⟨rfl, rfl, rfl, by decide +kernel, rfl, by decide +kernel, by decide +kernel⟩
abbrev sizesL : List V := [.int 5, .int 0, .int 2, .int 0, .int 0, .int 1, .int 1, .int 0, .int 0]
theorem sizes_at {n : Nat} (h : n ≤ 8) : atI sizesL (n : Int) = some (nI (sizeN n)) := by
  match n, h with
  | 0, _ => rfl
  | 1, _ => rfl
  | 2, _ => rfl
  | 3, _ => rfl
  | 4, _ => rfl
  | 5, _ => rfl
  | 6, _ => rfl
  | 7, _ => rfl
  | 8, _ => rfl
/-- where the loop stands -/
structure LoopAt (K : PySem.W.Frag) (CA CG CH : Addr) (T : List (Addr × Str)) (l : List Int) (whole : List Int) (c a G : Addr) (i : Nat) (H : Hp) : Prop where
  ok : ∃ (la : Addr) (h : Pn13.House) (cs : List Pn13.Call) (out : List Int), Reads (l.drop i) cs ∧ HouseL K CA CG CH H a la h ∧ Tabs T H ∧ Handed K H c a la G (l.map V.int) ∧ H G = some (.lst (out.map V.int)) ∧ G ≠ la ∧ out ++ PyFlat.told (played h cs) = whole ∧ out.length ≤ 64 * i
  le : i ≤ l.length
def placeOf (σ : L2.St) : Nat := match σ with
  | _ :: _ :: _ :: some (V.int z) :: _ => z.toNat
  | _ => 0
abbrev rAdd : R2 := rI0 fun i j => V.int (i + j)
abbrev rLen (K : PySem.W.Frag) : List V → Hp → VK → Prop := fun xs H Q => ∃ p ys, xs = [V.ref p] ∧ (SqL K H p ys ∨ SqT K H p ys) ∧ Q (V.int ys.length) H
/-- answer = answer_of(house, call, calls[start:start + size]); given.append(len(answer)); given.extend(answer); place = start + size -/
def tTail (K : PySem.W.Frag) (CA CG CH : Addr) (T : List (Addr × Str)) : TS :=
  tSeq (tAsg (tCall (spAnsOf K CA CG CH T) [] E0 (tCons (tVar 1) (tCons (tVar 4) (tCons (L2.tSl (rSlL K) (tVar 0) (tPart (tVar 5)) (tPart (tOp rAdd (tVar 5) (tVar 6)))) tNil)))) (gName 7))
  (tSeq (tDrop (tBM K "list" rAppend (tVar 2) (tCons (tCB (rLen K) (tCons (tVar 7) tNil)) tNil)))
  (tSeq (tDrop (tBM K "list" rExtend (tVar 2) (tCons (tVar 7) tNil)))
  (tAsg (tOp rAdd (tVar 5) (tVar 6)) (gName 3))))
theorem tail_ok {l whole : List Int} {c a G la : Addr} {h : Pn13.House} {cs : List Pn13.Call} {cl : Pn13.Call} {out : List Int} {i n st sz : Nat} {args : List Nat} {v3 v7 : Option V} {H : Hp} {D : Ends} (hcl : callN n args = some cl) (hargs : (l.drop st).take sz = zs args) (hle : st + sz ≤ l.length) (hi : i < st) (short : l.length ≤ 480)
    (hR : Reads (l.drop (st + sz)) cs) (HL : HouseL K CA CG CH H a la h) (hT : Tabs T H) (hc : Handed K H c a la G (l.map V.int)) (hG : H G = some (.lst (out.map V.int))) (nG : G ≠ la) (hout : out ++ PyFlat.told (played h (cl :: cs)) = whole) (olen : out.length ≤ 64 * i)
    (next : ∀ (v4 v5 v6 v7 : Option V) (H' : Hp), LoopAt K CA CG CH T l whole c a G (st + sz) H' → D.nx [some (.ref c), some (.ref a), some (.ref G), some (nI (st + sz)), v4, v5, v6, v7] H') :
    tTail K CA CG CH T D [some (.ref c), some (.ref a), some (.ref G), v3, some (nI n), some (nI st), some (nI sz), v7] H := by
  refine ⟨_, rfl, _, rfl, _, rfl, _, rfl, _, rfl, _, rfl, _, rfl, _, _, rfl, rfl, _, rfl, c, _, rfl, hc.seq, fun q nq => ?_⟩
  rw [cut_zs l st sz hle, hargs, zs_nI]
  have sq : Same H (upd H q (.lst (args.map nI))) := Same.upd nq
  have alen : args.length ≤ 1000 := by
    have e := congrArg List.length hargs
    rw [List.length_take, List.length_drop, List.length_map] at e
    omega
  refine ⟨a, la, q, h, n, args, cl, rfl, HL.ext (Ext.of sq), hT.ext sq, SqL.of upd_same, alen, hcl, fun p la' H2 HL2 hla T2 kp np hp => ?_⟩
  have hG1 : upd H q (.lst (args.map nI)) G = some (.lst (out.map V.int)) := sq _ _ hG
  have nGa : G ≠ a := by
    obtain ⟨dx, g, as, ha, _⟩ := HL.ob
    exact ne_of hG ha (by intro z; cases z)
  have hG2 : H2 G = some (.lst (out.map V.int)) := kp _ _ hG1 nGa nG fun _ z => nomatch z
  have npG : G ≠ p := fun z => by
    obtain ⟨ps, e⟩ := np _ (z ▸ hG1)
    cases e
  have nGla' : G ≠ la' := by
    rcases hla with z | z
    · rw [z]; exact nG
    · exact ne_of_none hG1 z
  have hc2 : Handed K H2 c a la' G (l.map V.int) := (hc.same sq).keep kp hla
  have blen := out_len h cl
  have i480 : i ≤ 480 := by omega
  -- given.append(len(answer))
  refine ⟨_, rfl, .inl ⟨rfl, _, SqL.of hG2⟩, _, rfl, p, _, rfl, .inl (SqL.of hp), G, _, _, rfl, rfl, hG2, ?_, ?_⟩
  · rw [List.length_map]
    exact Nat.lt_of_le_of_lt (Nat.le_trans olen (Nat.mul_le_mul_left 64 i480)) (by decide)
  -- given.extend(answer)
  refine ⟨_, rfl, .inl ⟨rfl, _, SqL.of upd_same⟩, _, rfl, G, p, _, _, rfl, rfl, upd_same, (by rw [upd_ne npG.symm]; exact hp), ?_, ?_⟩
  · rw [List.length_append, List.length_map, List.length_map, List.length_singleton]
    exact Nat.le_trans (Nat.add_le_add (Nat.add_le_add (Nat.le_trans olen (Nat.mul_le_mul_left 64 i480)) (Nat.le_refl 1)) blen) (by decide)
  -- place = start + size
  refine ⟨_, rfl, _, rfl, _, _, rfl, rfl, ?_⟩
  have ep : V.int ((st : Int) + (sz : Int)) = nI (st + sz) := congrArg V.int (by omega)
  dsimp only
  rw [ep]
  refine next (some (nI n)) (some (nI st)) (some (nI sz)) (some (.ref p)) _ ⟨⟨la', (Pn13.step h cl).1, cs, out ++ (((Pn13Neutral.out (Pn13.step h cl).2).length : Int) :: Pn13Neutral.out (Pn13.step h cl).2), hR, (HL2.upd_list hG2 nGla').upd_list upd_same nGla', ?_, hc2.upd.upd, ?_, nGla', ?_, ?_⟩, hle⟩
  · exact tabs_upd (tabs_upd T2 hG2 lst_noT lst_noC) upd_same lst_noT lst_noC
  · rw [upd_same, List.map_append, List.length_map, List.map_cons, List.append_assoc]
    rfl
  · rw [List.append_assoc]
    exact hout
  · rw [List.length_append, List.length_cons]
    omega
theorem ok_answers {f fH fA : Addr} {fd fdH fdA : FuncData} {sz : Addr} (F : Fun K "answers" "answers" sAnswers f fd) (TB : TxtB mg) (MH : MkIs P w K mg base 3 "House" CH ["self"] (spHouseI K CA CG CH T) fH fdH) (AO : FnIs P w K mg base 8 "answer_of" ["house", "call", "told"] (spAnsOf K CA CG CH T) fA fdA)
    (gS : mg "SIZES" = some (.ref sz)) (hS : ∀ H : Hp, SqT K H sz sizesL) (N1 : NumC mg "ACT" 1) : FnOk P w K mg base CX0 9 f fd ["calls"] (spAnswers K T) := by
  refine F.ok scAnswers (fun vs H Q E h => ?_) (fun cdv A outer s H vs Q E hr h => ?_)
  · obtain ⟨a, b, c, rfl, _⟩ := h
    rfl
  · obtain ⟨c, l, cs, rfl, hc, hlen, hT, hR, k⟩ := h
    have hr4 : Room 4 _ := hr.mono (by decide)
    refine ⟨_, pss_cons (ps_set (i := 1) scAnswers.nd rfl (Or.inl rfl) (pe_make0 MH.makes MH.ok hr4 rfl MH.gl MH.b .nil pass0))
      (pss_cons (ps_set (i := 2) scAnswers.nd rfl (Or.inl rfl) (pe_lst pa_nil))
      (pss_cons (ps_set (i := 3) scAnswers.nd rfl (Or.inl rfl) pe_int)
      (pss_cons (ps_while PassesOwn.never (pt_cmpR op_lt (pv 3) (pe_callB call_len_seq (by rfl) TB.len PySem.boot_len (pa_cons (pv 0) pa_nil)) (nomark _))
        (pss_cons (ps_set (i := 4) scAnswers.nd rfl (Or.inl rfl) (pe_ix ix_list (pv 0) (pv 3) (fun _ _ => rfl)))
        (pss_cons (ps_set (i := 5) scAnswers.nd rfl (Or.inl rfl) (pe_op op_add (pv 3) pe_int))
        (pss_cons (ps_set (i := 6) scAnswers.nd rfl (Or.inl rfl) (pe_ix ix_tup (pe_glob (v := .ref sz) (by rfl) gS rfl) (pv 4) (fun _ _ => rfl)))
        (pss_cons (ps_if (pt_cmpR op_eq (pv 4) (pe_num (by rfl) N1) (nomark _)) (pss_cons (ps_set (i := 6) scAnswers.nd rfl (Or.inl rfl) (pe_ix ix_list (pv 0) (pv 5) (fun _ _ => rfl))) (pss_one (ps_set (i := 5) scAnswers.nd rfl (Or.inl rfl) (pe_op op_add (pv 5) pe_int)))) pss_nil)
        (pss_cons (ps_set (i := 7) scAnswers.nd rfl (Or.inl rfl) (pe_call AO.ok hr rfl AO.gl AO.kp AO.b .nil pass0 (pa_cons (pv 1) (pa_cons (pv 4) (pa_cons (pe_slice sl_list (pv 0) (po_some (pv 5)) (po_some (pe_op op_add (pv 5) (pv 6)))) pa_nil)))))
        (pss_cons (ps_expr (pe_bm PySem.F.plainAttrs_list PySem.F.slot_list_append PySem.F.type_list_append mt_append (pv 2) (pa_cons (pe_callB call_len_seq (by rfl) TB.len PySem.boot_len (pa_cons (pv 7) pa_nil)) pa_nil)))
        (pss_cons (ps_expr (pe_bm PySem.F.plainAttrs_list PySem.F.slot_list_extend PySem.F.type_list_extend mt_extend (pv 2) (pa_cons (pv 7) pa_nil)))
        (pss_one (ps_set (i := 3) scAnswers.nd rfl (Or.inl rfl) (pe_op op_add (pv 5) (pv 6))))))))))))
      (pss_one (ps_ret (pv 2)))))), ?_⟩
    -- house = House()
    intro a dx na nd ne
    have sI : Same H (upd (upd H dx (.own a)) a (.ins CH dx [])) := (Same.upd nd).trans (Same.upd (by rw [upd_ne ne.symm]; exact na))
    refine ⟨a, dx, rfl, upd_same, hT.ext sI, fun H1 la HL nla T1 kp => ⟨rfl, ?_⟩⟩
    have s1 : Same H H1 := Same.made na nd kp
    have nlaH : H la = none := sI.free nla
    -- given = []; place = 0
    refine ⟨Nat.zero_le _, fun G nG => ?_⟩
    have s2 : Same H1 (upd H1 G (.lst [])) := Same.upd nG
    have nGla : G ≠ la := by
      obtain ⟨d1, g1, as1, _, GL1⟩ := HL.ob
      exact (ne_of_none GL1.lst nG).symm
    have hc0 : Handed K H c a la G (l.map V.int) := by
      rcases hc with hc | hc
      · have e : ∃ o, H c = some o := by
          rcases hc with hc | ⟨o, hc⟩
          · exact ⟨_, hc⟩
          · exact ⟨_, hc⟩
        obtain ⟨o, e⟩ := e
        exact .inl ⟨hc, ne_of_none e na, ne_of_none e nlaH, ne_of_none (s1 _ _ e) nG⟩
      · exact .inr fun _ => .inr hc
    have start : LoopAt K CA CG CH T l (PyFlat.told (played Pn13.init cs)) c a G 0 (upd H1 G (.lst [])) := by
      refine ⟨⟨la, Pn13.init, cs, [], by rw [List.drop_zero]; exact hR, HL.ext (Ext.of s2), T1.ext s2, (hc0.same s1).same s2, upd_same, nGla, rfl, Nat.zero_le _⟩, Nat.zero_le _⟩
    refine while_by (fun σ H' => ∃ (i : Nat) (v4 v5 v6 v7 : Option V), σ = [some (.ref c), some (.ref a), some (.ref G), some (nI i), v4, v5, v6, v7] ∧ LoopAt K CA CG CH T l (PyFlat.told (played Pn13.init cs)) c a G i H') (fun σ _ => l.length - placeOf σ)
      ⟨0, none, none, none, none, rfl, start⟩ (fun σ H2 hP => ?_) (fun σ H Q Q' hQ h => ?_)
    · obtain ⟨i, v4, v5, v6, v7, rfl, ⟨⟨la, h, cs', out, hR', HL', hT', hc', hG', nG', hout, olen⟩, le⟩⟩ := hP
      refine ⟨_, rfl, _, rfl, c, _, rfl, .inl hc'.seq, _, _, rfl, rfl, _, rfl, ?_⟩
      rw [List.length_map]
      by_cases ci : i < l.length
      · refine ifT (decide_eq_true (by omega)) ?_
        generalize hrest : l.drop i = rest at hR'
        cases hR' with
        | nil =>
          have q := congrArg List.length hrest
          rw [List.length_drop, List.length_nil] at q
          omega
        | @cons _ n args cl t cs'' o rd =>
          have hn := o.num
          have ei1 : V.int ((i : Int) + 1) = nI (i + 1) := congrArg V.int (by omega)
          have ei2 : V.int (((i + 1 : Nat) : Int) + 1) = nI (i + 1 + 1) := congrArg V.int (by omega)
          have next : ∀ (st sz : Nat), i < st → ∀ (v4 v5 v6 v7 : Option V) (H' : Hp), LoopAt K CA CG CH T l (PyFlat.told (played Pn13.init cs)) c a G (st + sz) H' → (∃ (i : Nat) (v4' v5' v6' v7' : Option V), [some (V.ref c), some (.ref a), some (.ref G), some (nI (st + sz)), v4, v5, v6, v7] = [some (.ref c), some (.ref a), some (.ref G), some (nI i), v4', v5', v6', v7'] ∧
              LoopAt K CA CG CH T l (PyFlat.told (played Pn13.init cs)) c a G i H') ∧ l.length - placeOf [some (V.ref c), some (.ref a), some (.ref G), some (nI (st + sz)), v4, v5, v6, v7] < l.length - placeOf [some (V.ref c), some (.ref a), some (.ref G), some (nI i), v4, v5, v6, v7] := fun st sz hst v4 v5 v6 v7 H' L => by
            refine ⟨⟨st + sz, v4, v5, v6, v7, rfl, L⟩, ?_⟩
            show l.length - ((st + sz : Nat) : Int).toNat < l.length - (i : Int).toNat
            rw [Int.toNat_natCast, Int.toNat_natCast]
            omega
          by_cases c1 : n = 1
          · subst c1
            obtain ⟨a6, er⟩ := o.row rfl
            rw [er] at hrest
            obtain ⟨g1, d1, l1⟩ := drop_cons hrest
            obtain ⟨g2, d2, l2⟩ := drop_cons d1
            obtain ⟨t1, t2, t3⟩ := drop_app d2 (by omega)
            rw [← t2] at rd
            refine ⟨_, rfl, _, rfl, c, _, _, _, rfl, rfl, hc'.seq, atI_nat (by rw [List.getElem?_map, g1]; rfl), ?_⟩
            refine ⟨_, rfl, _, _, rfl, rfl, ?_⟩
            dsimp only
            rw [ei1]
            refine ⟨_, rfl, sz, _, _, _, rfl, rfl, hS _, sizes_at hn, ?_⟩
            refine ⟨_, rfl, rfl, _, rfl, ?_⟩
            refine ifT rfl ?_
            refine ⟨_, rfl, _, rfl, c, _, _, _, rfl, rfl, hc'.seq, atI_nat (by rw [List.getElem?_map, g2]; rfl), ?_⟩
            refine ⟨_, rfl, _, _, rfl, rfl, ?_⟩
            dsimp only
            rw [ei2]
            exact tail_ok (st := i + 1 + 1) (sz := args.length) o.is t1 t3 (by omega) hlen rd HL' hT' hc' hG' nG' hout olen (next (i + 1 + 1) args.length (by omega))
          · obtain ⟨as, er⟩ := o.plain c1
            rw [er] at hrest
            obtain ⟨g1, d1, l1⟩ := drop_cons hrest
            obtain ⟨t1, t2, t3⟩ := drop_app d1 (by omega)
            rw [as] at t1 t2 t3
            rw [← t2] at rd
            refine ⟨_, rfl, _, rfl, c, _, _, _, rfl, rfl, hc'.seq, atI_nat (by rw [List.getElem?_map, g1]; rfl), ?_⟩
            refine ⟨_, rfl, _, _, rfl, rfl, ?_⟩
            dsimp only
            rw [ei1]
            refine ⟨_, rfl, sz, _, _, _, rfl, rfl, hS _, sizes_at hn, ?_⟩
            refine ⟨_, rfl, rfl, _, rfl, ?_⟩
            have en : decide (V.int (n : Int) = V.int 1) = (n == 1) := eqV_nat n 1
            refine ifF (by rw [en]; exact beq_eq_false_iff_ne.mpr c1) ?_
            exact tail_ok (st := i + 1) (sz := sizeN n) o.is t1 t3 (by omega) hlen rd HL' hT' hc' hG' nG' hout olen (next (i + 1) (sizeN n) (by omega))
      · refine ifF (decide_eq_false (by omega)) ?_
        have ei : i = l.length := by omega
        rw [ei, List.drop_length] at hR'
        cases hR' with
        | nil =>
          rw [show PyFlat.told (played h []) = [] from rfl, List.append_nil] at hout
          rw [hout] at hG'
          exact ⟨_, rfl, k H2 G hG'⟩
        | @cons _ n args cl t cs'' o rd =>
          by_cases c1 : n = 1
          · exact nomatch (o.row c1).2
          · exact nomatch (o.plain c1).2
    · obtain ⟨v, e, v2, e2, p, ys, e3, h3, i, j, e4, e5, kk, e6, q⟩ := h
      exact ⟨v, e, v2, e2, p, ys, e3, h3, i, j, e4, e5, kk, e6, hQ _ _ q⟩
end
end Ao
set_option Elab.async false
set_option maxRecDepth 100000
set_option maxHeartbeats 2000000
namespace Ao
open PySem PySem.Spec PyProof.Rows L2 LamX
section
variable {P : Program} {w : World} {K : PySem.W.Frag} {mg : Str → Option Value} {base : Heap} {CA CG CH : Addr} {T : List (Addr × Str)}
/-! ### counts -/
theorem scCounts : FnScope ["self", "first", "second"] ["self"] (defScope sCounts) := ⟨rfl, rfl, rfl, by decide +kernel, rfl, by decide +kernel, by decide +kernel⟩
theorem ok_counts {f fF fC : Addr} {fd fdF fdC : FuncData} (F : Fun K "counts" "House.counts" sCounts f fd) (TH : TxtH K CH) (TB : TxtB mg) (FB : FnIs P w K mg base 4 "forced_by" ["game", "who"] (spForced K CA CG) fF fdF) (C : FnIs P w K mg base 1 "count_of_states" ["game"] (spCount K CA CG) fC fdC) :
    FnOk P w K mg base CX0 5 f fd ["self"] (sp0 K CA CG CH T .counts) := by
  refine F.ok scCounts (fun vs H Q E h => ?_) (fun cdv A outer s H vs Q E hr h => ?_)
  · obtain ⟨a, b, c, rfl, _⟩ := h
    rfl
  · obtain ⟨a, la, h, rfl, HL, hT, k⟩ := h
    obtain ⟨dx, g, as, ha, GL⟩ := HL.ob
    have G : GameAt K CA CG H g h.task := ⟨la, as, GL⟩
    have hr1 : Room 1 _ := hr.mono (by decide)
    refine ⟨_, pss_cons (ps_set (i := 1) scCounts.nd rfl (Or.inl rfl) (pe_callB call_lenD (by rfl) TB.len PySem.boot_len (pa_cons (pe_call FB.ok hr rfl FB.gl FB.kp FB.b .nil pass0 (pa_cons (pe_fld (pv 0) rfl) (pa_cons pe_int pa_nil))) pa_nil)))
      (pss_cons (ps_set (i := 2) scCounts.nd rfl (Or.inl rfl) (pe_callB call_lenD (by rfl) TB.len PySem.boot_len (pa_cons (pe_call FB.ok hr rfl FB.gl FB.kp FB.b .nil pass0 (pa_cons (pe_fld (pv 0) rfl) (pa_cons pe_int pa_nil))) pa_nil)))
      (pss_one (ps_ret (pe_lst (pa_cons (pv 1) (pa_cons (pv 2) (pa_cons (pe_op op_sub (pe_op op_sub (pe_call C.ok hr1 rfl C.gl C.kp C.b .nil pass0 (pa_cons (pe_fld (pv 0) rfl) pa_nil)) (pv 1)) (pv 2)) pa_nil))))))), ?_⟩
    refine ⟨_, rfl, a, CH, dx, _, _, rfl, ha, TH.cl, TH.nG, houseF_game _ _, g, h.task, 0, rfl, G, fun d1 H1 s1 nd1 hd1 => ⟨d1, _, rfl, hd1, ?_⟩⟩
    have ha1 := s1 _ _ ha
    refine ⟨_, rfl, a, CH, dx, _, _, rfl, ha1, TH.cl, TH.nG, houseF_game _ _, g, h.task, 1, rfl, G.ext (Ext.of s1), fun d2 H2 s2 nd2 hd2 => ⟨d2, _, rfl, hd2, ?_⟩⟩
    have ha2 := s2 _ _ ha1
    rw [dkv_len, dkv_len]
    have le := counts_le h.task
    refine ⟨_, rfl, _, rfl, _, rfl, a, CH, dx, _, _, rfl, ha2, TH.cl, TH.nG, houseF_game _ _, g, h.task, rfl, (G.ext (Ext.of s1)).ext (Ext.of s2), _, rfl, _, _, rfl, rfl, _, rfl, _, _, rfl, rfl, (by show 3 ≤ sizeLine; decide), fun p np => ?_⟩
    have es : Pn13.step h .counts = (h, ⟨(((h.task.forced 1).flatten.length : Nat) : Int), [(h.task.forced 2).flatten.length, total h.task - (h.task.forced 1).flatten.length - (h.task.forced 2).flatten.length]⟩) := rfl
    rw [es] at k
    have s3 := (s1.trans s2).trans (Same.upd (o := .lst [nI (h.task.forced (0 + 1)).flatten.length, nI (h.task.forced (1 + 1)).flatten.length, V.int ((total h.task : Int) - ((h.task.forced (0 + 1)).flatten.length : Int) - ((h.task.forced (1 + 1)).flatten.length : Int))]) np)
    refine k p la _ (HL.ext (Ext.of s3)) (.inl rfl) (hT.ext s3) (Keep.of (Ext.of s3)) (.of ((s1.trans s2).free np)) ?_
    rw [upd_same]
    have e : (total h.task : Int) - ((h.task.forced (0 + 1)).flatten.length : Int) - ((h.task.forced (1 + 1)).flatten.length : Int) = ((total h.task - (h.task.forced 1).flatten.length - (h.task.forced 2).flatten.length : Nat) : Int) := by
      show (total h.task : Int) - ((h.task.forced 1).flatten.length : Int) - ((h.task.forced 2).flatten.length : Int) = _
      omega
    dsimp only
    rw [e]
    rfl
/-! ### line -/
def spLineM (K : PySem.W.Frag) (CA CG CH : Addr) (T : List (Addr × Str)) : Sp := fun vs H Q _ => ∃ (a la : Addr) (h : Pn13.House) (m : Nat), vs = [.ref a, nI m] ∧ HouseL K CA CG CH H a la h ∧ Tabs T H ∧ Ends1 K CA CG CH T a la H (Pn13.step h (.line m)).1 (Pn13Neutral.out (Pn13.step h (.line m)).2) Q
theorem scLineM : FnScope ["self", "most", "moves"] ["self", "most"] (defScope sLineM) := ⟨rfl, rfl, rfl, by decide +kernel, rfl, by decide +kernel, by decide +kernel⟩
theorem line_short (t : Pn13.Task) (a b : List (List Pn13.State)) : ∀ (n : Nat) (u : Pn13.State), (t.line a b n u).length ≤ n
  | 0, _ => Nat.le_refl _
  | n + 1, u => by
    unfold Pn13.Task.line
    cases t.best a b u with
    | none => exact Nat.zero_le _
    | some k => exact Nat.succ_le_succ (line_short t a b n _)
theorem ok_lineM {f fL : Addr} {fd fdL : FuncData} (F : Fun K "line" "House.line" sLineM f fd) (TH : TxtH K CH) (TB : TxtB mg) (NW : NumC mg "WRONG" (-1)) (NL : NumC mg "MOST_OF_LINE" 40) (L : FnIs P w K mg base 6 "best_line" ["game", "state", "most"] (spLine K CA CG T) fL fdL) :
    FnOk P w K mg base CX0 7 f fd ["self", "most"] (spLineM K CA CG CH T) := by
  refine F.ok scLineM (fun vs H Q E h => ?_) (fun cdv A outer s H vs Q E hr h => ?_)
  · obtain ⟨a, b, c, d, rfl, _⟩ := h
    rfl
  · obtain ⟨a, la, h, m, rfl, HL, hT, k⟩ := h
    obtain ⟨dx, g, as, ha, GL⟩ := HL.ob
    have G : GameAt K CA CG H g h.task := ⟨la, as, GL⟩
    have ed := dec_enc HL.turn
    refine ⟨_, pss_cons (ps_if (pt_cmpR op_gt (pv 1) (pe_num (by rfl) NL) (nomark _)) (pss_one (ps_ret (pe_lst (pa_cons (pe_num (by rfl) NW) pa_nil)))) pss_nil)
      (pss_cons (ps_set (i := 2) scLineM.nd rfl (Or.inl rfl) (pe_call L.ok hr rfl L.gl L.kp L.b .nil pass0 (pa_cons (pe_fld (pv 0) rfl) (pa_cons (pe_fld (pv 0) rfl) (pa_cons (pv 1) pa_nil)))))
      (pss_one (ps_ret (pe_op op_cat (pe_lst (pa_cons (pe_callB call_len_seq (by rfl) TB.len PySem.boot_len (pa_cons (pv 2) pa_nil)) pa_nil)) (pv 2))))), ?_⟩
    have es : Pn13.step h (.line m) = if 40 < m then (h, Pn13.ok (-1)) else (h, ⟨(((lineOf h.task m h.now).length : Nat) : Int), lineOf h.task m h.now⟩) := rfl
    refine ⟨_, rfl, _, _, rfl, rfl, _, rfl, ?_⟩
    by_cases c : 40 < m
    · rw [es, if_pos c] at k
      refine ifT (decide_eq_true (by omega)) ⟨(by show 1 ≤ sizeLine; decide), fun p np => ?_⟩
      exact k p la _ (HL.ext (Ext.of (Same.upd np))) (.inl rfl) (hT.ext (Same.upd np)) (Keep.of (Ext.of (Same.upd np))) (.of np) upd_same
    · rw [es, if_neg c] at k
      refine ifF (decide_eq_false (by omega)) ?_
      refine ⟨_, rfl, a, CH, dx, _, _, rfl, ha, TH.cl, TH.nG, houseF_game _ _, _, rfl, a, CH, dx, _, _, rfl, ha, TH.cl, TH.nS, houseF_state _ _, _, rfl, g, h.task, enc h.now, m, rfl, G, hT, by omega, fun pl H1 e1 T1 npl hpl => ?_⟩
      rw [ed] at hpl
      have short := line_short h.task (h.task.forced 1) (h.task.forced 2) m h.now
      refine ⟨_, rfl, pl, _, rfl, .inl (SqL.of hpl), (by show 1 ≤ sizeLine; decide), fun q nq => ?_⟩
      have hpl2 := (Same.upd (o := .lst [V.int (((lineOf h.task m h.now).map nI).length : Int)]) nq) _ _ hpl
      refine ⟨_, rfl, q, pl, _, _, rfl, rfl, upd_same, hpl2, ?_, fun p np => ?_⟩
      · rw [List.length_singleton, List.length_map]
        exact Nat.le_trans (show 1 + (lineOf h.task m h.now).length ≤ 41 by unfold lineOf; omega) (by decide)
      have e2 : Ext H (upd (upd H1 q (.lst [V.int (((lineOf h.task m h.now).map nI).length : Int)])) p (.lst ([V.int (((lineOf h.task m h.now).map nI).length : Int)] ++ (lineOf h.task m h.now).map nI))) := e1.trans (Ext.of ((Same.upd nq).trans (Same.upd np)))
      refine k p la _ (HL.ext e2) (.inl rfl) (T1.ext ((Same.upd nq).trans (Same.upd np))) (Keep.of e2) (.ext (e1.trans (Ext.of (Same.upd nq))) np) ?_
      rw [upd_same, List.length_map]
      unfold Pn13Neutral.out
      rw [List.map_cons, List.map_map]
      rfl
/-! ### make -/
/-- what a move on the house ends in -/
def spMake (K : PySem.W.Frag) (CA CG CH : Addr) (T : List (Addr × Str)) : Sp := fun vs H Q _ => ∃ (a la : Addr) (h : Pn13.House) (m : Nat), vs = [.ref a, nI m] ∧ HouseL K CA CG CH H a la h ∧ Tabs T H ∧ m ≤ h.task.acts.length ∧
  ∀ (p : Addr) (H' : Hp), HouseL K CA CG CH H' a la { h with now := h.task.move h.now m } → Tabs T H' → Keep a la H H' → H p = none → H' p = some (.lst [nI (h.task.won (h.task.move h.now m)), nI (h.task.move h.now m).s, nI (h.task.move h.now m).turn]) → Q (.ref p) H'
theorem scMake : FnScope ["self", "number"] ["self", "number"] (defScope sMake) := ⟨rfl, rfl, rfl, by decide +kernel, rfl, by decide +kernel, by decide +kernel⟩
theorem ok_make {f fB fW : Addr} {fd fdB fdW : FuncData} (F : Fun K "make" "House.make" sMake f fd) (TH : TxtH K CH) (nG : CG ≠ CH) (nA : CA ≠ CH) (B : FnIs P w K mg base 2 "state_behind" ["game", "state", "move"] (spBehind K CA CG) fB fdB) (W : FnIs P w K mg base 1 "winner" ["game", "state"] (spWinner K CA CG) fW fdW) :
    FnOk P w K mg base CX0 3 f fd ["self", "number"] (spMake K CA CG CH T) := by
  refine F.ok scMake (fun vs H Q E h => ?_) (fun cdv A outer s H vs Q E hr h => ?_)
  · obtain ⟨a, b, c, d, rfl, _⟩ := h
    rfl
  · obtain ⟨a, la, h, m, rfl, HL, hT, hm, k⟩ := h
    obtain ⟨dx, g, as, ha, GL⟩ := HL.ob
    have G : GameAt K CA CG H g h.task := ⟨la, as, GL⟩
    have hr1 : Room 1 _ := hr.mono (by decide)
    have ed := dec_enc HL.turn
    refine ⟨_, pss_cons (ps_fld (pv 0) (pe_call B.ok hr rfl B.gl B.kp B.b .nil pass0 (pa_cons (pe_fld (pv 0) rfl) (pa_cons (pe_fld (pv 0) rfl) (pa_cons (pv 1) pa_nil)))) rfl)
      (pss_one (ps_ret (pe_lst (pa_cons (pe_call W.ok hr1 rfl W.gl W.kp W.b .nil pass0 (pa_cons (pe_fld (pv 0) rfl) (pa_cons (pe_fld (pv 0) rfl) pa_nil))) (pa_cons (pe_op op_fdiv (pe_fld (pv 0) rfl) pe_int) (pa_cons (pe_op op_mod (pe_fld (pv 0) rfl) pe_int) pa_nil)))))), ?_⟩
    generalize hu : h.task.move h.now m = u at k
    have tu : u.turn ≤ 1 := by rw [← hu]; exact move_turn _ _ _
    refine ⟨_, rfl, a, CH, dx, _, _, rfl, ha, TH.cl, TH.nG, houseF_game _ _, _, rfl, a, CH, dx, _, _, rfl, ha, TH.cl, TH.nS, houseF_state _ _, _, rfl, g, h.task, enc h.now, m, rfl, G, hm, ?_⟩
    rw [ed, hu]
    refine ⟨_, rfl, a, CH, dx, _, rfl, ha, TH.cl, TH.nS, (by show 2 < 1000; decide), ?_⟩
    rw [houseF_state']
    have GL' := GL.upd_house (o := .ins CH dx (houseF g (enc u))) ha nG nA
    refine ⟨_, rfl, a, CH, dx, _, _, rfl, upd_same, TH.cl, TH.nG, houseF_game _ _, _, rfl, a, CH, dx, _, _, rfl, upd_same, TH.cl, TH.nS, houseF_state _ _, g, h.task, enc u, rfl, ⟨la, as, GL'⟩, ?_⟩
    refine ⟨_, rfl, a, CH, dx, _, _, rfl, upd_same, TH.cl, TH.nS, houseF_state _ _, _, _, rfl, rfl, ⟨by decide, by decide⟩, ?_⟩
    refine ⟨_, rfl, a, CH, dx, _, _, rfl, upd_same, TH.cl, TH.nS, houseF_state _ _, _, _, rfl, rfl, (by show (0 : Int) < 2; decide), (by show 3 ≤ sizeLine; decide), fun p np => ?_⟩
    dsimp only
    rw [half, odd, dec_enc tu]
    have nap : a ≠ p := ne_of_none upd_same np
    have npH : H p = none := by rw [upd_ne nap.symm] at np; exact np
    refine k p _ ⟨⟨dx, g, as, by rw [upd_ne nap]; exact upd_same, GL'.ext (Ext.of (Same.upd np))⟩, tu⟩ ?_ (fun b o e n1 n2 n3 => ?_) npH upd_same
    · exact Tabs.ext (tabs_upd hT ha ins_noT ins_noC) (Same.upd np)
    · rw [upd_ne (ne_of_none e npH), upd_ne n1]
      exact e
/-! ### move -/
def spMoveM (K : PySem.W.Frag) (CA CG CH : Addr) (T : List (Addr × Str)) : Sp := fun vs H Q _ => ∃ (a la : Addr) (h : Pn13.House) (m : Nat), vs = [.ref a, nI m] ∧ HouseL K CA CG CH H a la h ∧ Tabs T H ∧ Ends1 K CA CG CH T a la H (Pn13.step h (.move m)).1 (Pn13Neutral.out (Pn13.step h (.move m)).2) Q
theorem scMoveM : FnScope ["self", "number"] ["self", "number"] (defScope sMoveM) := ⟨rfl, rfl, rfl, by decide +kernel, rfl, by decide +kernel, by decide +kernel⟩
theorem inV_nat (m : Nat) : ∀ ns : List Nat, inV (nI m) (ns.map nI) = ns.contains m
  | [] => rfl
  | a :: ns => by
    have ih := inV_nat m ns
    unfold inV at ih ⊢
    rw [List.map_cons, List.any_cons, ih, List.contains_cons]
    congr 1
    show ((a : Int) == (m : Int)) = (m == a)
    by_cases c : a = m
    · rw [c, beq_self_eq_true, beq_self_eq_true]
    · rw [beq_eq_false_iff_ne.mpr (show (a : Int) ≠ (m : Int) by omega), beq_eq_false_iff_ne.mpr (show m ≠ a from fun z => c z.symm)]
theorem flat_nat : ∀ ns : List Nat, (ns.map nI).all flatV = true
  | [] => rfl
  | a :: ns => by
    rw [List.map_cons, List.all_cons, flat_nat ns]
    rfl
theorem Keep.same {a la : Addr} {H H1 H2 : Hp} (s : Ext H H1) (k : Keep a la H1 H2) : Keep a la H H2 := fun b o e n1 n2 n3 => k b o (s b o e n3) n1 n2 n3
theorem ok_moveM {f fM fK : Addr} {fd fdM fdK : FuncData} (F : Fun K "move" "House.move" sMoveM f fd) (TH : TxtH K CH) (N5 : NumC mg "NO_MOVE" (-5)) (M : FnIs P w K mg base 2 "moves_in" ["game", "state"] (spMoves K CA CG) fM fdM) (m_make : Meth K CH "make" fK) (b_make : Binds K fdK ["self", "number"] []) (KM : FnOk P w K mg base CX0 3 fK fdK ["self", "number"] (spMake K CA CG CH T)) :
    FnOk P w K mg base CX0 4 f fd ["self", "number"] (spMoveM K CA CG CH T) := by
  refine F.ok scMoveM (fun vs H Q E h => ?_) (fun cdv A outer s H vs Q E hr h => ?_)
  · obtain ⟨a, b, c, d, rfl, _⟩ := h
    rfl
  · obtain ⟨a, la, h, m, rfl, HL, hT, k⟩ := h
    obtain ⟨dx, g, as, ha, GL⟩ := HL.ob
    have G : GameAt K CA CG H g h.task := ⟨la, as, GL⟩
    have hr2 : Room 2 _ := hr.mono (by decide)
    have ed := dec_enc HL.turn
    refine ⟨_, pss_cons (ps_if (pt_cmpR op_notIn_seq (pv 1) (pe_call M.ok hr2 rfl M.gl M.kp M.b .nil pass0 (pa_cons (pe_fld (pv 0) rfl) (pa_cons (pe_fld (pv 0) rfl) pa_nil))) (by rfl)) (pss_one (ps_ret (pe_lst (pa_cons (pe_num (by rfl) N5) pa_nil)))) pss_nil)
      (pss_one (ps_ret (pe_meth (pv 0) TH.cl m_make KM hr b_make .nil pass0 (pa_cons (pv 1) pa_nil)))), ?_⟩
    refine ⟨_, rfl, _, rfl, a, CH, dx, _, _, rfl, ha, TH.cl, TH.nG, houseF_game _ _, _, rfl, a, CH, dx, _, _, rfl, ha, TH.cl, TH.nS, houseF_state _ _, g, h.task, enc h.now, rfl, G, fun pm H1 s1 npm hpm => ?_⟩
    rw [ed] at hpm
    refine ⟨pm, _, rfl, .inl (SqL.of hpm), rfl, flat_nat _, _, rfl, ?_⟩
    rw [if_pos rfl, inV_nat]
    have es : Pn13.step h (.move m) = if (h.task.moves h.now).contains m = false then (h, Pn13.ok (-5)) else ({ h with now := h.task.move h.now m }, ⟨(h.task.won (h.task.move h.now m) : Nat), [(h.task.move h.now m).s, (h.task.move h.now m).turn]⟩) := rfl
    rw [es] at k
    cases c : (h.task.moves h.now).contains m with
    | false =>
      rw [c, if_pos rfl] at k
      refine ifT rfl ⟨(by show 1 ≤ sizeLine; decide), fun p np => ?_⟩
      have s2 : Same H (upd H1 p (.lst [.int (-5)])) := s1.trans (Same.upd np)
      exact k p la _ (HL.ext (Ext.of s2)) (.inl rfl) (hT.ext s2) (Keep.of (Ext.of s2)) (.of (s1.free np)) upd_same
    | true =>
      rw [c, if_neg (by decide)] at k
      have hm : m ∈ h.task.moves h.now := by simpa using c
      refine ifF rfl ⟨_, rfl, a, dx, _, rfl, s1 _ _ ha, houseF_no _ _ (by decide +kernel) (by decide +kernel), _, rfl, a, la, h, m, rfl, HL.ext (Ext.of s1), hT.ext s1, moves_le hm, fun p H2 HL2 T2 kp np hp => ?_⟩
      exact k p la _ HL2 (.inl rfl) T2 (Keep.same (Ext.of s1) kp) (.of (s1.free np)) hp
/-! ### answer -/
theorem scAnswerM : FnScope ["self", "number"] ["self"] (defScope sAnswerM) := ⟨rfl, rfl, rfl, by decide +kernel, rfl, by decide +kernel, by decide +kernel⟩
theorem ok_answerM {f fM fB fK : Addr} {fd fdM fdB fdK : FuncData} (F : Fun K "answer" "House.answer" sAnswerM f fd) (TH : TxtH K CH) (TB : TxtB mg) (N5 : NumC mg "NO_MOVE" (-5)) (M : FnIs P w K mg base 2 "moves_in" ["game", "state"] (spMoves K CA CG) fM fdM)
    (m_now : Meth K CH "best_now" fB) (b_now : Binds K fdB ["self"] []) (B : FnOk P w K mg base CX0 6 fB fdB ["self"] (spNow K CA CG CH T))
    (m_make : Meth K CH "make" fK) (b_make : Binds K fdK ["self", "number"] []) (KM : FnOk P w K mg base CX0 3 fK fdK ["self", "number"] (spMake K CA CG CH T)) :
    FnOk P w K mg base CX0 7 f fd ["self"] (sp0 K CA CG CH T .answer) := by
  refine F.ok scAnswerM (fun vs H Q E h => ?_) (fun cdv A outer s H vs Q E hr h => ?_)
  · obtain ⟨a, b, c, rfl, _⟩ := h
    rfl
  · obtain ⟨a, la, h, rfl, HL, hT, k⟩ := h
    obtain ⟨dx, g, as, ha, GL⟩ := HL.ob
    have G : GameAt K CA CG H g h.task := ⟨la, as, GL⟩
    have hr2 : Room 2 _ := hr.mono (by decide)
    have hr3 : Room 3 _ := hr.mono (by decide)
    have ed := dec_enc HL.turn
    refine ⟨_, pss_cons (ps_if (pt_cmpR op_eq (pe_callB call_len_seq (by rfl) TB.len PySem.boot_len (pa_cons (pe_call M.ok hr2 rfl M.gl M.kp M.b .nil pass0 (pa_cons (pe_fld (pv 0) rfl) (pa_cons (pe_fld (pv 0) rfl) pa_nil))) pa_nil)) pe_int (nomark _)) (pss_one (ps_ret (pe_lst (pa_cons (pe_num (by rfl) N5) pa_nil)))) pss_nil)
      (pss_cons (ps_set (i := 1) scAnswerM.nd rfl (Or.inl rfl) (pe_meth0 (pv 0) TH.cl m_now B hr b_now .nil pass0))
      (pss_one (ps_ret (pe_op op_cat (pe_lst (pa_cons (pv 1) pa_nil)) (pe_meth (pv 0) TH.cl m_make KM hr3 b_make .nil pass0 (pa_cons (pv 1) pa_nil)))))), ?_⟩
    refine ⟨_, rfl, a, CH, dx, _, _, rfl, ha, TH.cl, TH.nG, houseF_game _ _, _, rfl, a, CH, dx, _, _, rfl, ha, TH.cl, TH.nS, houseF_state _ _, g, h.task, enc h.now, rfl, G, fun pm H1 s1 npm hpm => ?_⟩
    rw [ed] at hpm
    have ha1 := s1 _ _ ha
    refine ⟨pm, _, rfl, .inl (SqL.of hpm), rfl, _, rfl, ?_⟩
    rw [List.length_map]
    have e0 : decide (V.int (((h.task.moves h.now).length : Nat) : Int) = V.int 0) = ((h.task.moves h.now).length == 0) := eqV_nat _ 0
    have es : Pn13.step h .answer = match h.task.best (h.task.forced 1) (h.task.forced 2) h.now with
      | none => (h, Pn13.ok (-5))
      | some k => ({ h with now := h.task.move h.now k }, ⟨(k : Nat), [h.task.won (h.task.move h.now k), (h.task.move h.now k).s, (h.task.move h.now k).turn]⟩) := rfl
    rw [es] at k
    cases hb : h.task.best (h.task.forced 1) (h.task.forced 2) h.now with
    | none =>
      rw [hb] at k
      have em := (best_none _ _ _ _).mp hb
      refine ifT (by rw [e0, em]; rfl) ⟨(by show 1 ≤ sizeLine; decide), fun p np => ?_⟩
      have s2 : Same H (upd H1 p (.lst [.int (-5)])) := s1.trans (Same.upd np)
      exact k p la _ (HL.ext (Ext.of s2)) (.inl rfl) (hT.ext s2) (Keep.of (Ext.of s2)) (.of (s1.free np)) upd_same
    | some m =>
      rw [hb] at k
      have hm := best_mem hb
      refine ifF (by rw [e0]; exact beq_eq_false_iff_ne.mpr (Nat.pos_iff_ne_zero.mp (List.length_pos_of_mem hm))) ?_
      refine ⟨_, rfl, a, dx, _, rfl, ha1, houseF_no _ _ (by decide +kernel) (by decide +kernel), a, la, h, m, rfl, HL.ext (Ext.of s1), hT.ext s1, hb, fun H2 e2 T2 => ?_⟩
      have eA : Ext H H2 := (Ext.of s1).trans e2
      have HL2 := HL.ext eA
      have ha2 : H2 a = some (.ins CH dx (houseF g (enc h.now))) := eA _ _ ha fun ps z => nomatch z
      have hla2 : H2 la = some (.lst (as.map V.ref)) := eA _ _ GL.lst fun ps z => nomatch z
      -- [number] + self.make(number)
      refine ⟨_, rfl, (by show 1 ≤ sizeLine; decide), fun q nq => ?_⟩
      have sq : Same H2 (upd H2 q (.lst [nI m])) := Same.upd nq
      have nqa : q ≠ a := (ne_of_none ha2 nq).symm
      have nql : q ≠ la := (ne_of_none hla2 nq).symm
      refine ⟨_, rfl, a, dx, _, rfl, sq _ _ ha2, houseF_no _ _ (by decide +kernel) (by decide +kernel), _, rfl, a, la, h, m, rfl, HL2.ext (Ext.of sq), T2.ext sq, moves_le hm, fun r H3 HL3 T3 kp nr hr' => ?_⟩
      have hq3 : H3 q = some (.lst [nI m]) := kp _ _ upd_same nqa nql fun _ z => nomatch z
      refine ⟨q, r, _, _, rfl, rfl, hq3, hr', (by show 4 ≤ sizeLine; decide), fun p np => ?_⟩
      have kA : Keep a la H H3 := Keep.same (eA.trans (Ext.of sq)) kp
      have s4 : Same H3 (upd H3 p (.lst ([nI m] ++ [nI (h.task.won (h.task.move h.now m)), nI (h.task.move h.now m).s, nI (h.task.move h.now m).turn]))) := Same.upd np
      refine k p la _ (HL3.ext (Ext.of s4)) (.inl rfl) (T3.ext s4) (fun b o e n1 n2 n3 => s4 _ _ (kA b o e n1 n2 n3)) ?_ upd_same
      intro o e
      by_cases t : ∃ ps, o = .tbl ps
      · exact t
      · have n1 : p ≠ a := fun z => by
          obtain ⟨d3, g3, as3, h3, _⟩ := HL3.ob
          rw [z, h3] at np; cases np
        have n2 : p ≠ la := fun z => by
          obtain ⟨d3, g3, as3, _, GL3⟩ := HL3.ob
          rw [z, GL3.lst] at np; cases np
        rw [kA p o e n1 n2 fun ps z => t ⟨ps, z⟩] at np
        cases np
end
end Ao
set_option Elab.async false
set_option maxRecDepth 100000
set_option maxHeartbeats 2000000
namespace Ao
open PySem PySem.Spec PyProof.Rows L2 LamX
abbrev sAnsOf : Stmt := top 36
/-- a method with its promise -/
structure MethIs (P : Program) (w : World) (K : PySem.W.Frag) (mg : Str → Option Value) (base : Heap) (k : Nat) (C : Addr) (x : Str) (ps : List Str) (sp : Sp) (f : Addr) (fd : FuncData) : Prop where
  m : Meth K C x f
  b : Binds K fd ps []
  ok : FnOk P w K mg base CX0 k f fd ps sp
section
variable {P : Program} {w : World} {K : PySem.W.Frag} {mg : Str → Option Value} {base : Heap} {CA CG CH : Addr} {T : List (Addr × Str)}
theorem scAnsOf : FnScope ["house", "call", "told"] ["house", "call", "told"] (defScope sAnsOf) := ⟨rfl, rfl, rfl, by decide +kernel, rfl, by decide +kernel, by decide +kernel⟩
theorem ok_ansOf {f fBg fAc fAtt fVa fBe fLi fMo fAn fCo : Addr} {fd dBg dAc dAtt dVa dBe dLi dMo dAn dCo : FuncData} (F : Fun K "answer_of" "answer_of" sAnsOf f fd) (TH : TxtH K CH)
    (N0 : NumC mg "BEGINS" 0)
    (Bg : MethIs P w K mg base 3 CH "begins" nBegins (spBegins K CA CG CH T) fBg dBg)
    (N1 : NumC mg "ACT" 1)
    (Ac : MethIs P w K mg base 3 CH "act" ["self", "told"] (spAct K CA CG CH T) fAc dAc)
    (N2 : NumC mg "AT" 2)
    (Att : MethIs P w K mg base 2 CH "at" ["self", "so", "turn"] (spAt K CA CG CH T) fAtt dAtt)
    (N3 : NumC mg "VALUE" 3)
    (Va : MethIs P w K mg base 5 CH "value" ["self"] (sp0 K CA CG CH T .value) fVa dVa)
    (N4 : NumC mg "BEST" 4)
    (Be : MethIs P w K mg base 7 CH "best" ["self"] (sp0 K CA CG CH T .best) fBe dBe)
    (N5 : NumC mg "LINE" 5)
    (Li : MethIs P w K mg base 7 CH "line" ["self", "most"] (spLineM K CA CG CH T) fLi dLi)
    (N6 : NumC mg "MOVE" 6)
    (Mo : MethIs P w K mg base 4 CH "move" ["self", "number"] (spMoveM K CA CG CH T) fMo dMo)
    (N7 : NumC mg "ANSWER" 7)
    (An : MethIs P w K mg base 7 CH "answer" ["self"] (sp0 K CA CG CH T .answer) fAn dAn)
    (Co : MethIs P w K mg base 5 CH "counts" ["self"] (sp0 K CA CG CH T .counts) fCo dCo) :
    FnOk P w K mg base CX0 8 f fd ["house", "call", "told"] (spAnsOf K CA CG CH T) := by
  refine F.ok scAnsOf (fun vs H Q E h => ?_) (fun cdv A outer s H vs Q E hr h => ?_)
  · obtain ⟨a, b, c, d, e, g, i, rfl, _⟩ := h
    rfl
  · obtain ⟨a, la, l, h, n, args, cl, rfl, HL, hT, hl, len, hcl, k⟩ := h
    obtain ⟨dx, g, as, ha, GL⟩ := HL.ob
    have hr2 : Room 2 _ := hr.mono (by decide)
    have hr3 : Room 3 _ := hr.mono (by decide)
    have hr4 : Room 4 _ := hr.mono (by decide)
    have hr5 : Room 5 _ := hr.mono (by decide)
    refine ⟨_, pss_cons (ps_if (pt_cmpR op_eq (pv 1) (pe_num (by rfl) N0) (nomark _)) (pss_one (ps_ret (pe_meth (pv 0) TH.cl Bg.m Bg.ok hr3 Bg.b .nil pass0 (pa_cons (pe_ix ix_list (pv 2) pe_int (fun _ _ => rfl)) (pa_cons (pe_ix ix_list (pv 2) pe_int (fun _ _ => rfl)) (pa_cons (pe_ix ix_list (pv 2) pe_int (fun _ _ => rfl)) (pa_cons (pe_ix ix_list (pv 2) pe_int (fun _ _ => rfl)) (pa_cons (pe_ix ix_list (pv 2) pe_int (fun _ _ => rfl)) pa_nil)))))))) pss_nil)
      (pss_cons (ps_if (pt_cmpR op_eq (pv 1) (pe_num (by rfl) N1) (nomark _)) (pss_one (ps_ret (pe_meth (pv 0) TH.cl Ac.m Ac.ok hr3 Ac.b .nil pass0 (pa_cons (pv 2) pa_nil)))) pss_nil)
      (pss_cons (ps_if (pt_cmpR op_eq (pv 1) (pe_num (by rfl) N2) (nomark _)) (pss_one (ps_ret (pe_meth (pv 0) TH.cl Att.m Att.ok hr2 Att.b .nil pass0 (pa_cons (pe_ix ix_list (pv 2) pe_int (fun _ _ => rfl)) (pa_cons (pe_ix ix_list (pv 2) pe_int (fun _ _ => rfl)) pa_nil))))) pss_nil)
      (pss_cons (ps_if (pt_cmpR op_eq (pv 1) (pe_num (by rfl) N3) (nomark _)) (pss_one (ps_ret (pe_meth0 (pv 0) TH.cl Va.m Va.ok hr5 Va.b .nil pass0))) pss_nil)
      (pss_cons (ps_if (pt_cmpR op_eq (pv 1) (pe_num (by rfl) N4) (nomark _)) (pss_one (ps_ret (pe_meth0 (pv 0) TH.cl Be.m Be.ok hr Be.b .nil pass0))) pss_nil)
      (pss_cons (ps_if (pt_cmpR op_eq (pv 1) (pe_num (by rfl) N5) (nomark _)) (pss_one (ps_ret (pe_meth (pv 0) TH.cl Li.m Li.ok hr Li.b .nil pass0 (pa_cons (pe_ix ix_list (pv 2) pe_int (fun _ _ => rfl)) pa_nil)))) pss_nil)
      (pss_cons (ps_if (pt_cmpR op_eq (pv 1) (pe_num (by rfl) N6) (nomark _)) (pss_one (ps_ret (pe_meth (pv 0) TH.cl Mo.m Mo.ok hr4 Mo.b .nil pass0 (pa_cons (pe_ix ix_list (pv 2) pe_int (fun _ _ => rfl)) pa_nil)))) pss_nil)
      (pss_cons (ps_if (pt_cmpR op_eq (pv 1) (pe_num (by rfl) N7) (nomark _)) (pss_one (ps_ret (pe_meth0 (pv 0) TH.cl An.m An.ok hr An.b .nil pass0))) pss_nil)
      (pss_one (ps_ret (pe_meth0 (pv 0) TH.cl Co.m Co.ok hr5 Co.b .nil pass0)))))))))), ?_⟩
    unfold callN at hcl
    split at hcl
    · cases hcl
      rename_i x0 x1 x2 x3 x4
      refine ⟨_, rfl, rfl, _, rfl, ifT rfl ?_⟩
      exact ⟨_, rfl, a, dx, _, rfl, ha, houseF_no _ _ (by decide +kernel) (by decide +kernel), _, rfl, l, _, _, _, rfl, rfl, hl, atI_nat (j := 0) rfl, _, rfl, l, _, _, _, rfl, rfl, hl, atI_nat (j := 1) rfl, _, rfl, l, _, _, _, rfl, rfl, hl, atI_nat (j := 2) rfl, _, rfl, l, _, _, _, rfl, rfl, hl, atI_nat (j := 3) rfl, _, rfl, l, _, _, _, rfl, rfl, hl, atI_nat (j := 4) rfl, a, la, h, x0, x1, x2, x3, x4, rfl, HL, hT, k⟩
    · cases hcl
      refine ⟨_, rfl, rfl, _, rfl, ifF rfl ?_⟩
      refine ⟨_, rfl, rfl, _, rfl, ifT rfl ?_⟩
      exact ⟨_, rfl, a, dx, _, rfl, ha, houseF_no _ _ (by decide +kernel) (by decide +kernel), _, rfl, a, la, l, h, args, rfl, HL, hT, hl, len, k⟩
    · cases hcl
      rename_i x0 x1
      refine ⟨_, rfl, rfl, _, rfl, ifF rfl ?_⟩
      refine ⟨_, rfl, rfl, _, rfl, ifF rfl ?_⟩
      refine ⟨_, rfl, rfl, _, rfl, ifT rfl ?_⟩
      exact ⟨_, rfl, a, dx, _, rfl, ha, houseF_no _ _ (by decide +kernel) (by decide +kernel), _, rfl, l, _, _, _, rfl, rfl, hl, atI_nat (j := 0) rfl, _, rfl, l, _, _, _, rfl, rfl, hl, atI_nat (j := 1) rfl, a, la, h, x0, x1, rfl, HL, hT, k⟩
    · cases hcl
      refine ⟨_, rfl, rfl, _, rfl, ifF rfl ?_⟩
      refine ⟨_, rfl, rfl, _, rfl, ifF rfl ?_⟩
      refine ⟨_, rfl, rfl, _, rfl, ifF rfl ?_⟩
      refine ⟨_, rfl, rfl, _, rfl, ifT rfl ?_⟩
      exact ⟨_, rfl, a, dx, _, rfl, ha, houseF_no _ _ (by decide +kernel) (by decide +kernel), a, la, h, rfl, HL, hT, k⟩
    · cases hcl
      refine ⟨_, rfl, rfl, _, rfl, ifF rfl ?_⟩
      refine ⟨_, rfl, rfl, _, rfl, ifF rfl ?_⟩
      refine ⟨_, rfl, rfl, _, rfl, ifF rfl ?_⟩
      refine ⟨_, rfl, rfl, _, rfl, ifF rfl ?_⟩
      refine ⟨_, rfl, rfl, _, rfl, ifT rfl ?_⟩
      exact ⟨_, rfl, a, dx, _, rfl, ha, houseF_no _ _ (by decide +kernel) (by decide +kernel), a, la, h, rfl, HL, hT, k⟩
    · cases hcl
      rename_i x0
      refine ⟨_, rfl, rfl, _, rfl, ifF rfl ?_⟩
      refine ⟨_, rfl, rfl, _, rfl, ifF rfl ?_⟩
      refine ⟨_, rfl, rfl, _, rfl, ifF rfl ?_⟩
      refine ⟨_, rfl, rfl, _, rfl, ifF rfl ?_⟩
      refine ⟨_, rfl, rfl, _, rfl, ifF rfl ?_⟩
      refine ⟨_, rfl, rfl, _, rfl, ifT rfl ?_⟩
      exact ⟨_, rfl, a, dx, _, rfl, ha, houseF_no _ _ (by decide +kernel) (by decide +kernel), _, rfl, l, _, _, _, rfl, rfl, hl, atI_nat (j := 0) rfl, a, la, h, x0, rfl, HL, hT, k⟩
    · cases hcl
      rename_i x0
      refine ⟨_, rfl, rfl, _, rfl, ifF rfl ?_⟩
      refine ⟨_, rfl, rfl, _, rfl, ifF rfl ?_⟩
      refine ⟨_, rfl, rfl, _, rfl, ifF rfl ?_⟩
      refine ⟨_, rfl, rfl, _, rfl, ifF rfl ?_⟩
      refine ⟨_, rfl, rfl, _, rfl, ifF rfl ?_⟩
      refine ⟨_, rfl, rfl, _, rfl, ifF rfl ?_⟩
      refine ⟨_, rfl, rfl, _, rfl, ifT rfl ?_⟩
      exact ⟨_, rfl, a, dx, _, rfl, ha, houseF_no _ _ (by decide +kernel) (by decide +kernel), _, rfl, l, _, _, _, rfl, rfl, hl, atI_nat (j := 0) rfl, a, la, h, x0, rfl, HL, hT, k⟩
    · cases hcl
      refine ⟨_, rfl, rfl, _, rfl, ifF rfl ?_⟩
      refine ⟨_, rfl, rfl, _, rfl, ifF rfl ?_⟩
      refine ⟨_, rfl, rfl, _, rfl, ifF rfl ?_⟩
      refine ⟨_, rfl, rfl, _, rfl, ifF rfl ?_⟩
      refine ⟨_, rfl, rfl, _, rfl, ifF rfl ?_⟩
      refine ⟨_, rfl, rfl, _, rfl, ifF rfl ?_⟩
      refine ⟨_, rfl, rfl, _, rfl, ifF rfl ?_⟩
      refine ⟨_, rfl, rfl, _, rfl, ifT rfl ?_⟩
      exact ⟨_, rfl, a, dx, _, rfl, ha, houseF_no _ _ (by decide +kernel) (by decide +kernel), a, la, h, rfl, HL, hT, k⟩
    · cases hcl
      refine ⟨_, rfl, rfl, _, rfl, ifF rfl ?_⟩
      refine ⟨_, rfl, rfl, _, rfl, ifF rfl ?_⟩
      refine ⟨_, rfl, rfl, _, rfl, ifF rfl ?_⟩
      refine ⟨_, rfl, rfl, _, rfl, ifF rfl ?_⟩
      refine ⟨_, rfl, rfl, _, rfl, ifF rfl ?_⟩
      refine ⟨_, rfl, rfl, _, rfl, ifF rfl ?_⟩
      refine ⟨_, rfl, rfl, _, rfl, ifF rfl ?_⟩
      refine ⟨_, rfl, rfl, _, rfl, ifF rfl ?_⟩
      exact ⟨_, rfl, a, dx, _, rfl, ha, houseF_no _ _ (by decide +kernel) (by decide +kernel), a, la, h, rfl, HL, hT, k⟩
    · cases hcl
end
end Ao
set_option Elab.async false
set_option maxRecDepth 100000
set_option maxHeartbeats 4000000
namespace Ao
open PySem PySem.Spec PyProof.Rows L2 LamX
open PySem.W (Codec WData)
theorem vals_abs : ∀ {us : List Value} {xs : List V}, us.map absV = xs.map some → Vals xs us
  | [], [], _ => .nil
  | [], _ :: _, h => by cases h
  | _ :: _, [], h => by cases h
  | u :: us, x :: xs, h => by
    rw [List.map_cons, List.map_cons] at h
    injection h with h1 h2
    refine .cons ?_ (vals_abs h2)
    cases u <;> first | (cases h1; rfl) | (cases h1; exact ⟨_, rfl⟩) | cases h1
/-- what the row's end asks of the program, in plain lists -/
def AllMk (P : Program) (w : World) (K : PySem.W.Frag) (mg : Str → Option Value) (h : Heap) (fa : Addr) : Prop :=
    ∃ (fd : FuncData) (cs : List (Addr × Addr)) (sp : Sp), AoEnd.TabsAt K cs h ∧ (∀ (s : Shared) (us : List Value), us.length = (["calls"] : List Str).length → BindsTo s fd ⟨us, []⟩ ((["calls"] : List Str).zip us)) ∧
      (∀ (H : Hp) (xs : List V) (l : List Int), (∀ p ∈ cs, H p.2 = some (.tbl #[])) → l.length ≤ 480 → PyPn13.answers_asked l = true → DwAll K H xs [.list (l.map WData.int)] → sp xs H (fun v H' => Dw K H' v (.list ((PyPn13.answers l).map WData.int))) fun _ _ _ => False) ∧
      ∀ base : Heap, K.In base → base.Ns mainGlobals mg → (∀ p ∈ cs, TabB base mg p.1 p.2) → FnOk P w K mg base CX0 9 fa fd ["calls"] sp
theorem all_mk {P : Program} {w : World} {K : PySem.W.Frag} {q : Program} {loose : List Str} {mean : PySem.ExcName → Option Value} {h : Heap} {mg mb : Str → Option Value} {fa CA CG CH cdBest tBest : Addr} (X : K.In h) (TT : Top q loose mean mg mb h) (hfa : mg "answers" = some (.ref fa))
    {f_stateOf : Addr} {od_stateOf an_stateOf : Option Addr} {sl_stateOf : Array (Option Value)} {oc_stateOf kV_stateOf dc_stateOf pm_stateOf cd_stateOf ct_stateOf : Value}
    {f_count : Addr} {od_count an_count : Option Addr} {sl_count : Array (Option Value)} {oc_count kV_count dc_count pm_count cd_count ct_count : Value}
    {f_are : Addr} {od_are an_are : Option Addr} {sl_are : Array (Option Value)} {oc_are kV_are dc_are pm_are cd_are ct_are : Value}
    {f_winner : Addr} {od_winner an_winner : Option Addr} {sl_winner : Array (Option Value)} {oc_winner kV_winner dc_winner pm_winner cd_winner ct_winner : Value}
    {f_may : Addr} {od_may an_may : Option Addr} {sl_may : Array (Option Value)} {oc_may kV_may dc_may pm_may cd_may ct_may : Value}
    {f_moves : Addr} {od_moves an_moves : Option Addr} {sl_moves : Array (Option Value)} {oc_moves kV_moves dc_moves pm_moves cd_moves ct_moves : Value}
    {f_behind : Addr} {od_behind an_behind : Option Addr} {sl_behind : Array (Option Value)} {oc_behind kV_behind dc_behind pm_behind cd_behind ct_behind : Value}
    {f_states : Addr} {od_states an_states : Option Addr} {sl_states : Array (Option Value)} {oc_states kV_states dc_states pm_states cd_states ct_states : Value}
    {f_isF : Addr} {od_isF an_isF : Option Addr} {sl_isF : Array (Option Value)} {oc_isF kV_isF dc_isF pm_isF cd_isF ct_isF : Value}
    {f_forced : Addr} {od_forced an_forced : Option Addr} {sl_forced : Array (Option Value)} {oc_forced kV_forced dc_forced pm_forced cd_forced ct_forced : Value}
    {f_each : Addr} {od_each an_each : Option Addr} {sl_each : Array (Option Value)} {oc_each kV_each dc_each pm_each cd_each ct_each : Value}
    {f_best : Addr} {od_best an_best : Option Addr} {sl_best : Array (Option Value)} {oc_best kV_best dc_best pm_best ct_best : Value}
    {f_line : Addr} {od_line an_line : Option Addr} {sl_line : Array (Option Value)} {oc_line kV_line dc_line pm_line cd_line ct_line : Value}
    {f_wish : Addr} {od_wish an_wish : Option Addr} {sl_wish : Array (Option Value)} {oc_wish kV_wish dc_wish pm_wish cd_wish ct_wish : Value}
    {f_isAct : Addr} {od_isAct an_isAct : Option Addr} {sl_isAct : Array (Option Value)} {oc_isAct kV_isAct dc_isAct pm_isAct cd_isAct ct_isAct : Value}
    {f_ansOf : Addr} {od_ansOf an_ansOf : Option Addr} {sl_ansOf : Array (Option Value)} {oc_ansOf kV_ansOf dc_ansOf pm_ansOf cd_ansOf ct_ansOf : Value}
    {f_answers : Addr} {od_answers an_answers : Option Addr} {sl_answers : Array (Option Value)} {oc_answers kV_answers dc_answers pm_answers cd_answers ct_answers : Value}
    {f_actI : Addr} {od_actI an_actI : Option Addr} {sl_actI : Array (Option Value)} {oc_actI kV_actI dc_actI pm_actI cd_actI ct_actI : Value}
    {f_gameI : Addr} {od_gameI an_gameI : Option Addr} {sl_gameI : Array (Option Value)} {oc_gameI kV_gameI dc_gameI pm_gameI cd_gameI ct_gameI : Value}
    {f_houseI : Addr} {od_houseI an_houseI : Option Addr} {sl_houseI : Array (Option Value)} {oc_houseI kV_houseI dc_houseI pm_houseI cd_houseI ct_houseI : Value}
    {f_begins : Addr} {od_begins an_begins : Option Addr} {sl_begins : Array (Option Value)} {oc_begins kV_begins dc_begins pm_begins cd_begins ct_begins : Value}
    {f_act : Addr} {od_act an_act : Option Addr} {sl_act : Array (Option Value)} {oc_act kV_act dc_act pm_act cd_act ct_act : Value}
    {f_at : Addr} {od_at an_at : Option Addr} {sl_at : Array (Option Value)} {oc_at kV_at dc_at pm_at cd_at ct_at : Value}
    {f_value : Addr} {od_value an_value : Option Addr} {sl_value : Array (Option Value)} {oc_value kV_value dc_value pm_value cd_value ct_value : Value}
    {f_bestM : Addr} {od_bestM an_bestM : Option Addr} {sl_bestM : Array (Option Value)} {oc_bestM kV_bestM dc_bestM pm_bestM cd_bestM ct_bestM : Value}
    {f_lineM : Addr} {od_lineM an_lineM : Option Addr} {sl_lineM : Array (Option Value)} {oc_lineM kV_lineM dc_lineM pm_lineM cd_lineM ct_lineM : Value}
    {f_moveM : Addr} {od_moveM an_moveM : Option Addr} {sl_moveM : Array (Option Value)} {oc_moveM kV_moveM dc_moveM pm_moveM cd_moveM ct_moveM : Value}
    {f_answerM : Addr} {od_answerM an_answerM : Option Addr} {sl_answerM : Array (Option Value)} {oc_answerM kV_answerM dc_answerM pm_answerM cd_answerM ct_answerM : Value}
    {f_counts : Addr} {od_counts an_counts : Option Addr} {sl_counts : Array (Option Value)} {oc_counts kV_counts dc_counts pm_counts cd_counts ct_counts : Value}
    {f_now : Addr} {od_now an_now : Option Addr} {sl_now : Array (Option Value)} {oc_now kV_now dc_now pm_now cd_now ct_now : Value}
    {f_make : Addr} {od_make an_make : Option Addr} {sl_make : Array (Option Value)} {oc_make kV_make dc_make pm_make cd_make ct_make : Value}
    {t_BEGINS : Tok}
    {t_ACT : Tok}
    {t_AT : Tok}
    {t_VALUE : Tok}
    {t_BEST : Tok}
    {t_LINE : Tok}
    {t_MOVE : Tok}
    {t_ANSWER : Tok}
    {t_MOST_OF_LINE : Tok}
    {t_MOST_FACTS : Tok}
    {t_MOST_ACTS : Tok}
    {t_NUMBERS_OF_ACT : Tok}
    {t_WRONG : Tok}
    {t_NO_MOVE : Tok}
    {t_FULL : Tok}
    {dBest : DefRec} {sz : Addr} {szo : Obj} {szi : Array Value} {szn : Nat}
    (a_stateOf : PySem.W.nsIn K mainGlobals "state_of" = some (some (.ref f_stateOf)))
    (l_stateOf : K.lookup f_stateOf = some ⟨oc_stateOf, od_stateOf, .func (PySem.W.fnOf "state_of" "state_of" (defArgs sStateOf) (defBody sStateOf) (defScope sStateOf) .none kV_stateOf dc_stateOf pm_stateOf an_stateOf cd_stateOf ct_stateOf), sl_stateOf⟩)
    (c_stateOf : PySem.W.codeIn K cd_stateOf "state_of" = true)
    (k_stateOf : PySem.W.keepIn K (.ref f_stateOf) = true)
    (a_count : PySem.W.nsIn K mainGlobals "count_of_states" = some (some (.ref f_count)))
    (l_count : K.lookup f_count = some ⟨oc_count, od_count, .func (PySem.W.fnOf "count_of_states" "count_of_states" (defArgs sCount) (defBody sCount) (defScope sCount) .none kV_count dc_count pm_count an_count cd_count ct_count), sl_count⟩)
    (c_count : PySem.W.codeIn K cd_count "count_of_states" = true)
    (k_count : PySem.W.keepIn K (.ref f_count) = true)
    (a_are : PySem.W.nsIn K mainGlobals "are_facts" = some (some (.ref f_are)))
    (l_are : K.lookup f_are = some ⟨oc_are, od_are, .func (PySem.W.fnOf "are_facts" "are_facts" (defArgs sAre) (defBody sAre) (defScope sAre) .none kV_are dc_are pm_are an_are cd_are ct_are), sl_are⟩)
    (c_are : PySem.W.codeIn K cd_are "are_facts" = true)
    (k_are : PySem.W.keepIn K (.ref f_are) = true)
    (a_winner : PySem.W.nsIn K mainGlobals "winner" = some (some (.ref f_winner)))
    (l_winner : K.lookup f_winner = some ⟨oc_winner, od_winner, .func (PySem.W.fnOf "winner" "winner" (defArgs sWinner) (defBody sWinner) (defScope sWinner) .none kV_winner dc_winner pm_winner an_winner cd_winner ct_winner), sl_winner⟩)
    (c_winner : PySem.W.codeIn K cd_winner "winner" = true)
    (k_winner : PySem.W.keepIn K (.ref f_winner) = true)
    (a_may : PySem.W.nsIn K mainGlobals "may_be_done" = some (some (.ref f_may)))
    (l_may : K.lookup f_may = some ⟨oc_may, od_may, .func (PySem.W.fnOf "may_be_done" "may_be_done" (defArgs sMay) (defBody sMay) (defScope sMay) .none kV_may dc_may pm_may an_may cd_may ct_may), sl_may⟩)
    (c_may : PySem.W.codeIn K cd_may "may_be_done" = true)
    (k_may : PySem.W.keepIn K (.ref f_may) = true)
    (a_moves : PySem.W.nsIn K mainGlobals "moves_in" = some (some (.ref f_moves)))
    (l_moves : K.lookup f_moves = some ⟨oc_moves, od_moves, .func (PySem.W.fnOf "moves_in" "moves_in" (defArgs sMoves) (defBody sMoves) (defScope sMoves) .none kV_moves dc_moves pm_moves an_moves cd_moves ct_moves), sl_moves⟩)
    (c_moves : PySem.W.codeIn K cd_moves "moves_in" = true)
    (k_moves : PySem.W.keepIn K (.ref f_moves) = true)
    (a_behind : PySem.W.nsIn K mainGlobals "state_behind" = some (some (.ref f_behind)))
    (l_behind : K.lookup f_behind = some ⟨oc_behind, od_behind, .func (PySem.W.fnOf "state_behind" "state_behind" (defArgs sBehind) (defBody sBehind) (defScope sBehind) .none kV_behind dc_behind pm_behind an_behind cd_behind ct_behind), sl_behind⟩)
    (c_behind : PySem.W.codeIn K cd_behind "state_behind" = true)
    (k_behind : PySem.W.keepIn K (.ref f_behind) = true)
    (a_states : PySem.W.nsIn K mainGlobals "states_behind" = some (some (.ref f_states)))
    (l_states : K.lookup f_states = some ⟨oc_states, od_states, .func (PySem.W.fnOf "states_behind" "states_behind" (defArgs sStates) (defBody sStates) (defScope sStates) .none kV_states dc_states pm_states an_states cd_states ct_states), sl_states⟩)
    (c_states : PySem.W.codeIn K cd_states "states_behind" = true)
    (k_states : PySem.W.keepIn K (.ref f_states) = true)
    (a_isF : PySem.W.nsIn K mainGlobals "is_forced" = some (some (.ref f_isF)))
    (l_isF : K.lookup f_isF = some ⟨oc_isF, od_isF, .func (PySem.W.fnOf "is_forced" "is_forced" (defArgs sIsF) (defBody sIsF) (defScope sIsF) .none kV_isF dc_isF pm_isF an_isF cd_isF ct_isF), sl_isF⟩)
    (c_isF : PySem.W.codeIn K cd_isF "is_forced" = true)
    (k_isF : PySem.W.keepIn K (.ref f_isF) = true)
    (a_forced : PySem.W.nsIn K mainGlobals "forced_by" = some (some (.ref f_forced)))
    (l_forced : K.lookup f_forced = some ⟨oc_forced, od_forced, .func (PySem.W.fnOf "forced_by" "forced_by" (defArgs sForced) (defBody sForced) (defScope sForced) .none kV_forced dc_forced pm_forced an_forced cd_forced ct_forced), sl_forced⟩)
    (c_forced : PySem.W.codeIn K cd_forced "forced_by" = true)
    (k_forced : PySem.W.keepIn K (.ref f_forced) = true)
    (a_each : PySem.W.nsIn K mainGlobals "forced_by_each" = some (some (.ref f_each)))
    (l_each : K.lookup f_each = some ⟨oc_each, od_each, .func (PySem.W.fnOf "forced_by_each" "forced_by_each" (defArgs sEach) (defBody sEach) (defScope sEach) .none kV_each dc_each pm_each an_each cd_each ct_each), sl_each⟩)
    (c_each : PySem.W.codeIn K cd_each "forced_by_each" = true)
    (k_each : PySem.W.keepIn K (.ref f_each) = true)
    (a_best : PySem.W.nsIn K mainGlobals "best_move" = some (some (.ref f_best)))
    (l_best : K.lookup f_best = some ⟨oc_best, od_best, .func (PySem.W.fnOf "best_move" "best_move" (defArgs sBest) (defBody sBest) (defScope sBest) .none kV_best dc_best pm_best an_best (.ref cdBest) ct_best), sl_best⟩)
    (c_best : PySem.W.codeIn K (.ref cdBest) "best_move" = true)
    (k_best : PySem.W.keepIn K (.ref f_best) = true)
    (a_line : PySem.W.nsIn K mainGlobals "best_line" = some (some (.ref f_line)))
    (l_line : K.lookup f_line = some ⟨oc_line, od_line, .func (PySem.W.fnOf "best_line" "best_line" (defArgs sLine) (defBody sLine) (defScope sLine) .none kV_line dc_line pm_line an_line cd_line ct_line), sl_line⟩)
    (c_line : PySem.W.codeIn K cd_line "best_line" = true)
    (k_line : PySem.W.keepIn K (.ref f_line) = true)
    (a_wish : PySem.W.nsIn K mainGlobals "is_wish" = some (some (.ref f_wish)))
    (l_wish : K.lookup f_wish = some ⟨oc_wish, od_wish, .func (PySem.W.fnOf "is_wish" "is_wish" (defArgs sWish) (defBody sWish) (defScope sWish) .none kV_wish dc_wish pm_wish an_wish cd_wish ct_wish), sl_wish⟩)
    (c_wish : PySem.W.codeIn K cd_wish "is_wish" = true)
    (k_wish : PySem.W.keepIn K (.ref f_wish) = true)
    (a_isAct : PySem.W.nsIn K mainGlobals "is_act" = some (some (.ref f_isAct)))
    (l_isAct : K.lookup f_isAct = some ⟨oc_isAct, od_isAct, .func (PySem.W.fnOf "is_act" "is_act" (defArgs sIsAct) (defBody sIsAct) (defScope sIsAct) .none kV_isAct dc_isAct pm_isAct an_isAct cd_isAct ct_isAct), sl_isAct⟩)
    (c_isAct : PySem.W.codeIn K cd_isAct "is_act" = true)
    (k_isAct : PySem.W.keepIn K (.ref f_isAct) = true)
    (a_ansOf : PySem.W.nsIn K mainGlobals "answer_of" = some (some (.ref f_ansOf)))
    (l_ansOf : K.lookup f_ansOf = some ⟨oc_ansOf, od_ansOf, .func (PySem.W.fnOf "answer_of" "answer_of" (defArgs sAnsOf) (defBody sAnsOf) (defScope sAnsOf) .none kV_ansOf dc_ansOf pm_ansOf an_ansOf cd_ansOf ct_ansOf), sl_ansOf⟩)
    (c_ansOf : PySem.W.codeIn K cd_ansOf "answer_of" = true)
    (k_ansOf : PySem.W.keepIn K (.ref f_ansOf) = true)
    (a_answers : PySem.W.nsIn K mainGlobals "answers" = some (some (.ref f_answers)))
    (l_answers : K.lookup f_answers = some ⟨oc_answers, od_answers, .func (PySem.W.fnOf "answers" "answers" (defArgs sAnswers) (defBody sAnswers) (defScope sAnswers) .none kV_answers dc_answers pm_answers an_answers cd_answers ct_answers), sl_answers⟩)
    (c_answers : PySem.W.codeIn K cd_answers "answers" = true)
    (k_answers : PySem.W.keepIn K (.ref f_answers) = true)
    (n_CA : PySem.W.nsIn K mainGlobals "Act" = some (some (.ref CA)))
    (n_CG : PySem.W.nsIn K mainGlobals "Game" = some (some (.ref CG)))
    (n_CH : PySem.W.nsIn K mainGlobals "House" = some (some (.ref CH)))
    (a_actI : PySem.W.findIn K (.ref CA) "__init__" = some (some (.ref f_actI)))
    (i_actI : PySem.W.isFn K (.ref f_actI) = true)
    (l_actI : K.lookup f_actI = some ⟨oc_actI, od_actI, .func (PySem.W.fnOf "__init__" "Act.__init__" (defArgs sActI) (defBody sActI) (defScope sActI) .none kV_actI dc_actI pm_actI an_actI cd_actI ct_actI), sl_actI⟩)
    (c_actI : PySem.W.codeIn K cd_actI "Act.__init__" = true)
    (k_actI : PySem.W.keepIn K (.ref f_actI) = true)
    (a_gameI : PySem.W.findIn K (.ref CG) "__init__" = some (some (.ref f_gameI)))
    (i_gameI : PySem.W.isFn K (.ref f_gameI) = true)
    (l_gameI : K.lookup f_gameI = some ⟨oc_gameI, od_gameI, .func (PySem.W.fnOf "__init__" "Game.__init__" (defArgs sGameI) (defBody sGameI) (defScope sGameI) .none kV_gameI dc_gameI pm_gameI an_gameI cd_gameI ct_gameI), sl_gameI⟩)
    (c_gameI : PySem.W.codeIn K cd_gameI "Game.__init__" = true)
    (k_gameI : PySem.W.keepIn K (.ref f_gameI) = true)
    (a_houseI : PySem.W.findIn K (.ref CH) "__init__" = some (some (.ref f_houseI)))
    (i_houseI : PySem.W.isFn K (.ref f_houseI) = true)
    (l_houseI : K.lookup f_houseI = some ⟨oc_houseI, od_houseI, .func (PySem.W.fnOf "__init__" "House.__init__" (defArgs sHouseI) (defBody sHouseI) (defScope sHouseI) .none kV_houseI dc_houseI pm_houseI an_houseI cd_houseI ct_houseI), sl_houseI⟩)
    (c_houseI : PySem.W.codeIn K cd_houseI "House.__init__" = true)
    (k_houseI : PySem.W.keepIn K (.ref f_houseI) = true)
    (a_begins : PySem.W.findIn K (.ref CH) "begins" = some (some (.ref f_begins)))
    (i_begins : PySem.W.isFn K (.ref f_begins) = true)
    (l_begins : K.lookup f_begins = some ⟨oc_begins, od_begins, .func (PySem.W.fnOf "begins" "House.begins" (defArgs sBegins) (defBody sBegins) (defScope sBegins) .none kV_begins dc_begins pm_begins an_begins cd_begins ct_begins), sl_begins⟩)
    (c_begins : PySem.W.codeIn K cd_begins "House.begins" = true)
    (k_begins : PySem.W.keepIn K (.ref f_begins) = true)
    (a_act : PySem.W.findIn K (.ref CH) "act" = some (some (.ref f_act)))
    (i_act : PySem.W.isFn K (.ref f_act) = true)
    (l_act : K.lookup f_act = some ⟨oc_act, od_act, .func (PySem.W.fnOf "act" "House.act" (defArgs sAct) (defBody sAct) (defScope sAct) .none kV_act dc_act pm_act an_act cd_act ct_act), sl_act⟩)
    (c_act : PySem.W.codeIn K cd_act "House.act" = true)
    (k_act : PySem.W.keepIn K (.ref f_act) = true)
    (a_at : PySem.W.findIn K (.ref CH) "at" = some (some (.ref f_at)))
    (i_at : PySem.W.isFn K (.ref f_at) = true)
    (l_at : K.lookup f_at = some ⟨oc_at, od_at, .func (PySem.W.fnOf "at" "House.at" (defArgs sAt) (defBody sAt) (defScope sAt) .none kV_at dc_at pm_at an_at cd_at ct_at), sl_at⟩)
    (c_at : PySem.W.codeIn K cd_at "House.at" = true)
    (k_at : PySem.W.keepIn K (.ref f_at) = true)
    (a_value : PySem.W.findIn K (.ref CH) "value" = some (some (.ref f_value)))
    (i_value : PySem.W.isFn K (.ref f_value) = true)
    (l_value : K.lookup f_value = some ⟨oc_value, od_value, .func (PySem.W.fnOf "value" "House.value" (defArgs sValue) (defBody sValue) (defScope sValue) .none kV_value dc_value pm_value an_value cd_value ct_value), sl_value⟩)
    (c_value : PySem.W.codeIn K cd_value "House.value" = true)
    (k_value : PySem.W.keepIn K (.ref f_value) = true)
    (a_bestM : PySem.W.findIn K (.ref CH) "best" = some (some (.ref f_bestM)))
    (i_bestM : PySem.W.isFn K (.ref f_bestM) = true)
    (l_bestM : K.lookup f_bestM = some ⟨oc_bestM, od_bestM, .func (PySem.W.fnOf "best" "House.best" (defArgs sBestM) (defBody sBestM) (defScope sBestM) .none kV_bestM dc_bestM pm_bestM an_bestM cd_bestM ct_bestM), sl_bestM⟩)
    (c_bestM : PySem.W.codeIn K cd_bestM "House.best" = true)
    (k_bestM : PySem.W.keepIn K (.ref f_bestM) = true)
    (a_lineM : PySem.W.findIn K (.ref CH) "line" = some (some (.ref f_lineM)))
    (i_lineM : PySem.W.isFn K (.ref f_lineM) = true)
    (l_lineM : K.lookup f_lineM = some ⟨oc_lineM, od_lineM, .func (PySem.W.fnOf "line" "House.line" (defArgs sLineM) (defBody sLineM) (defScope sLineM) .none kV_lineM dc_lineM pm_lineM an_lineM cd_lineM ct_lineM), sl_lineM⟩)
    (c_lineM : PySem.W.codeIn K cd_lineM "House.line" = true)
    (k_lineM : PySem.W.keepIn K (.ref f_lineM) = true)
    (a_moveM : PySem.W.findIn K (.ref CH) "move" = some (some (.ref f_moveM)))
    (i_moveM : PySem.W.isFn K (.ref f_moveM) = true)
    (l_moveM : K.lookup f_moveM = some ⟨oc_moveM, od_moveM, .func (PySem.W.fnOf "move" "House.move" (defArgs sMoveM) (defBody sMoveM) (defScope sMoveM) .none kV_moveM dc_moveM pm_moveM an_moveM cd_moveM ct_moveM), sl_moveM⟩)
    (c_moveM : PySem.W.codeIn K cd_moveM "House.move" = true)
    (k_moveM : PySem.W.keepIn K (.ref f_moveM) = true)
    (a_answerM : PySem.W.findIn K (.ref CH) "answer" = some (some (.ref f_answerM)))
    (i_answerM : PySem.W.isFn K (.ref f_answerM) = true)
    (l_answerM : K.lookup f_answerM = some ⟨oc_answerM, od_answerM, .func (PySem.W.fnOf "answer" "House.answer" (defArgs sAnswerM) (defBody sAnswerM) (defScope sAnswerM) .none kV_answerM dc_answerM pm_answerM an_answerM cd_answerM ct_answerM), sl_answerM⟩)
    (c_answerM : PySem.W.codeIn K cd_answerM "House.answer" = true)
    (k_answerM : PySem.W.keepIn K (.ref f_answerM) = true)
    (a_counts : PySem.W.findIn K (.ref CH) "counts" = some (some (.ref f_counts)))
    (i_counts : PySem.W.isFn K (.ref f_counts) = true)
    (l_counts : K.lookup f_counts = some ⟨oc_counts, od_counts, .func (PySem.W.fnOf "counts" "House.counts" (defArgs sCounts) (defBody sCounts) (defScope sCounts) .none kV_counts dc_counts pm_counts an_counts cd_counts ct_counts), sl_counts⟩)
    (c_counts : PySem.W.codeIn K cd_counts "House.counts" = true)
    (k_counts : PySem.W.keepIn K (.ref f_counts) = true)
    (a_now : PySem.W.findIn K (.ref CH) "best_now" = some (some (.ref f_now)))
    (i_now : PySem.W.isFn K (.ref f_now) = true)
    (l_now : K.lookup f_now = some ⟨oc_now, od_now, .func (PySem.W.fnOf "best_now" "House.best_now" (defArgs sNow) (defBody sNow) (defScope sNow) .none kV_now dc_now pm_now an_now cd_now ct_now), sl_now⟩)
    (c_now : PySem.W.codeIn K cd_now "House.best_now" = true)
    (k_now : PySem.W.keepIn K (.ref f_now) = true)
    (a_make : PySem.W.findIn K (.ref CH) "make" = some (some (.ref f_make)))
    (i_make : PySem.W.isFn K (.ref f_make) = true)
    (l_make : K.lookup f_make = some ⟨oc_make, od_make, .func (PySem.W.fnOf "make" "House.make" (defArgs sMake) (defBody sMake) (defScope sMake) .none kV_make dc_make pm_make an_make cd_make ct_make), sl_make⟩)
    (c_make : PySem.W.codeIn K cd_make "House.make" = true)
    (k_make : PySem.W.keepIn K (.ref f_make) = true)
    (pg_CA : PySem.W.plainGet K CA Str.empty = true)
    (hd_CA : PySem.W.hasDictIn K CA = true)
    (po_CA : PySem.W.plainOver K CA = true)
    (sa_CA : PySem.W.findIn K (.ref CA) "__setattr__" = some (some (.builtin "object.__setattr__")))
    (mk_CA : PySem.W.makesIn K CA = true)
    (kc_CA : PySem.W.keepIn K (.ref CA) = true)
    (na_CA_whose : PySem.W.findIn K (.ref CA) "whose" = some none)
    (na_CA_needs : PySem.W.findIn K (.ref CA) "needs" = some none)
    (na_CA_bars : PySem.W.findIn K (.ref CA) "bars" = some none)
    (na_CA_brings : PySem.W.findIn K (.ref CA) "brings" = some none)
    (na_CA_takes : PySem.W.findIn K (.ref CA) "takes" = some none)
    (pg_CG : PySem.W.plainGet K CG Str.empty = true)
    (hd_CG : PySem.W.hasDictIn K CG = true)
    (po_CG : PySem.W.plainOver K CG = true)
    (sa_CG : PySem.W.findIn K (.ref CG) "__setattr__" = some (some (.builtin "object.__setattr__")))
    (mk_CG : PySem.W.makesIn K CG = true)
    (kc_CG : PySem.W.keepIn K (.ref CG) = true)
    (na_CG_facts : PySem.W.findIn K (.ref CG) "facts" = some none)
    (na_CG_wants : PySem.W.findIn K (.ref CG) "wants" = some none)
    (na_CG_may_pass : PySem.W.findIn K (.ref CG) "may_pass" = some none)
    (na_CG_acts : PySem.W.findIn K (.ref CG) "acts" = some none)
    (pg_CH : PySem.W.plainGet K CH Str.empty = true)
    (hd_CH : PySem.W.hasDictIn K CH = true)
    (po_CH : PySem.W.plainOver K CH = true)
    (sa_CH : PySem.W.findIn K (.ref CH) "__setattr__" = some (some (.builtin "object.__setattr__")))
    (mk_CH : PySem.W.makesIn K CH = true)
    (kc_CH : PySem.W.keepIn K (.ref CH) = true)
    (na_CH_game : PySem.W.findIn K (.ref CH) "game" = some none)
    (na_CH_state : PySem.W.findIn K (.ref CH) "state" = some none)
    (z_len : PySem.W.nsIn K mainGlobals "len" = some none)
    (z_range : PySem.W.nsIn K mainGlobals "range" = some none)
    (z_any : PySem.W.nsIn K mainGlobals "any" = some none)
    (z_all : PySem.W.nsIn K mainGlobals "all" = some none)
    (z_min : PySem.W.nsIn K mainGlobals "min" = some none)
    (z_max : PySem.W.nsIn K mainGlobals "max" = some none)
    (v_BEGINS : PySem.W.nsIn K mainGlobals "BEGINS" = some (some (.int 0 t_BEGINS)))
    (v_ACT : PySem.W.nsIn K mainGlobals "ACT" = some (some (.int 1 t_ACT)))
    (v_AT : PySem.W.nsIn K mainGlobals "AT" = some (some (.int 2 t_AT)))
    (v_VALUE : PySem.W.nsIn K mainGlobals "VALUE" = some (some (.int 3 t_VALUE)))
    (v_BEST : PySem.W.nsIn K mainGlobals "BEST" = some (some (.int 4 t_BEST)))
    (v_LINE : PySem.W.nsIn K mainGlobals "LINE" = some (some (.int 5 t_LINE)))
    (v_MOVE : PySem.W.nsIn K mainGlobals "MOVE" = some (some (.int 6 t_MOVE)))
    (v_ANSWER : PySem.W.nsIn K mainGlobals "ANSWER" = some (some (.int 7 t_ANSWER)))
    (v_MOST_OF_LINE : PySem.W.nsIn K mainGlobals "MOST_OF_LINE" = some (some (.int 40 t_MOST_OF_LINE)))
    (v_MOST_FACTS : PySem.W.nsIn K mainGlobals "MOST_FACTS" = some (some (.int 4 t_MOST_FACTS)))
    (v_MOST_ACTS : PySem.W.nsIn K mainGlobals "MOST_ACTS" = some (some (.int 10 t_MOST_ACTS)))
    (v_NUMBERS_OF_ACT : PySem.W.nsIn K mainGlobals "NUMBERS_OF_ACT" = some (some (.int 5 t_NUMBERS_OF_ACT)))
    (v_WRONG : PySem.W.nsIn K mainGlobals "WRONG" = some (some (.int (-1) t_WRONG)))
    (v_NO_MOVE : PySem.W.nsIn K mainGlobals "NO_MOVE" = some (some (.int (-5) t_NO_MOVE)))
    (v_FULL : PySem.W.nsIn K mainGlobals "FULL" = some (some (.int (-7) t_FULL)))
    (v_SIZES : PySem.W.nsIn K mainGlobals "SIZES" = some (some (.ref sz)))
    (sz_l : K.lookup sz = some szo)
    (sz_c : szo.cls = .type "tuple")
    (sz_d : szo.data = .seq szi szn)
    (sz_v : szi.toList.map absV = sizesL.map some)
    (tab : PySem.W.tabIn K "best_move" = some (cdBest, tBest))
    (rec_ : (recsOf q).find? (fun e => e.name == ("best_move" : Str)) = some dBest)
    (notab : K.lookup tBest = none)
    (nGH : CG ≠ CH)
    (nAH : CA ≠ CH) :
    AllMk P w K mg h fa := by
  have F_stateOf := fun_mk (st := sStateOf) l_stateOf c_stateOf k_stateOf
  have b_stateOf := F_stateOf.binds (ps := ["so", "turn"]) fun _ _ _ _ _ _ us hl => match us, hl with | [_, _], _ => rfl
  have F_count := fun_mk (st := sCount) l_count c_count k_count
  have b_count := F_count.binds (ps := ["game"]) fun _ _ _ _ _ _ us hl => match us, hl with | [_], _ => rfl
  have F_are := fun_mk (st := sAre) l_are c_are k_are
  have b_are := F_are.binds (ps := ["facts", "so"]) fun _ _ _ _ _ _ us hl => match us, hl with | [_, _], _ => rfl
  have F_winner := fun_mk (st := sWinner) l_winner c_winner k_winner
  have b_winner := F_winner.binds (ps := ["game", "state"]) fun _ _ _ _ _ _ us hl => match us, hl with | [_, _], _ => rfl
  have F_may := fun_mk (st := sMay) l_may c_may k_may
  have b_may := F_may.binds (ps := ["act", "state"]) fun _ _ _ _ _ _ us hl => match us, hl with | [_, _], _ => rfl
  have F_moves := fun_mk (st := sMoves) l_moves c_moves k_moves
  have b_moves := F_moves.binds (ps := ["game", "state"]) fun _ _ _ _ _ _ us hl => match us, hl with | [_, _], _ => rfl
  have F_behind := fun_mk (st := sBehind) l_behind c_behind k_behind
  have b_behind := F_behind.binds (ps := ["game", "state", "move"]) fun _ _ _ _ _ _ us hl => match us, hl with | [_, _, _], _ => rfl
  have F_states := fun_mk (st := sStates) l_states c_states k_states
  have b_states := F_states.binds (ps := ["game", "state"]) fun _ _ _ _ _ _ us hl => match us, hl with | [_, _], _ => rfl
  have F_isF := fun_mk (st := sIsF) l_isF c_isF k_isF
  have b_isF := F_isF.binds (ps := ["following", "own_turn", "steps"]) fun _ _ _ _ _ _ us hl => match us, hl with | [_, _, _], _ => rfl
  have F_forced := fun_mk (st := sForced) l_forced c_forced k_forced
  have b_forced := F_forced.binds (ps := ["game", "who"]) fun _ _ _ _ _ _ us hl => match us, hl with | [_, _], _ => rfl
  have F_each := fun_mk (st := sEach) l_each c_each k_each
  have b_each := F_each.binds (ps := ["game"]) fun _ _ _ _ _ _ us hl => match us, hl with | [_], _ => rfl
  have F_best := fun_mk (st := sBest) l_best c_best k_best
  have b_best := F_best.binds (ps := ["game", "state", "forced"]) fun _ _ _ _ _ _ us hl => match us, hl with | [_, _, _], _ => rfl
  have F_line := fun_mk (st := sLine) l_line c_line k_line
  have b_line := F_line.binds (ps := ["game", "state", "most"]) fun _ _ _ _ _ _ us hl => match us, hl with | [_, _, _], _ => rfl
  have F_wish := fun_mk (st := sWish) l_wish c_wish k_wish
  have b_wish := F_wish.binds (ps := ["facts", "wanted"]) fun _ _ _ _ _ _ us hl => match us, hl with | [_, _], _ => rfl
  have F_isAct := fun_mk (st := sIsAct) l_isAct c_isAct k_isAct
  have b_isAct := F_isAct.binds (ps := ["facts", "told"]) fun _ _ _ _ _ _ us hl => match us, hl with | [_, _], _ => rfl
  have F_ansOf := fun_mk (st := sAnsOf) l_ansOf c_ansOf k_ansOf
  have b_ansOf := F_ansOf.binds (ps := ["house", "call", "told"]) fun _ _ _ _ _ _ us hl => match us, hl with | [_, _, _], _ => rfl
  have F_answers := fun_mk (st := sAnswers) l_answers c_answers k_answers
  have b_answers := F_answers.binds (ps := ["calls"]) fun _ _ _ _ _ _ us hl => match us, hl with | [_], _ => rfl
  have F_actI := fun_mk (st := sActI) l_actI c_actI k_actI
  have b_actI := F_actI.binds (ps := ["self", "told"]) fun _ _ _ _ _ _ us hl => match us, hl with | [_, _], _ => rfl
  have F_gameI := fun_mk (st := sGameI) l_gameI c_gameI k_gameI
  have b_gameI := F_gameI.binds (ps := ["self", "facts", "wants", "may_pass"]) fun _ _ _ _ _ _ us hl => match us, hl with | [_, _, _, _], _ => rfl
  have F_houseI := fun_mk (st := sHouseI) l_houseI c_houseI k_houseI
  have b_houseI := F_houseI.binds (ps := ["self"]) fun _ _ _ _ _ _ us hl => match us, hl with | [_], _ => rfl
  have F_begins := fun_mk (st := sBegins) l_begins c_begins k_begins
  have b_begins := F_begins.binds (ps := ["self", "facts", "first_wants", "second_wants", "first_may", "second_may"]) fun _ _ _ _ _ _ us hl => match us, hl with | [_, _, _, _, _, _], _ => rfl
  have m_begins : Meth K CH "begins" f_begins := ⟨a_begins, i_begins, k_begins⟩
  have F_act := fun_mk (st := sAct) l_act c_act k_act
  have b_act := F_act.binds (ps := ["self", "told"]) fun _ _ _ _ _ _ us hl => match us, hl with | [_, _], _ => rfl
  have m_act : Meth K CH "act" f_act := ⟨a_act, i_act, k_act⟩
  have F_at := fun_mk (st := sAt) l_at c_at k_at
  have b_at := F_at.binds (ps := ["self", "so", "turn"]) fun _ _ _ _ _ _ us hl => match us, hl with | [_, _, _], _ => rfl
  have m_at : Meth K CH "at" f_at := ⟨a_at, i_at, k_at⟩
  have F_value := fun_mk (st := sValue) l_value c_value k_value
  have b_value := F_value.binds (ps := ["self"]) fun _ _ _ _ _ _ us hl => match us, hl with | [_], _ => rfl
  have m_value : Meth K CH "value" f_value := ⟨a_value, i_value, k_value⟩
  have F_bestM := fun_mk (st := sBestM) l_bestM c_bestM k_bestM
  have b_bestM := F_bestM.binds (ps := ["self"]) fun _ _ _ _ _ _ us hl => match us, hl with | [_], _ => rfl
  have m_bestM : Meth K CH "best" f_bestM := ⟨a_bestM, i_bestM, k_bestM⟩
  have F_lineM := fun_mk (st := sLineM) l_lineM c_lineM k_lineM
  have b_lineM := F_lineM.binds (ps := ["self", "most"]) fun _ _ _ _ _ _ us hl => match us, hl with | [_, _], _ => rfl
  have m_lineM : Meth K CH "line" f_lineM := ⟨a_lineM, i_lineM, k_lineM⟩
  have F_moveM := fun_mk (st := sMoveM) l_moveM c_moveM k_moveM
  have b_moveM := F_moveM.binds (ps := ["self", "number"]) fun _ _ _ _ _ _ us hl => match us, hl with | [_, _], _ => rfl
  have m_moveM : Meth K CH "move" f_moveM := ⟨a_moveM, i_moveM, k_moveM⟩
  have F_answerM := fun_mk (st := sAnswerM) l_answerM c_answerM k_answerM
  have b_answerM := F_answerM.binds (ps := ["self"]) fun _ _ _ _ _ _ us hl => match us, hl with | [_], _ => rfl
  have m_answerM : Meth K CH "answer" f_answerM := ⟨a_answerM, i_answerM, k_answerM⟩
  have F_counts := fun_mk (st := sCounts) l_counts c_counts k_counts
  have b_counts := F_counts.binds (ps := ["self"]) fun _ _ _ _ _ _ us hl => match us, hl with | [_], _ => rfl
  have m_counts : Meth K CH "counts" f_counts := ⟨a_counts, i_counts, k_counts⟩
  have F_now := fun_mk (st := sNow) l_now c_now k_now
  have b_now := F_now.binds (ps := ["self"]) fun _ _ _ _ _ _ us hl => match us, hl with | [_], _ => rfl
  have m_now : Meth K CH "best_now" f_now := ⟨a_now, i_now, k_now⟩
  have F_make := fun_mk (st := sMake) l_make c_make k_make
  have b_make := F_make.binds (ps := ["self", "number"]) fun _ _ _ _ _ _ us hl => match us, hl with | [_, _], _ => rfl
  have m_make : Meth K CH "make" f_make := ⟨a_make, i_make, k_make⟩
  have cl_CA : Cls K CA := ⟨pg_CA, hd_CA, po_CA, sa_CA⟩
  have cl_CG : Cls K CG := ⟨pg_CG, hd_CG, po_CG, sa_CG⟩
  have cl_CH : Cls K CH := ⟨pg_CH, hd_CH, po_CH, sa_CH⟩
  have N_BEGINS : NumC mg "BEGINS" 0 := ⟨_, PySem.W.mg_of X TT.g v_BEGINS, ⟨_, rfl⟩⟩
  have N_ACT : NumC mg "ACT" 1 := ⟨_, PySem.W.mg_of X TT.g v_ACT, ⟨_, rfl⟩⟩
  have N_AT : NumC mg "AT" 2 := ⟨_, PySem.W.mg_of X TT.g v_AT, ⟨_, rfl⟩⟩
  have N_VALUE : NumC mg "VALUE" 3 := ⟨_, PySem.W.mg_of X TT.g v_VALUE, ⟨_, rfl⟩⟩
  have N_BEST : NumC mg "BEST" 4 := ⟨_, PySem.W.mg_of X TT.g v_BEST, ⟨_, rfl⟩⟩
  have N_LINE : NumC mg "LINE" 5 := ⟨_, PySem.W.mg_of X TT.g v_LINE, ⟨_, rfl⟩⟩
  have N_MOVE : NumC mg "MOVE" 6 := ⟨_, PySem.W.mg_of X TT.g v_MOVE, ⟨_, rfl⟩⟩
  have N_ANSWER : NumC mg "ANSWER" 7 := ⟨_, PySem.W.mg_of X TT.g v_ANSWER, ⟨_, rfl⟩⟩
  have N_MOST_OF_LINE : NumC mg "MOST_OF_LINE" 40 := ⟨_, PySem.W.mg_of X TT.g v_MOST_OF_LINE, ⟨_, rfl⟩⟩
  have N_MOST_FACTS : NumC mg "MOST_FACTS" 4 := ⟨_, PySem.W.mg_of X TT.g v_MOST_FACTS, ⟨_, rfl⟩⟩
  have N_MOST_ACTS : NumC mg "MOST_ACTS" 10 := ⟨_, PySem.W.mg_of X TT.g v_MOST_ACTS, ⟨_, rfl⟩⟩
  have N_NUMBERS_OF_ACT : NumC mg "NUMBERS_OF_ACT" 5 := ⟨_, PySem.W.mg_of X TT.g v_NUMBERS_OF_ACT, ⟨_, rfl⟩⟩
  have N_WRONG : NumC mg "WRONG" (-1) := ⟨_, PySem.W.mg_of X TT.g v_WRONG, ⟨_, rfl⟩⟩
  have N_NO_MOVE : NumC mg "NO_MOVE" (-5) := ⟨_, PySem.W.mg_of X TT.g v_NO_MOVE, ⟨_, rfl⟩⟩
  have N_FULL : NumC mg "FULL" (-7) := ⟨_, PySem.W.mg_of X TT.g v_FULL, ⟨_, rfl⟩⟩
  have e := hfa.symm.trans (PySem.W.mg_of X TT.g a_answers)
  cases e
  have TA : TxtA K CA := ⟨cl_CA, na_CA_whose, na_CA_needs, na_CA_bars, na_CA_brings, na_CA_takes⟩
  have TG : TxtG K CG := ⟨cl_CG, na_CG_facts, na_CG_wants, na_CG_may_pass, na_CG_acts⟩
  have TH : TxtH K CH := ⟨cl_CH, na_CH_game, na_CH_state⟩
  have nob : ∀ x, PySem.W.nsIn K mainGlobals x = some none → mg x = none := fun x z => PySem.W.mg_none_of X TT.g z
  have TB : TxtB mg := ⟨nob _ z_len, nob _ z_range, nob _ z_any, nob _ z_all, nob _ z_min, nob _ z_max⟩
  have tb := PySem.W.tab_of TT X rec_ tab
  have hS : ∀ H : Hp, SqT K H sz sizesL := fun H => .inr ⟨szo, szi, szn, sz_l, sz_c, sz_d, by
    have q := congrArg List.length sz_v
    rw [List.length_map, List.length_map, Array.length_toList] at q
    rw [q]
    decide, vals_abs sz_v⟩
  refine ⟨PySem.W.fnOf "answers" "answers" (defArgs sAnswers) (defBody sAnswers) (defScope sAnswers) .none kV_answers dc_answers pm_answers an_answers cd_answers ct_answers, [(cdBest, tBest)], spAnswers K [(tBest, qLam)], ⟨fun p hp => ?_, fun p hp => ?_, fun p hp => ?_⟩, fun s us hu => match us, hu with | [_], _ => .of_eq rfl, fun H xs l hT len asked dw => ?_, fun base kb nsb hTB => ?_⟩
  · rw [List.mem_singleton.mp hp]; exact tb.1
  · rw [List.mem_singleton.mp hp]; exact tb.2
  · rw [List.mem_singleton.mp hp]; exact notab
  · cases dw with
    | cons d1 d2 =>
      cases d2
      cases d1 with
      | lst hs ha =>
        have e := ints_dw l _ ha
        subst e
        obtain ⟨cs, rd, ea⟩ := asked_reads asked
        refine ⟨_, l, cs, rfl, hs, len, fun p hp => ?_, rd, fun H' p hp => ?_⟩
        · rw [List.mem_singleton.mp hp]
          exact TabS.nil (hT (cdBest, tBest) List.mem_cons_self)
        · rw [ea]
          exact .lst (SqL.of hp) (dw_ints _)
  · have TT1 := hTB (cdBest, tBest) List.mem_cons_self
    have gl := fun {x : Str} {v : Value} (z : PySem.W.nsIn K mainGlobals x = some (some v)) => PySem.W.mg_of X TT.g z
    have StateOf : FnIs P w K mg base 1 "state_of" _ spStateOf f_stateOf _ := ⟨gl a_stateOf, k_stateOf, b_stateOf, ok_stateOf F_stateOf⟩
    have Count : FnIs P w K mg base 1 "count_of_states" _ (spCount K CA CG) f_count _ := ⟨gl a_count, k_count, b_count, ok_count F_count TG⟩
    have Are : FnIs P w K mg base 1 "are_facts" _ spAre f_are _ := ⟨gl a_are, k_are, b_are, ok_are F_are⟩
    have Winner : FnIs P w K mg base 1 "winner" _ (spWinner K CA CG) f_winner _ := ⟨gl a_winner, k_winner, b_winner, ok_winner F_winner TG⟩
    have May : FnIs P w K mg base 1 "may_be_done" _ (spMay CA) f_may _ := ⟨gl a_may, k_may, b_may, ok_may F_may TA⟩
    have Moves : FnIs P w K mg base 2 "moves_in" _ (spMoves K CA CG) f_moves _ := ⟨gl a_moves, k_moves, b_moves, ok_moves F_moves TG TB Winner May⟩
    have Behind : FnIs P w K mg base 2 "state_behind" _ (spBehind K CA CG) f_behind _ := ⟨gl a_behind, k_behind, b_behind, ok_behind F_behind TG TA TB StateOf⟩
    have States : FnIs P w K mg base 3 "states_behind" _ (spStates K CA CG) f_states _ := ⟨gl a_states, k_states, b_states, ok_states F_states Moves Behind⟩
    have IsF : FnIs P w K mg base 1 "is_forced" _ (spIsF K) f_isF _ := ⟨gl a_isF, k_isF, b_isF, ok_isF F_isF TB⟩
    have Forced : FnIs P w K mg base 4 "forced_by" _ (spForced K CA CG) f_forced _ := ⟨gl a_forced, k_forced, b_forced, ok_forced F_forced TB Count States Winner IsF⟩
    have Each : FnIs P w K mg base 5 "forced_by_each" _ (spEach K CA CG) f_each _ := ⟨gl a_each, k_each, b_each, ok_each F_each Forced⟩
    have Best : FnIs P w K mg base 5 "best_move" _ (spBest K CA CG [(tBest, qLam)]) f_best _ := ⟨gl a_best, k_best, b_best, ok_best F_best rfl TB TT1 List.mem_cons_self (fun p hp _ => by rw [List.mem_singleton.mp hp]) Moves Behind⟩
    have Line : FnIs P w K mg base 6 "best_line" _ (spLine K CA CG [(tBest, qLam)]) f_line _ := ⟨gl a_line, k_line, b_line, ok_line F_line TB Moves Each Best Behind⟩
    have Wish : FnIs P w K mg base 2 "is_wish" _ spWish f_wish _ := ⟨gl a_wish, k_wish, b_wish, ok_wish F_wish Are⟩
    have IsAct : FnIs P w K mg base 2 "is_act" _ (spIsAct K) f_isAct _ := ⟨gl a_isAct, k_isAct, b_isAct, ok_isAct F_isAct TB N_NUMBERS_OF_ACT Are⟩
    have MAct : MkIs P w K mg base 1 "Act" CA _ (spActI K CA) f_actI _ := ⟨⟨mk_CA, a_actI, i_actI, kc_CA⟩, gl n_CA, b_actI, ok_actI F_actI TA⟩
    have MGame : MkIs P w K mg base 1 "Game" CG _ (spGameI CG) f_gameI _ := ⟨⟨mk_CG, a_gameI, i_gameI, kc_CG⟩, gl n_CG, b_gameI, ok_gameI F_gameI TG⟩
    have MHouse : MkIs P w K mg base 3 "House" CH _ (spHouseI K CA CG CH [(tBest, qLam)]) f_houseI _ := ⟨⟨mk_CH, a_houseI, i_houseI, kc_CH⟩, gl n_CH, b_houseI, ok_houseI F_houseI TH nGH MGame StateOf⟩
    have GBegins := ok_begins (P := P) (w := w) (mg := mg) (base := base) (CA := CA) (T := [(tBest, qLam)]) F_begins TH nGH N_WRONG N_MOST_FACTS Wish MGame StateOf
    have GAct := ok_act (T := [(tBest, qLam)]) F_act TH TG TB N_WRONG N_FULL N_MOST_ACTS IsAct MAct
    have GAt := ok_at (T := [(tBest, qLam)]) F_at TH TG nGH nAH N_WRONG Are StateOf Winner
    have GValue := ok_value (T := [(tBest, qLam)]) F_value TH Forced
    have GNow := ok_now F_now TH Each Best
    have GBest := ok_bestM F_bestM TH TB N_NO_MOVE Moves m_now b_now GNow
    have GLine := ok_lineM F_lineM TH TB N_WRONG N_MOST_OF_LINE Line
    have GMake := ok_make (T := [(tBest, qLam)]) F_make TH nGH nAH Behind Winner
    have GMove := ok_moveM F_moveM TH N_NO_MOVE Moves m_make b_make GMake
    have GAnswer := ok_answerM F_answerM TH TB N_NO_MOVE Moves m_now b_now GNow m_make b_make GMake
    have GCounts := ok_counts (T := [(tBest, qLam)]) F_counts TH TB Forced Count
    have AnsOf : FnIs P w K mg base 8 "answer_of" _ (spAnsOf K CA CG CH [(tBest, qLam)]) f_ansOf _ := ⟨gl a_ansOf, k_ansOf, b_ansOf, ok_ansOf F_ansOf TH N_BEGINS ⟨m_begins, b_begins, GBegins⟩ N_ACT ⟨m_act, b_act, GAct⟩ N_AT ⟨m_at, b_at, GAt⟩ N_VALUE ⟨m_value, b_value, GValue⟩ N_BEST ⟨m_bestM, b_bestM, GBest⟩ N_LINE ⟨m_lineM, b_lineM, GLine⟩ N_MOVE ⟨m_moveM, b_moveM, GMove⟩ N_ANSWER ⟨m_answerM, b_answerM, GAnswer⟩ ⟨m_counts, b_counts, GCounts⟩⟩
    exact ok_answers F_answers TB MHouse AnsOf (gl v_SIZES) hS N_ACT
theorem fin_of {w : World} {K : PySem.W.Frag} {mg : Str → Option Value} {h : Heap} {fa : Addr} (A : AllMk PySem.Challenge.rw_againstother_s01_answers.prog w K mg h fa) :
    ∃ (fd : FuncData) (cs : List (Addr × Addr)) (sp : Sp), AoEnd.TabsAt K cs h ∧ (∀ (s : Shared) (us : List Value), us.length = (["calls"] : List Str).length → BindsTo s fd ⟨us, []⟩ ((["calls"] : List Str).zip us)) ∧
      (∀ (H : Hp) (xs : List V) (a : Codec.denoteAll PySem.Challenge.rw_againstother_s01_answers.args), (∀ p ∈ cs, H p.2 = some (.tbl #[])) → Codec.withinAll PySem.Challenge.rw_againstother_s01_answers.args a = true → Codec.app PySem.Challenge.rw_againstother_s01_answers.args PySem.Challenge.rw_againstother_s01_answers.asked a = true → DwAll K H xs (Codec.encAll PySem.Challenge.rw_againstother_s01_answers.args a) →
        sp xs H (fun v H' => Dw K H' v (PySem.Challenge.rw_againstother_s01_answers.ret.enc (Codec.app PySem.Challenge.rw_againstother_s01_answers.args PySem.Challenge.rw_againstother_s01_answers.f a))) fun _ _ _ => False) ∧
      ∀ base : Heap, K.In base → base.Ns mainGlobals mg → (∀ p ∈ cs, TabB base mg p.1 p.2) → FnOk PySem.Challenge.rw_againstother_s01_answers.prog w K mg base CX0 9 fa fd ["calls"] sp := by
  obtain ⟨fd, cs, sp, h1, h2, h3, h4⟩ := A
  refine ⟨fd, cs, sp, h1, h2, fun H xs a hT hw ha hd => ?_, h4⟩
  have q : ((Codec.inLen 0 480 a.1 && a.1.all (Codec.inInt 0 4294967295)) && true) = true := hw
  rw [Bool.and_eq_true, Bool.and_eq_true] at q
  exact h3 H xs a.1 hT (Codec.inNat_iff.mp q.1.1).2 ha hd
end Ao
open PySem PySem.W PyProof.Rows
set_option maxRecDepth 100000 in
set_option maxHeartbeats 0 in
theorem PySem.Challenge.cw_againstother_s01_answers_holds : PySem.Challenge.rw_againstother_s01_answers.Holds := by
  w_on; k_headS; (case hw => exact ⟨[.list [.int 3]], by decide +kernel, by decide +kernel⟩)
  k_fillS
  refine AoEnd.walk_tabs (r := PySem.Challenge.rw_againstother_s01_answers) (k := 9) (ps := ["calls"]) (by decide +kernel) rfl ⟨rfl, by decide, by decide⟩ (fun w h Y => PySem.W.kIn_of Y) ?F
  intro w mg mb mean fa h Y KX TT hmg
  refine Ao.fin_of ?_
  refine' Ao.all_mk KX TT hmg ?a_stateOf ?l_stateOf ?c_stateOf ?k_stateOf ?a_count ?l_count ?c_count ?k_count ?a_are ?l_are ?c_are ?k_are ?a_winner ?l_winner ?c_winner ?k_winner ?a_may ?l_may ?c_may ?k_may ?a_moves ?l_moves ?c_moves ?k_moves ?a_behind ?l_behind ?c_behind ?k_behind ?a_states ?l_states ?c_states ?k_states ?a_isF ?l_isF ?c_isF ?k_isF ?a_forced ?l_forced ?c_forced ?k_forced ?a_each ?l_each ?c_each ?k_each ?a_best ?l_best ?c_best ?k_best ?a_line ?l_line ?c_line ?k_line ?a_wish ?l_wish ?c_wish ?k_wish ?a_isAct ?l_isAct ?c_isAct ?k_isAct ?a_ansOf ?l_ansOf ?c_ansOf ?k_ansOf ?a_answers ?l_answers ?c_answers ?k_answers ?n_CA ?n_CG ?n_CH ?a_actI ?i_actI ?l_actI ?c_actI ?k_actI ?a_gameI ?i_gameI ?l_gameI ?c_gameI ?k_gameI ?a_houseI ?i_houseI ?l_houseI ?c_houseI ?k_houseI ?a_begins ?i_begins ?l_begins ?c_begins ?k_begins ?a_act ?i_act ?l_act ?c_act ?k_act ?a_at ?i_at ?l_at ?c_at ?k_at ?a_value ?i_value ?l_value ?c_value ?k_value ?a_bestM ?i_bestM ?l_bestM ?c_bestM ?k_bestM ?a_lineM ?i_lineM ?l_lineM ?c_lineM ?k_lineM ?a_moveM ?i_moveM ?l_moveM ?c_moveM ?k_moveM ?a_answerM ?i_answerM ?l_answerM ?c_answerM ?k_answerM ?a_counts ?i_counts ?l_counts ?c_counts ?k_counts ?a_now ?i_now ?l_now ?c_now ?k_now ?a_make ?i_make ?l_make ?c_make ?k_make ?pg_CA ?hd_CA ?po_CA ?sa_CA ?mk_CA ?kc_CA ?na_CA_whose ?na_CA_needs ?na_CA_bars ?na_CA_brings ?na_CA_takes ?pg_CG ?hd_CG ?po_CG ?sa_CG ?mk_CG ?kc_CG ?na_CG_facts ?na_CG_wants ?na_CG_may_pass ?na_CG_acts ?pg_CH ?hd_CH ?po_CH ?sa_CH ?mk_CH ?kc_CH ?na_CH_game ?na_CH_state ?z_len ?z_range ?z_any ?z_all ?z_min ?z_max ?v_BEGINS ?v_ACT ?v_AT ?v_VALUE ?v_BEST ?v_LINE ?v_MOVE ?v_ANSWER ?v_MOST_OF_LINE ?v_MOST_FACTS ?v_MOST_ACTS ?v_NUMBERS_OF_ACT ?v_WRONG ?v_NO_MOVE ?v_FULL ?v_SIZES ?sz_l ?sz_c ?sz_d ?sz_v ?tab ?rec_ ?notab ?nGH ?nAH
  (case a_stateOf => k_is)
  (case l_stateOf => k_is)
  (case c_stateOf => k_is)
  (case k_stateOf => k_is)
  (case a_count => k_is)
  (case l_count => k_is)
  (case c_count => k_is)
  (case k_count => k_is)
  (case a_are => k_is)
  (case l_are => k_is)
  (case c_are => k_is)
  (case k_are => k_is)
  (case a_winner => k_is)
  (case l_winner => k_is)
  (case c_winner => k_is)
  (case k_winner => k_is)
  (case a_may => k_is)
  (case l_may => k_is)
  (case c_may => k_is)
  (case k_may => k_is)
  (case a_moves => k_is)
  (case l_moves => k_is)
  (case c_moves => k_is)
  (case k_moves => k_is)
  (case a_behind => k_is)
  (case l_behind => k_is)
  (case c_behind => k_is)
  (case k_behind => k_is)
  (case a_states => k_is)
  (case l_states => k_is)
  (case c_states => k_is)
  (case k_states => k_is)
  (case a_isF => k_is)
  (case l_isF => k_is)
  (case c_isF => k_is)
  (case k_isF => k_is)
  (case a_forced => k_is)
  (case l_forced => k_is)
  (case c_forced => k_is)
  (case k_forced => k_is)
  (case a_each => k_is)
  (case l_each => k_is)
  (case c_each => k_is)
  (case k_each => k_is)
  (case a_best => k_is)
  (case l_best => k_is)
  (case c_best => k_is)
  (case k_best => k_is)
  (case a_line => k_is)
  (case l_line => k_is)
  (case c_line => k_is)
  (case k_line => k_is)
  (case a_wish => k_is)
  (case l_wish => k_is)
  (case c_wish => k_is)
  (case k_wish => k_is)
  (case a_isAct => k_is)
  (case l_isAct => k_is)
  (case c_isAct => k_is)
  (case k_isAct => k_is)
  (case a_ansOf => k_is)
  (case l_ansOf => k_is)
  (case c_ansOf => k_is)
  (case k_ansOf => k_is)
  (case a_answers => k_is)
  (case l_answers => k_is)
  (case c_answers => k_is)
  (case k_answers => k_is)
  (case n_CA => k_is)
  (case n_CG => k_is)
  (case n_CH => k_is)
  (case a_actI => k_is)
  (case i_actI => k_is)
  (case l_actI => k_is)
  (case c_actI => k_is)
  (case k_actI => k_is)
  (case a_gameI => k_is)
  (case i_gameI => k_is)
  (case l_gameI => k_is)
  (case c_gameI => k_is)
  (case k_gameI => k_is)
  (case a_houseI => k_is)
  (case i_houseI => k_is)
  (case l_houseI => k_is)
  (case c_houseI => k_is)
  (case k_houseI => k_is)
  (case a_begins => k_is)
  (case i_begins => k_is)
  (case l_begins => k_is)
  (case c_begins => k_is)
  (case k_begins => k_is)
  (case a_act => k_is)
  (case i_act => k_is)
  (case l_act => k_is)
  (case c_act => k_is)
  (case k_act => k_is)
  (case a_at => k_is)
  (case i_at => k_is)
  (case l_at => k_is)
  (case c_at => k_is)
  (case k_at => k_is)
  (case a_value => k_is)
  (case i_value => k_is)
  (case l_value => k_is)
  (case c_value => k_is)
  (case k_value => k_is)
  (case a_bestM => k_is)
  (case i_bestM => k_is)
  (case l_bestM => k_is)
  (case c_bestM => k_is)
  (case k_bestM => k_is)
  (case a_lineM => k_is)
  (case i_lineM => k_is)
  (case l_lineM => k_is)
  (case c_lineM => k_is)
  (case k_lineM => k_is)
  (case a_moveM => k_is)
  (case i_moveM => k_is)
  (case l_moveM => k_is)
  (case c_moveM => k_is)
  (case k_moveM => k_is)
  (case a_answerM => k_is)
  (case i_answerM => k_is)
  (case l_answerM => k_is)
  (case c_answerM => k_is)
  (case k_answerM => k_is)
  (case a_counts => k_is)
  (case i_counts => k_is)
  (case l_counts => k_is)
  (case c_counts => k_is)
  (case k_counts => k_is)
  (case a_now => k_is)
  (case i_now => k_is)
  (case l_now => k_is)
  (case c_now => k_is)
  (case k_now => k_is)
  (case a_make => k_is)
  (case i_make => k_is)
  (case l_make => k_is)
  (case c_make => k_is)
  (case k_make => k_is)
  (case pg_CA => k_is)
  (case hd_CA => k_is)
  (case po_CA => k_is)
  (case sa_CA => k_is)
  (case mk_CA => k_is)
  (case kc_CA => k_is)
  (case na_CA_whose => k_is)
  (case na_CA_needs => k_is)
  (case na_CA_bars => k_is)
  (case na_CA_brings => k_is)
  (case na_CA_takes => k_is)
  (case pg_CG => k_is)
  (case hd_CG => k_is)
  (case po_CG => k_is)
  (case sa_CG => k_is)
  (case mk_CG => k_is)
  (case kc_CG => k_is)
  (case na_CG_facts => k_is)
  (case na_CG_wants => k_is)
  (case na_CG_may_pass => k_is)
  (case na_CG_acts => k_is)
  (case pg_CH => k_is)
  (case hd_CH => k_is)
  (case po_CH => k_is)
  (case sa_CH => k_is)
  (case mk_CH => k_is)
  (case kc_CH => k_is)
  (case na_CH_game => k_is)
  (case na_CH_state => k_is)
  (case z_len => k_is)
  (case z_range => k_is)
  (case z_any => k_is)
  (case z_all => k_is)
  (case z_min => k_is)
  (case z_max => k_is)
  (case v_BEGINS => k_is)
  (case v_ACT => k_is)
  (case v_AT => k_is)
  (case v_VALUE => k_is)
  (case v_BEST => k_is)
  (case v_LINE => k_is)
  (case v_MOVE => k_is)
  (case v_ANSWER => k_is)
  (case v_MOST_OF_LINE => k_is)
  (case v_MOST_FACTS => k_is)
  (case v_MOST_ACTS => k_is)
  (case v_NUMBERS_OF_ACT => k_is)
  (case v_WRONG => k_is)
  (case v_NO_MOVE => k_is)
  (case v_FULL => k_is)
  (case v_SIZES => k_is)
  (case sz_l => k_is)
  (case sz_c => exact rfl)
  (case sz_d => exact rfl)
  (case sz_v => exact rfl)
  (case tab => exact rfl)
  (case rec_ => exact rfl)
  (case notab => exact rfl)
  (case nGH => decide)
  (case nAH => decide)
