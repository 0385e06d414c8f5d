import PyProof.Rows.All
import Wide.All
import OpenK.AllK
import Wide.FinOn
import HandS.ForMost
import HandS.StrMore
import HandS.IsInst
import HandS.TupLe
import HandS.Evl
import HandS.Zip
import HandS.More
import HandS.Strs
import KE.GoesMore
import KE.GoesZip
import KE.GoesEnum
import HandS.Text
import HandS.ExcIs
import HandS.TryOnly
import HandS.ExcOwn
import HandS.WordsExc
import HandS.TupAny
import HandS.Deep
import PySem.Challenge.RW_narcissus_k02_heads_and_tails
set_option Elab.async false
set_option linter.all false
set_option maxRecDepth 100000
set_option maxHeartbeats 4000000
/-! Trees as signs. -/
namespace Nx
open PySem
inductive Tr where
  | leaf
  | node (l r : Tr)
  deriving DecidableEq
def Tr.sg : Tr → List Nat
  | .leaf => [48]
  | .node l r => 49 :: (l.sg ++ r.sg)
def Tr.pairs : Tr → Nat
  | .leaf => 0
  | .node l r => l.pairs + r.pairs + 1
def Tr.hd : Tr → Tr
  | .leaf => .leaf
  | .node l _ => l
def Tr.tl : Tr → Tr
  | .leaf => .leaf
  | .node _ r => r
def stS (l : List Nat) : Str := ⟨l.toArray⟩
def Tr.str (t : Tr) : Str := stS t.sg
theorem stS_list (l : List Nat) : (stS l).cps.toList = l := rfl
theorem stS_len (l : List Nat) : (stS l).length = l.length := by
  show l.toArray.size = l.length
  simp
theorem stS_of (x : Str) : stS x.cps.toList = x := by
  cases x
  rfl
theorem stS_inj {a b : List Nat} (h : stS a = stS b) : a = b := by
  have := congrArg (fun x : Str => x.cps.toList) h
  exact this
theorem stS_app (a b : List Nat) : stS a ++ stS b = stS (a ++ b) := by
  show (⟨a.toArray ++ b.toArray⟩ : Str) = ⟨(a ++ b).toArray⟩
  simp
theorem Tr.sg_len (t : Tr) : t.sg.length = 2 * t.pairs + 1 := by
  induction t with
  | leaf => rfl
  | node l r h1 h2 =>
    show (l.sg ++ r.sg).length + 1 = 2 * (l.pairs + r.pairs + 1) + 1
    rw [List.length_append, h1, h2]
    omega
def all01 (l : List Nat) : Prop := ∀ c ∈ l, c = 48 ∨ c = 49
theorem all01_append {a b : List Nat} : all01 (a ++ b) ↔ all01 a ∧ all01 b := by
  unfold all01
  constructor
  · intro h
    exact ⟨fun c hc => h c (List.mem_append.mpr (.inl hc)), fun c hc => h c (List.mem_append.mpr (.inr hc))⟩
  · rintro ⟨h1, h2⟩ c hc
    rcases List.mem_append.mp hc with h | h
    · exact h1 c h
    · exact h2 c h
theorem Tr.sg_01 (t : Tr) : all01 t.sg := by
  induction t with
  | leaf =>
    intro c hc
    simp [Tr.sg] at hc
    exact .inl hc
  | node l r h1 h2 =>
    intro c hc
    rcases List.mem_cons.mp hc with h | h
    · exact .inr h
    · exact (all01_append.mpr ⟨h1, h2⟩) c h
/-- how many signs the first w trees of a row take; beyond it one for each tree that lacks -/
def fin : Nat → List Nat → Nat
  | 0, _ => 0
  | w + 1, [] => w + 1
  | w + 1, c :: r => 1 + fin (if c = 49 then w + 2 else w) r
theorem fin_zero (l : List Nat) : fin 0 l = 0 := by
  cases l <;> rfl
theorem fin_nil (w : Nat) : fin w [] = w := by
  cases w <;> rfl
theorem fin_app : ∀ (a b : List Nat) (w : Nat), a.length ≤ w → fin w (a ++ b) = a.length + fin (w - a.length + 2 * a.count 49) b
  | [], b, w, _ => by simp
  | c :: a, b, 0, h => by simp at h
  | c :: a, b, w + 1, h => by
    have h1 : a.length ≤ w := by simpa using h
    show 1 + fin (if c = 49 then w + 2 else w) (a ++ b) = _
    by_cases e : c = 49
    · subst e
      rw [if_pos rfl, fin_app a b (w + 2) (by omega), List.count_cons_self, List.length_cons]
      rw [show w + 2 - a.length + 2 * a.count 49 = w + 1 - (a.length + 1) + 2 * (a.count 49 + 1) by omega]
      omega
    · rw [if_neg e, fin_app a b w h1, List.count_cons_of_ne (fun q => e q), List.length_cons]
      rw [show w - a.length + 2 * a.count 49 = w + 1 - (a.length + 1) + 2 * a.count 49 by omega]
      omega
theorem fin_short {a : List Nat} {w : Nat} (h : a.length ≤ w) : fin w a = w + 2 * a.count 49 := by
  have e := fin_app a [] w h
  rw [List.append_nil, fin_nil] at e
  omega
theorem fin_tree : ∀ (t : Tr) (r : List Nat) (w : Nat), fin (w + 1) (t.sg ++ r) = t.sg.length + fin w r
  | .leaf, r, w => by
    show 1 + fin (if 48 = 49 then w + 2 else w) r = 1 + fin w r
    rfl
  | .node a b, r, w => by
    show 1 + fin (if 49 = 49 then w + 2 else w) ((a.sg ++ b.sg) ++ r) = ((a.sg ++ b.sg).length + 1) + fin w r
    rw [if_pos rfl, List.append_assoc, fin_tree a _ (w + 1), fin_tree b r w, List.length_append]
    omega
theorem fin_one (t : Tr) (r : List Nat) : fin 1 (t.sg ++ r) = t.sg.length := by
  rw [fin_tree t r 0, fin_zero, Nat.add_zero]
theorem fin_pos {w : Nat} (h : 0 < w) : ∀ l : List Nat, 0 < fin w l := fun l => by
  cases w with
  | zero => omega
  | succ w =>
    cases l with
    | nil =>
      rw [fin_nil]
      omega
    | cons c r =>
      show 0 < 1 + _
      omega
theorem parse_of : ∀ (n : Nat) (l : List Nat) (w : Nat), l.length ≤ n → all01 l → fin (w + 1) l ≤ l.length → ∃ (t : Tr) (r : List Nat), l = t.sg ++ r
  | n, [], w, _, _, h => by
    rw [fin_nil] at h
    simp at h
  | 0, c :: l, w, hn, _, _ => by simp at hn
  | n + 1, c :: l, w, hn, ha, h => by
    have hl : l.length ≤ n := by simpa using hn
    have ha' : all01 l := fun d hd => ha d (List.mem_cons_of_mem _ hd)
    rcases ha c (List.mem_cons_self ..) with e | e
    · subst e
      exact ⟨.leaf, l, rfl⟩
    · subst e
      have h' : 1 + fin (w + 1 + 1) l ≤ l.length + 1 := h
      obtain ⟨t1, r1, e1⟩ := parse_of n l (w + 1) hl ha' (by omega)
      rw [e1, fin_tree t1 r1 (w + 1)] at h'
      have z : l.length = t1.sg.length + r1.length := by rw [e1, List.length_append]
      have h2 : fin (w + 1) r1 ≤ r1.length := by
        rw [List.length_append] at h'
        omega
      have h3 : all01 r1 := (all01_append.mp (e1 ▸ ha')).2
      obtain ⟨t2, r2, e2⟩ := parse_of n r1 w (by omega) h3 h2
      refine ⟨.node t1 t2, r2, ?_⟩
      show 49 :: l = 49 :: ((t1.sg ++ t2.sg) ++ r2)
      rw [e1, e2, List.append_assoc]
theorem isT_iff (l : List Nat) : (all01 l ∧ fin 1 l = l.length) ↔ ∃ t : Tr, l = t.sg := by
  constructor
  · rintro ⟨ha, h⟩
    obtain ⟨t, r, e⟩ := parse_of l.length l 0 (Nat.le_refl _) ha (by show fin 1 l ≤ l.length; omega)
    have e2 : fin 1 l = t.sg.length := by rw [e, fin_one]
    have e3 : l.length = t.sg.length + r.length := by rw [e, List.length_append]
    have e4 : r = [] := List.length_eq_zero_iff.mp (by omega)
    exact ⟨t, by rw [e, e4, List.append_nil]⟩
  · rintro ⟨t, rfl⟩
    refine ⟨t.sg_01, ?_⟩
    have := fin_one t []
    rw [List.append_nil] at this
    exact this
theorem Tr.count_1 (t : Tr) : t.sg.count 49 = t.pairs := by
  induction t with
  | leaf => rfl
  | node l r h1 h2 =>
    show (49 :: (l.sg ++ r.sg)).count 49 = l.pairs + r.pairs + 1
    rw [List.count_cons_self, List.count_append, h1, h2]
/-- l is a beginning of a tree in which m trees are still wanted -/
def Opn (l : List Nat) (m : Nat) : Prop := all01 l ∧ (∀ r, fin 1 (l ++ r) = l.length + fin m r) ∧ l.length + m = 2 * l.count 49 + 1
theorem Opn.nil : Opn [] 1 := ⟨fun _ h => (by cases h), fun r => (by show fin 1 r = 0 + fin 1 r; omega), rfl⟩
theorem Opn.one {l : List Nat} {m : Nat} (h : Opn l (m + 1)) : Opn (l ++ [49]) (m + 2) := by
  obtain ⟨h1, h2, h3⟩ := h
  refine ⟨all01_append.mpr ⟨h1, fun c hc => by simp at hc; exact .inr hc⟩, fun r => ?_, ?_⟩
  · rw [List.append_assoc, h2, List.length_append]
    show l.length + (1 + fin (if 49 = 49 then m + 2 else m) r) = l.length + 1 + fin (m + 2) r
    rw [if_pos rfl]
    omega
  · rw [List.length_append, List.count_append]
    show l.length + 1 + (m + 2) = 2 * (l.count 49 + 1) + 1
    omega
theorem Opn.zero {l : List Nat} {m : Nat} (h : Opn l (m + 1)) : Opn (l ++ [48]) m := by
  obtain ⟨h1, h2, h3⟩ := h
  refine ⟨all01_append.mpr ⟨h1, fun c hc => by simp at hc; exact .inl hc⟩, fun r => ?_, ?_⟩
  · rw [List.append_assoc, h2, List.length_append]
    show l.length + (1 + fin (if 48 = 49 then m + 2 else m) r) = l.length + 1 + fin m r
    rw [if_neg (by decide)]
    omega
  · rw [List.length_append, List.count_append]
    show l.length + 1 + m = 2 * (l.count 49 + 0) + 1
    omega
theorem Opn.done {l : List Nat} (h : Opn l 0) : ∃ t : Tr, l = t.sg := by
  obtain ⟨h1, h2, h3⟩ := h
  refine (isT_iff l).mp ⟨h1, ?_⟩
  have := h2 []
  rw [List.append_nil, fin_zero] at this
  exact this
def repL (n : Nat) (l : List Nat) : List Nat := (List.replicate n l).flatten
theorem repL_len (n : Nat) (l : List Nat) : (repL n l).length = n * l.length := by
  unfold repL
  induction n with
  | zero => simp
  | succ n ih =>
    rw [List.replicate_succ, List.flatten_cons, List.length_append, ih, Nat.succ_mul]
    omega
theorem leaf_or {t : Tr} : (t = .leaf ∧ t.hd = .leaf ∧ t.tl = .leaf) ∨ ∃ a b, t = .node a b := by
  cases t with
  | leaf => exact .inl ⟨rfl, rfl, rfl⟩
  | node a b => exact .inr ⟨a, b, rfl⟩
theorem node_hd (a b : Tr) : ((Tr.node a b).sg.drop 1).take (1 + fin 1 ((Tr.node a b).sg.drop 1) - 1) = a.sg := by
  show (a.sg ++ b.sg).take (1 + fin 1 (a.sg ++ b.sg) - 1) = a.sg
  rw [fin_one, Nat.add_sub_cancel_left, List.take_left']
  rfl
theorem node_tl (a b : Tr) : (Tr.node a b).sg.drop (1 + fin 1 ((Tr.node a b).sg.drop 1)) = b.sg := by
  show (49 :: (a.sg ++ b.sg)).drop (1 + fin 1 (a.sg ++ b.sg)) = b.sg
  rw [fin_one, Nat.add_comm, List.drop_succ_cons, List.drop_left']
  rfl
theorem node_fin (a b : Tr) : fin 1 ((Tr.node a b).sg.drop 1) ≤ ((Tr.node a b).sg.drop 1).length := by
  show fin 1 (a.sg ++ b.sg) ≤ (a.sg ++ b.sg).length
  rw [fin_one, List.length_append]
  omega
theorem node_ne (a b : Tr) : (Tr.node a b).str ≠ stS [48] := fun h => by
  have := (List.cons.inj (stS_inj h)).1
  omega
/-- the number n as a tree -/
def numT : Nat → Tr
  | 0 => .leaf
  | n + 1 => .node .leaf (numT n)
theorem numT_sg (n : Nat) : (numT n).sg = repL n [49, 48] ++ [48] := by
  induction n with
  | zero => rfl
  | succ n ih =>
    show 49 :: ([48] ++ (numT n).sg) = _
    unfold repL at ih ⊢
    rw [ih, List.replicate_succ, List.flatten_cons]
    rfl
theorem numT_len (n : Nat) : (numT n).sg.length = 2 * n + 1 := by
  rw [numT_sg, List.length_append, repL_len]
  show n * 2 + 1 = 2 * n + 1
  omega
/-- n pairs with the leaf as their heads, and t behind them -/
def numOn : Nat → Tr → Tr
  | 0, t => t
  | n + 1, t => .node .leaf (numOn n t)
theorem numOn_sg (n : Nat) (t : Tr) : (numOn n t).sg = repL n [49, 48] ++ t.sg := by
  induction n with
  | zero => rfl
  | succ n ih =>
    show 49 :: ([48] ++ (numOn n t).sg) = _
    unfold repL at ih ⊢
    rw [ih, List.replicate_succ, List.flatten_cons]
    rfl
theorem numOn_ne : ∀ (n k : Nat) (a b c : Tr), numOn n (.node (.node a b) c) ≠ numT k
  | 0, 0, _, _, _, h => by cases h
  | 0, k + 1, a, b, c, h => by
    have := (Tr.node.inj h).1
    cases this
  | n + 1, 0, _, _, _, h => by cases h
  | n + 1, k + 1, a, b, c, h => numOn_ne n k a b c (Tr.node.inj h).2
theorem numT_inj {a b : Nat} (h : numT a = numT b) : a = b := by
  have := congrArg (fun t : Tr => t.sg.length) h
  simp only [numT_len] at this
  omega
/-- the list of some trees -/
def lstT : List Tr → Tr
  | [] => .leaf
  | t :: r => .node t (lstT r)
def Tr.items : Tr → List Tr
  | .leaf => []
  | .node a b => a :: b.items
theorem items_lstT (ts : List Tr) : (lstT ts).items = ts := by
  induction ts with
  | nil => rfl
  | cons t r ih =>
    show t :: (lstT r).items = t :: r
    rw [ih]
theorem lstT_items (t : Tr) : lstT t.items = t := by
  induction t with
  | leaf => rfl
  | node a b _ ih =>
    show Tr.node a (lstT b.items) = .node a b
    rw [ih]
theorem lstT_sg (ts : List Tr) : (lstT ts).sg = (ts.map fun t => 49 :: t.sg).flatten ++ [48] := by
  induction ts with
  | nil => rfl
  | cons t r ih =>
    show 49 :: (t.sg ++ (lstT r).sg) = _
    rw [ih, List.map_cons, List.flatten_cons, List.append_assoc]
    rfl
theorem lstT_len (ts : List Tr) : (lstT ts).sg.length = ts.length + (ts.map fun t => t.sg.length).sum + 1 := by
  induction ts with
  | nil => rfl
  | cons t r ih =>
    show (t.sg ++ (lstT r).sg).length + 1 = _
    rw [List.length_append, ih, List.map_cons, List.sum_cons, List.length_cons]
    omega
theorem items_le (t : Tr) : t.items.length ≤ t.pairs := by
  induction t with
  | leaf => exact Nat.le_refl _
  | node a b _ ih =>
    show b.items.length + 1 ≤ a.pairs + b.pairs + 1
    omega
/-- nested in the heads -/
def chT : Nat → Tr
  | 0 => .leaf
  | n + 1 => .node (chT n) .leaf
theorem chT_sg (n : Nat) : (chT n).sg = List.replicate n 49 ++ List.replicate (n + 1) 48 := by
  induction n with
  | zero => rfl
  | succ n ih =>
    show 49 :: ((chT n).sg ++ [48]) = _
    rw [ih, List.replicate_succ, List.append_assoc, List.replicate_succ' (n := n + 1)]
    rfl
theorem repL_one (n c : Nat) : repL n [c] = List.replicate n c := by
  unfold repL
  induction n with
  | zero => rfl
  | succ n ih =>
    rw [List.replicate_succ, List.flatten_cons, ih, List.replicate_succ]
    rfl
/-- reading sign by sign: how many trees are wanted behind l, none where it can't go on -/
def scan : Nat → List Nat → Option Nat
  | m, [] => some m
  | m, c :: r => if m = 0 ∨ ¬ (c = 48 ∨ c = 49) then none else scan (if c = 48 then m - 1 else m + 1) r
theorem scan_iff : ∀ (l : List Nat) (m : Nat), scan m l = some 0 ↔ (all01 l ∧ fin m l = l.length)
  | [], m => by
    show some m = some 0 ↔ _
    rw [fin_nil]
    constructor
    · intro h
      exact ⟨fun c hc => (by cases hc), Option.some.inj h⟩
    · intro h
      rw [h.2]
      rfl
  | c :: r, m => by
    show (if m = 0 ∨ ¬ (c = 48 ∨ c = 49) then none else scan (if c = 48 then m - 1 else m + 1) r) = some 0 ↔ _
    by_cases hm : m = 0
    · rw [if_pos (.inl hm), hm, fin_zero]
      constructor
      · intro h
        cases h
      · intro h
        have := h.2
        simp at this
    · by_cases hc : c = 48 ∨ c = 49
      · rw [if_neg (by rintro (h | h); exact hm h; exact h hc), scan_iff r]
        obtain ⟨k, rfl⟩ : ∃ k, m = k + 1 := ⟨m - 1, by omega⟩
        have ha : all01 (c :: r) ↔ all01 r := by
          constructor
          · intro h d hd
            exact h d (List.mem_cons_of_mem _ hd)
          · intro h d hd
            rcases List.mem_cons.mp hd with e | e
            · rw [e]
              exact hc
            · exact h d e
        rw [ha]
        show _ ↔ all01 r ∧ 1 + fin (if c = 49 then k + 2 else k) r = r.length + 1
        rcases hc with e | e
        · subst e
          rw [if_pos rfl, if_neg (by decide), Nat.add_sub_cancel]
          constructor
          · intro h
            exact ⟨h.1, by omega⟩
          · intro h
            exact ⟨h.1, by omega⟩
        · subst e
          rw [if_neg (by decide), if_pos rfl]
          constructor
          · intro h
            exact ⟨h.1, by have := h.2; show 1 + fin (k + 1 + 1) r = r.length + 1; omega⟩
          · intro h
            exact ⟨h.1, by have : 1 + fin (k + 1 + 1) r = r.length + 1 := h.2; omega⟩
      · rw [if_pos (.inr hc)]
        constructor
        · intro h
          cases h
        · intro h
          exact absurd (h.1 c (List.mem_cons_self ..)) hc
theorem count_01 : ∀ l : List Nat, l.count 48 + l.count 49 = l.length ↔ all01 l
  | [] => by
    constructor
    · intro _ c hc
      cases hc
    · intro _
      rfl
  | c :: r => by
    have ih := count_01 r
    have h1 : r.count 48 + r.count 49 ≤ r.length := count_le r
    by_cases e : c = 48
    · subst e
      rw [List.count_cons_self, List.count_cons_of_ne (by decide), List.length_cons]
      constructor
      · intro h d hd
        rcases List.mem_cons.mp hd with z | z
        · exact .inl z
        · exact ih.mp (by omega) d z
      · intro h
        have := ih.mpr fun d hd => h d (List.mem_cons_of_mem _ hd)
        omega
    · by_cases e2 : c = 49
      · subst e2
        rw [List.count_cons_self, List.count_cons_of_ne (by decide), List.length_cons]
        constructor
        · intro h d hd
          rcases List.mem_cons.mp hd with z | z
          · exact .inr z
          · exact ih.mp (by omega) d z
        · intro h
          have := ih.mpr fun d hd => h d (List.mem_cons_of_mem _ hd)
          omega
      · rw [List.count_cons_of_ne (fun z => e z), List.count_cons_of_ne (fun z => e2 z), List.length_cons]
        constructor
        · intro h
          omega
        · intro h
          rcases h c (List.mem_cons_self ..) with z | z
          · exact absurd z e
          · exact absurd z e2
where
  count_le : ∀ r : List Nat, r.count 48 + r.count 49 ≤ r.length
    | [] => Nat.le_refl _
    | c :: r => by
      have := count_le r
      by_cases e : c = 48
      · subst e
        rw [List.count_cons_self, List.count_cons_of_ne (by decide), List.length_cons]
        omega
      · by_cases e2 : c = 49
        · subst e2
          rw [List.count_cons_self, List.count_cons_of_ne (by decide), List.length_cons]
          omega
        · rw [List.count_cons_of_ne (fun z => e z), List.count_cons_of_ne (fun z => e2 z), List.length_cons]
          omega
/-- whether signs are those of a tree -/
def isT (l : List Nat) : Bool := (l.all fun c => c == 48 || c == 49) && (fin 1 l == l.length)
theorem all01_iff (l : List Nat) : (l.all fun c => c == 48 || c == 49) = true ↔ all01 l := by
  rw [List.all_eq_true]
  unfold all01
  constructor
  · intro h c hc
    have := h c hc
    simpa using this
  · intro h c hc
    have := h c hc
    simpa using this
theorem isT_true (l : List Nat) : isT l = true ↔ ∃ t : Tr, l = t.sg := by
  rw [← isT_iff]
  unfold isT
  rw [Bool.and_eq_true, all01_iff, beq_iff_eq]
theorem isT_scan (l : List Nat) : isT l = decide (scan 1 l = some 0) := by
  rw [Bool.eq_iff_iff, isT_true, decide_eq_true_eq, scan_iff, isT_iff]
theorem isT_sg (t : Tr) : isT t.sg = true := (isT_true _).mpr ⟨t, rfl⟩
theorem scan_none : ∀ (a b : List Nat) (m : Nat), scan m a = none → scan m (a ++ b) = none
  | [], b, m, h => by cases h
  | c :: a, b, m, h => by
    show (if m = 0 ∨ ¬ (c = 48 ∨ c = 49) then none else scan (if c = 48 then m - 1 else m + 1) (a ++ b)) = none
    have h' : (if m = 0 ∨ ¬ (c = 48 ∨ c = 49) then none else scan (if c = 48 then m - 1 else m + 1) a) = none := h
    by_cases hc : m = 0 ∨ ¬ (c = 48 ∨ c = 49)
    · rw [if_pos hc]
    · rw [if_neg hc] at h' ⊢
      exact scan_none a b _ h'
theorem scan_app : ∀ (a b : List Nat) (m k : Nat), scan m a = some k → scan m (a ++ b) = scan k b
  | [], b, m, k, h => by
    have : m = k := Option.some.inj h
    rw [this]
    rfl
  | c :: a, b, m, k, h => by
    show (if m = 0 ∨ ¬ (c = 48 ∨ c = 49) then none else scan (if c = 48 then m - 1 else m + 1) (a ++ b)) = _
    have h' : (if m = 0 ∨ ¬ (c = 48 ∨ c = 49) then none else scan (if c = 48 then m - 1 else m + 1) a) = some k := h
    by_cases hc : m = 0 ∨ ¬ (c = 48 ∨ c = 49)
    · rw [if_pos hc] at h'
      cases h'
    · rw [if_neg hc] at h' ⊢
      exact scan_app a b _ k h'
theorem sg_inj : ∀ {t u : Tr} {r s : List Nat}, t.sg ++ r = u.sg ++ s → t = u ∧ r = s
  | .leaf, .leaf, r, s, h => ⟨rfl, (List.cons.inj h).2⟩
  | .leaf, .node a b, r, s, h => by
    have := (List.cons.inj h).1
    omega
  | .node a b, .leaf, r, s, h => by
    have := (List.cons.inj h).1
    omega
  | .node a b, .node c d, r, s, h => by
    have h1 : (a.sg ++ b.sg) ++ r = (c.sg ++ d.sg) ++ s := (List.cons.inj h).2
    rw [List.append_assoc, List.append_assoc] at h1
    obtain ⟨e1, h2⟩ := sg_inj h1
    obtain ⟨e2, h3⟩ := sg_inj h2
    rw [e1, e2]
    exact ⟨rfl, h3⟩
theorem Tr.sg_inj {t u : Tr} (h : t.sg = u.sg) : t = u := by
  have := Nx.sg_inj (t := t) (u := u) (r := []) (s := []) (by rw [List.append_nil, List.append_nil]; exact h)
  exact this.1
theorem Tr.str_inj {t u : Tr} (h : t.str = u.str) : t = u := Tr.sg_inj (stS_inj h)
theorem Tr.str_len (t : Tr) : t.str.length = t.sg.length := stS_len _
end Nx

/-! Further rules, and what they say of signs. -/
namespace Nx
open PySem PySem.Spec PyProof.Rows L2 TL
theorem foldl_app {α : Type} : ∀ (ls : List (Array α)) (a : Array α), (ls.foldl (· ++ ·) a).toList = a.toList ++ (ls.map (·.toList)).flatten
  | [], a => by simp
  | x :: r, a => by
    rw [List.foldl_cons, foldl_app r (a ++ x)]
    simp
theorem mul_rep (x : Str) (n : Int) : Txt.mul x n = stS (repL n.toNat x.cps.toList) := by
  unfold Txt.mul repL
  by_cases h1 : n < 1
  · rw [if_pos h1, show n.toNat = 0 by omega]
    rfl
  · rw [if_neg h1]
    by_cases h2 : (n == 1 || x.length == 0) = true
    · rw [if_pos h2]
      have h3 : n = 1 ∨ x.length = 0 := by simpa using h2
      rcases h3 with h3 | h3
      · subst h3
        show x = stS (List.replicate 1 x.cps.toList).flatten
        rw [List.replicate_one, List.flatten_singleton, stS_of]
      · have h4 : x.cps.toList = [] := by
          have : x.cps.size = 0 := h3
          exact List.length_eq_zero_iff.mp (by rw [Array.length_toList]; exact this)
        rw [h4]
        have h5 : (List.replicate n.toNat ([] : List Nat)).flatten = [] := by simp
        rw [h5]
        have := stS_of x
        rw [h4] at this
        exact this.symm
    · rw [if_neg h2]
      have e : (⟨(List.replicate n.toNat x.cps).foldl (· ++ ·) #[]⟩ : Str) = stS ((List.replicate n.toNat x.cps).foldl (· ++ ·) #[]).toList := (stS_of _).symm
      rw [e, foldl_app, List.map_replicate]
      rfl
/-- a def that stands at a name and keeps a promise -/
structure Has (P : Program) (w : World) (K : PySem.W.Frag) (mg : Str → Option Value) (base : Heap) (CX : CXT) (k : Nat) (x : Str) (ps : List Str) (sp : Sp) : Prop where
  ex : ∃ f fd, FnOk P w K mg base CX k f fd ps sp ∧ mg x = some (.ref f) ∧ PySem.W.keepIn K (.ref f) = true ∧ Binds K fd ps []
section
variable {X : Cx}
/-- a test, an expression, with a word behind it: what follows is shown once, from the word -/
def tMid (t : TT) : TT := fun σ H Q => ∃ M : Bool → Hp → Prop, t σ H M ∧ ∀ b H', M b H' → Q b H'
def eMid (t : TE) : TE := fun σ H Q => ∃ M : V → Hp → Prop, t σ H M ∧ ∀ v H', M v H' → Q v H'
theorem pt_mid {e : Expr} {t : TT} (h : PT X e t) : PT X e (tMid t) := ⟨fun pins s σ H Q I ⟨M, hm, k⟩ => thn (h.run pins s σ H M I hm) fun b s1 ⟨H1, I1, q⟩ => ⟨H1, I1, k b H1 q⟩⟩
theorem pe_mid {e : Expr} {t : TE} (h : PE X e t) : PE X e (eMid t) := ⟨fun pins s σ H Q I ⟨M, hm, k⟩ => thn (h.run pins s σ H M I hm) fun u s1 ⟨v, H1, I1, r, q⟩ => ⟨v, H1, I1, r, k v H1 q⟩⟩
theorem op_mulS : OpR X (binaryOp .Mult) (fun x y H Q => ∃ (z : Str) (n : Int), x = .str z ∧ y = .int n ∧ -(2 ^ 62) ≤ n ∧ n < 2 ^ 62 ∧ z.length * n.toNat ≤ sizeLine ∧ Q (.str (stS (repL n.toNat z.cps.toList))) H) := by
  intro pins s σ H x y v u Q I rx ry h
  obtain ⟨z, n, rfl, rfl, h1, h2, hz, q⟩ := h
  obtain ⟨t, rfl⟩ := rx
  obtain ⟨t', rfl⟩ := ry
  rw [← mul_rep] at q
  refine PySem.SB.mul ⟨?_, ?_, ?_⟩ fun t' k => ⟨.str (Txt.mul z n), H, I.tok _, ⟨_, rfl⟩, q⟩
  · rw [decide_eq_false (by omega), decide_eq_false (by omega)]
    rfl
  · intro n1 n2 n3
    have h3 : 1 ≤ n := by omega
    have h4 : (n.toNat : Int) = n := by omega
    have h5 : ((z.length * n.toNat : Nat) : Int) ≤ (sizeLine : Int) := by exact_mod_cast hz
    rw [Int.natCast_mul, h4] at h5
    have h6 : (sizeLine : Int) ≤ 2 ^ 62 := by decide
    have h7 : (z.length : Int) * n ≤ 2 ^ 63 - 1 := by omega
    have h8 : (z.length : Int) ≤ (2 ^ 63 - 1) / n := (Int.le_ediv_iff_mul_le (by omega)).mpr h7
    omega
  · intro _ _
    show decide (z.length * n.toNat > sizeLine) = false
    exact decide_eq_false (by omega)
end
/-- a loop over a text's signs: what is done, what is left -/
theorem for_str {x : Str} {g : TG} {tb : TS} {D : Ends} {σ : L2.St} {H : Hp} (Pv : List Nat → List Nat → L2.St → Hp → Prop) (h0 : Pv [] x.cps.toList σ H)
    (hs : ∀ a c r σ H, a ++ c :: r = x.cps.toList → Pv a (c :: r) σ H → g (.str (stS [c])) σ H fun σ2 H2 => tb { D with nx := Pv (a ++ [c]) r, ct := Pv (a ++ [c]) r, bk := D.nx } σ2 H2)
    (hd : ∀ σ H, Pv x.cps.toList [] σ H → D.nx σ H) :
    ∃ W : Nat → Nat → L2.St → Hp → Prop, (∃ m, W 0 m σ H) ∧ ∀ i m σ H, W i m σ H →
      ((Its x).stop i H ∧ D.nx σ H) ∨ ((Its x).go i H ∧ ∃ N : L2.St → Hp → Prop, (∀ σ' H', N σ' H' → ∃ m', m' < m ∧ W (i + 1) m' σ' H') ∧ ∀ v H', (Its x).yld i H v H' → g v σ H' fun σ2 H2 => tb { D with nx := N, ct := N, bk := D.nx } σ2 H2) := by
  have hz : x.cps.toList.length = x.cps.size := Array.length_toList
  refine ⟨fun i m σ H => m = x.cps.size - i ∧ i ≤ x.cps.size ∧ Pv (x.cps.toList.take i) (x.cps.toList.drop i) σ H, ⟨_, rfl, Nat.zero_le _, h0⟩, ?_⟩
  rintro i m σ H ⟨rfl, hi, p⟩
  by_cases hlt : i < x.cps.size
  · have hl : i < x.cps.toList.length := by omega
    have e1 := List.drop_eq_getElem_cons hl
    have e2 : x.cps.toList.take i ++ [x.cps.toList[i]] = x.cps.toList.take (i + 1) := by
      rw [List.take_add_one, List.getElem?_eq_getElem hl]
      rfl
    refine .inr ⟨hlt, Pv (x.cps.toList.take (i + 1)) (x.cps.toList.drop (i + 1)), fun σ' H' p' => ⟨x.cps.size - (i + 1), by omega, rfl, hlt, p'⟩, fun v H' y => ?_⟩
    obtain ⟨e, c, hc, y⟩ := y
    have ec : c = x.cps.toList[i] := by
      have : x.cps[i]? = some x.cps.toList[i] := by
        rw [← Array.getElem?_toList]
        exact List.getElem?_eq_getElem hl
      rw [hc] at this
      exact Option.some.inj this
    subst e y
    rw [ec]
    rw [e1] at p
    have := hs (x.cps.toList.take i) x.cps.toList[i] (x.cps.toList.drop (i + 1)) σ _ (by rw [← e1, List.take_append_drop]) p
    rw [e2] at this
    exact this
  · have e : i = x.cps.size := by omega
    subst e
    rw [← hz, List.take_length, List.drop_length] at p
    exact .inl ⟨Nat.le_refl _, hd σ H p⟩
/-! ### joined texts -/
theorem joinL_nil : ∀ ls : List (List Nat), joinL [] ls = ls.flatten
  | [] => rfl
  | [p] => by
    show p = p ++ []
    rw [List.append_nil]
  | p :: q :: r => by
    show p ++ ([] ++ joinL [] (q :: r)) = p ++ (q :: r).flatten
    rw [joinL_nil (q :: r), List.nil_append]
theorem join_none (xs : List Str) : Txt.join (Str.ofString "") xs = stS (xs.map fun x : Str => x.cps.toList).flatten := by
  rw [join_eq]
  have h := tl_join (Str.ofString "") xs
  rw [show tl (Str.ofString "") = [] by decide +kernel, joinL_nil] at h
  have e : Str.join (Str.ofString "") xs = stS (tl (Str.join (Str.ofString "") xs)) := (stS_of _).symm
  rw [e, h]
/-! ### comprehensions over a list whose elements change nothing known -/
theorem lc_map {K : PySem.W.Frag} {a : Addr} {xs : List V} {te : TE} {vs : List Nat} {j : Nat} {σ : L2.St} {H1 : Hp} {D : Addr} {Qd : Hp → Prop} (f : V → V) (hD : H1 D = none) (hs : SqL K H1 a xs) (hz : xs.length < sizeLine)
    (hw : ∀ x, wipe ((wipe σ vs).set j (some x)) vs = wipe σ vs) (he : ∀ x H', x ∈ xs → Same H1 H' → ∀ Q : VK, (∀ H2, Same H' H2 → Q (f x) H2) → te ((wipe σ vs).set j (some x)) H' Q)
    (hd : ∀ H', Same H1 H' → H' D = some (.lst (xs.map f)) → Qd H') :
    ∃ W : Nat → Nat → Hp → Prop, (∃ m, W 0 m (upd H1 D (.lst []))) ∧ ∀ i m H, W i m H →
      ((Itl K a).stop i H ∧ Qd H) ∨ ((Itl K a).go i H ∧ ∃ Nx : Hp → Prop, (∀ H', Nx H' → ∃ m', m' < m ∧ W (i + 1) m' H') ∧ ∀ x H', (Itl K a).yld i H x H' → (gName j) x (wipe σ vs) H' fun σ2 H2 => wipe σ2 vs = wipe σ vs ∧ tYes σ2 H2 fun b H3 =>
        if b = true then te σ2 H3 fun y H4 => ∃ acc, H4 D = some (.lst acc) ∧ acc.length < sizeLine ∧ Nx (upd H4 D (.lst (acc ++ [y]))) else Nx H3) := by
  have hu : ∀ {H' : Hp} {o : HO}, Same H1 H' → Same H1 (upd H' D o) := fun {H' o} e b x q => by
    rw [upd_ne (ne_of_none q hD)]
    exact e b x q
  refine lc_list (xs := xs) (fun i H' => Same H1 H' ∧ H' D = some (.lst ((xs.take i).map f))) ⟨hu (.refl _), upd_same⟩ (fun i H' _ p => p.1.seq hs) (fun i x H' hi p => ?_) (fun H' p => ?_)
  · refine ⟨hw x, ?_⟩
    simp only [tYes, ↓reduceIte]
    refine he x H' (List.mem_of_getElem? hi) p.1 _ fun H2 e2 => ⟨_, e2 _ _ p.2, ?_, hu (p.1.trans e2), ?_⟩
    · rw [List.length_map, List.length_take]
      omega
    · rw [upd_same, List.take_add_one, hi, List.map_append]
      rfl
  · have e := p.2
    rw [List.take_length] at e
    exact hd H' p.1 e
theorem lc_mapT {K : PySem.W.Frag} {a : Addr} {xs : List V} {te : TE} {vs : List Nat} {j : Nat} {σ : L2.St} {H1 : Hp} {D : Addr} {Qd : Hp → Prop} (f : V → V) (hD : H1 D = none) (hs : SqT K H1 a xs) (hst : ∀ H', Same H1 H' → SqT K H' a xs) (hz : xs.length < sizeLine)
    (hw : ∀ x, wipe ((wipe σ vs).set j (some x)) vs = wipe σ vs) (he : ∀ x H', x ∈ xs → Same H1 H' → ∀ Q : VK, (∀ H2, Same H' H2 → Q (f x) H2) → te ((wipe σ vs).set j (some x)) H' Q)
    (hd : ∀ H', Same H1 H' → H' D = some (.lst (xs.map f)) → Qd H') :
    ∃ W : Nat → Nat → Hp → Prop, (∃ m, W 0 m (upd H1 D (.lst []))) ∧ ∀ i m H, W i m H →
      ((Itt K a).stop i H ∧ Qd H) ∨ ((Itt K a).go i H ∧ ∃ Nx : Hp → Prop, (∀ H', Nx H' → ∃ m', m' < m ∧ W (i + 1) m' H') ∧ ∀ x H', (Itt K a).yld i H x H' → (gName j) x (wipe σ vs) H' fun σ2 H2 => wipe σ2 vs = wipe σ vs ∧ tYes σ2 H2 fun b H3 =>
        if b = true then te σ2 H3 fun y H4 => ∃ acc, H4 D = some (.lst acc) ∧ acc.length < sizeLine ∧ Nx (upd H4 D (.lst (acc ++ [y]))) else Nx H3) := by
  have hu : ∀ {H' : Hp} {o : HO}, Same H1 H' → Same H1 (upd H' D o) := fun {H' o} e b x q => by
    rw [upd_ne (ne_of_none q hD)]
    exact e b x q
  refine lc_tup (xs := xs) (fun i H' => Same H1 H' ∧ H' D = some (.lst ((xs.take i).map f))) ⟨hu (.refl _), upd_same⟩ (fun i H' _ p => hst _ p.1) (fun i x H' hi p => ?_) (fun H' p => ?_)
  · refine ⟨hw x, ?_⟩
    simp only [tYes, ↓reduceIte]
    refine he x H' (List.mem_of_getElem? hi) p.1 _ fun H2 e2 => ⟨_, e2 _ _ p.2, ?_, hu (p.1.trans e2), ?_⟩
    · rw [List.length_map, List.length_take]
      omega
    · rw [upd_same, List.take_add_one, hi, List.map_append]
      rfl
  · have e := p.2
    rw [List.take_length] at e
    exact hd H' p.1 e
/-! ### cuts -/
theorem cut_both (l : List Nat) (i j : Nat) : cutS (stS l) (some (i : Int)) (some (j : Int)) = stS ((l.drop i).take (j - i)) := by
  show stS ((l.drop (HT.sIx (stS l).length 0 (some (i : Int)))).take (HT.sIx (stS l).length (stS l).length (some (j : Int)) - HT.sIx (stS l).length 0 (some (i : Int)))) = _
  rw [HT.sIx_nat, HT.sIx_nat, stS_len]
  congr 1
  by_cases h1 : i ≤ l.length
  · rw [Nat.min_eq_left h1]
    by_cases h2 : j ≤ l.length
    · rw [Nat.min_eq_left h2]
    · rw [Nat.min_eq_right (by omega), List.take_of_length_le (by rw [List.length_drop]; omega), List.take_of_length_le (by rw [List.length_drop]; omega)]
  · rw [show min i l.length = l.length by omega, List.drop_eq_nil_of_le (Nat.le_refl _), List.drop_eq_nil_of_le (by omega), List.take_nil, List.take_nil]
theorem cut_to (l : List Nat) (j : Nat) : cutS (stS l) none (some (j : Int)) = stS (l.take j) := by
  show stS ((l.drop 0).take (HT.sIx (stS l).length (stS l).length (some (j : Int)) - 0)) = _
  rw [HT.sIx_nat, stS_len, List.drop_zero, Nat.sub_zero]
  congr 1
  by_cases h2 : j ≤ l.length
  · rw [Nat.min_eq_left h2]
  · rw [Nat.min_eq_right (by omega), List.take_of_length_le (Nat.le_refl _), List.take_of_length_le (by omega)]
theorem cut_from (l : List Nat) (i : Nat) : cutS (stS l) (some (i : Int)) none = stS (l.drop i) := by
  show stS ((l.drop (HT.sIx (stS l).length 0 (some (i : Int)))).take ((stS l).length - HT.sIx (stS l).length 0 (some (i : Int)))) = _
  rw [HT.sIx_nat, stS_len]
  congr 1
  by_cases h1 : i ≤ l.length
  · rw [Nat.min_eq_left h1, List.take_of_length_le (by rw [List.length_drop]; omega)]
  · rw [show min i l.length = l.length by omega, List.drop_eq_nil_of_le (Nat.le_refl _), List.drop_eq_nil_of_le (by omega), List.take_nil]
/-! ### signs counted -/
theorem occ_one (x : Str) (c hi lim : Nat) (hh : hi ≤ x.length) : ∀ (n a : Nat) (st : Array Nat × Nat), st.2 ≤ a → st.1.size + n ≤ lim → a + n = hi + 1 →
    (forIn (List.range' a n) st (StrLaws.occBody x ⟨#[c]⟩ hi lim)).run.fst.size = st.1.size + ((x.cps.toList.drop a).take (hi - a)).count c
  | 0, a, st, _, _, e => by
    have : hi - a = 0 := by omega
    rw [this]
    simp
  | n + 1, a, st, h1, h2, e => by
    rw [List.range'_succ, List.forIn_cons]
    unfold StrLaws.occBody
    by_cases ha : a < hi
    · have hx : a < x.cps.toList.length := by
        rw [Array.length_toList]
        show a < x.length
        omega
      have ed : (x.cps.toList.drop a).take (hi - a) = x.cps.toList[a] :: (x.cps.toList.drop (a + 1)).take (hi - (a + 1)) := by
        rw [List.drop_eq_getElem_cons hx, show hi - a = (hi - (a + 1)) + 1 by omega, List.take_succ_cons]
      have key := StrLaws.subAt_one x c a
      by_cases hc : x.cps.toList[a] = c
      · have h3 : (st.1.size < lim ∧ st.2 ≤ a) ∧ a + (⟨#[c]⟩ : Str).length ≤ hi := ⟨⟨by omega, h1⟩, by show a + 1 ≤ hi; omega⟩
        have h4 := (key.mpr (by rw [List.getElem?_eq_getElem hx, hc])).2
        rw [if_pos ⟨h3, h4⟩]
        have ih := occ_one x c hi lim hh n (a + 1) (st.1.push a, a + (⟨#[c]⟩ : Str).length) (Nat.le_refl _) (by rw [Array.size_push]; omega) (by omega)
        unfold StrLaws.occBody at ih
        refine Eq.trans ih ?_
        rw [Array.size_push, ed, hc, List.count_cons_self]
        omega
      · have h4 : ¬ (((st.1.size < lim ∧ st.2 ≤ a) ∧ a + (⟨#[c]⟩ : Str).length ≤ hi) ∧ Builtin.Str.subAt x ⟨#[c]⟩ a = true) := by
          rintro ⟨⟨_, z1⟩, z2⟩
          have := key.mp ⟨by omega, z2⟩
          rw [List.getElem?_eq_getElem hx] at this
          exact hc (Option.some.inj this)
        rw [if_neg h4]
        have ih := occ_one x c hi lim hh n (a + 1) (st.1, st.2) (by show st.2 ≤ a + 1; omega) (by show st.1.size + n ≤ lim; omega) (by omega)
        unfold StrLaws.occBody at ih
        refine Eq.trans ih ?_
        rw [ed, List.count_cons_of_ne (fun q => hc q)]
    · have h4 : ¬ (((st.1.size < lim ∧ st.2 ≤ a) ∧ a + (⟨#[c]⟩ : Str).length ≤ hi) ∧ Builtin.Str.subAt x ⟨#[c]⟩ a = true) := by
        rintro ⟨⟨_, z1⟩, _⟩
        have : a + 1 ≤ hi := z1
        omega
      rw [if_neg h4]
      have ih := occ_one x c hi lim hh n (a + 1) (st.1, st.2) (by show st.2 ≤ a + 1; omega) (by show st.1.size + n ≤ lim; omega) (by omega)
      unfold StrLaws.occBody at ih
      refine Eq.trans ih ?_
      rw [show hi - (a + 1) = 0 by omega, show hi - a = 0 by omega]
      simp
theorem count_one (x : Str) (c : Nat) : Txt.count x ⟨#[c]⟩ = (x.cps.toList.count c : Nat) := by
  show (((Builtin.Str.occurrences x ⟨#[c]⟩ 0 x.length (x.length + 1)).length : Nat) : Int) = _
  rw [StrLaws.occ_eq, Array.length_toList, occ_one x c x.length (x.length + 1) (Nat.le_refl _) (x.length + 1 - 0) 0 (#[], 0) (Nat.le_refl _) (by show 0 + (x.length + 1 - 0) ≤ _; omega) (by omega)]
  have : ((x.cps.toList.drop 0).take (x.length - 0)) = x.cps.toList := by
    rw [List.drop_zero]
    exact List.take_of_length_le (by rw [Array.length_toList]; exact Nat.le_refl _)
  rw [this]
  show ((0 + _ : Nat) : Int) = _
  rw [Nat.zero_add]
theorem count_in (x : Str) (c : Nat) (i j : Nat) (h : i ≤ j) : Txt.countIn x ⟨#[c]⟩ (i : Int) (j : Int) = (((x.cps.toList.drop i).take (j - i)).count c : Nat) := by
  show (((Builtin.Str.occurrences x ⟨#[c]⟩ (fromIndex x.length (i : Int)) (toIndexW x.length (j : Int)) (x.length + 1)).length : Nat) : Int) = _
  have e2 : toIndexW x.length (j : Int) = min j x.length := by
    unfold toIndexW
    rw [if_neg (by omega)]
    congr 1
  have e1 : fromIndex x.length (i : Int) = i := by
    unfold fromIndex
    rw [if_neg (by omega)]
    omega
  rw [e1, e2, StrLaws.occ_eq, Array.length_toList]
  have hl : x.cps.toList.length = x.length := Array.length_toList
  by_cases hi : i ≤ x.length
  · by_cases hj : i ≤ min j x.length
    · rw [occ_one x c (min j x.length) (x.length + 1) (Nat.min_le_right _ _) (min j x.length + 1 - i) i (#[], i) (Nat.le_refl _) (by show 0 + _ ≤ _; omega) (by omega)]
      have : (x.cps.toList.drop i).take (min j x.length - i) = (x.cps.toList.drop i).take (j - i) := by
        by_cases hjx : j ≤ x.length
        · rw [Nat.min_eq_left hjx]
        · rw [List.take_of_length_le (by rw [List.length_drop]; omega), List.take_of_length_le (by rw [List.length_drop]; omega)]
      rw [this]
      show ((0 + _ : Nat) : Int) = _
      rw [Nat.zero_add]
    · omega
  · have h0 : min j x.length + 1 - i = 0 := by omega
    rw [h0, List.drop_eq_nil_of_le (by omega)]
    simp
end Nx

/-! What the laws' own helpers leave: the row of drawn numbers at one address. -/
namespace Nx
open PySem PySem.Spec PyProof.Rows L2
section
variable {X : Cx}
theorem _root_.L2.Room.units2 {k : Nat} {A : Around} (r : Room k A) : A.units + 65 < cLine := by have := r.un; omega
/-- a block that is only asked where p holds -/
theorem pss_guard {p : Prop} {b : List Stmt} {t : TS} (h : p → PSs X b t) : PSs X b (fun D σ H => p ∧ t D σ H) := ⟨fun pins s σ H D I q => (h q.1).run pins s σ H D I q.2⟩
def rInDT (K : PySem.W.Frag) : R2 := fun x y H Q => ∃ d ds, Dp K H x d ∧ Dp K H y (.tuple ds) ∧ SeqAt.shaped d = true ∧ SeqAt.shaped (.tuple ds) = true ∧ Q (.bl (ds.any fun z => PyData.eqv z d)) H
theorem op_inDT (hu : X.A.units + 65 < cLine) : OpR X (compareOp .In) (rInDT X.K) := by
  intro pins s σ H x y v u Q I rx ry h
  obtain ⟨d, ds, hd, he, sd, se, q⟩ := h
  obtain ⟨as, r1⟩ := Dp.reads I d x v hd rx
  obtain ⟨bs, r2⟩ := Dp.reads I (.tuple ds) y u he ry
  exact SeqAt.in_tuple_reads r2 r1 (SeqAt.canLay_of_shaped se) (SeqAt.canLay_of_shaped sd) (room_in_shaped sd hu) ⟨.bl _, H, I, rfl, q⟩
end
/-- the program's own classes -/
inductive Cn where
  | NarcissusError | TooLarge | BadText | NoCode | Ended | OutOfSteps | TooWide | BadClaim | Machine | SHAPES | WORDS
/-- what the top says of an error's class -/
structure ExcK (K : PySem.W.Frag) (C : Addr) : Prop where
  x : PySem.W.excIn K C [.type "ValueError", .type "Exception", .type "BaseException", .type "object"] "ValueError.__new__" = true
  k : PySem.W.keepIn K (.ref C) = true
  b : PySem.W.subIn K (.ref C) (.type "BaseException") = some true
  t : PySem.W.typeIn K (.ref C) = some (.type "type")
  c : ExcC K C
/-- at st stands a row from which numbers are drawn -/
def Strm (H : Hp) (st : Addr) : Prop := ∃ (l : Addr) (ns : List Int) (c i m : Int), H st = some (.lst [.ref l, .int c, .int i, .int m]) ∧ H l = some (.lst (ns.map V.int)) ∧ 0 ≤ c ∧ 0 ≤ i ∧ 0 ≤ m ∧ m < 2147483647
/-- all that was tracked but what stands at st is as it was; st's first item too -/
structure ExS (st : Addr) (H H' : Hp) : Prop where
  k : ∀ a o, a ≠ st → H a = some o → H' a = some o
  hd : ∀ l r, H st = some (.lst (.ref l :: r)) → ∃ r', H' st = some (.lst (.ref l :: r'))
instance {st : Addr} {H H' : Hp} : CoeFun (ExS st H H') (fun _ => ∀ a o, a ≠ st → H a = some o → H' a = some o) := ⟨ExS.k⟩
theorem ExS.refl {st : Addr} {H : Hp} : ExS st H H := ⟨fun _ _ _ h => h, fun _ r h => ⟨r, h⟩⟩
theorem ExS.trans {st : Addr} {H H1 H2 : Hp} (a : ExS st H H1) (b : ExS st H1 H2) : ExS st H H2 := ⟨fun c o n h => b c o n (a c o n h), fun l r h => by
  obtain ⟨r', h'⟩ := a.hd l r h
  exact b.hd l r' h'⟩
theorem ExS.put {st l : Addr} {H : Hp} {r r' : List V} (hst : H st = some (.lst (.ref l :: r))) : ExS st H (upd H st (.lst (.ref l :: r'))) := ⟨fun a u n h => by
  rw [upd_ne n]
  exact h, fun l2 r2 h => by
  rw [hst] at h
  have : l = l2 := V.ref.inj (List.cons.inj (HO.lst.inj (Option.some.inj h))).1
  rw [← this]
  exact ⟨r', upd_same⟩⟩
theorem _root_.L2.Same.exs {st : Addr} {H H' : Hp} (h : Same H H') : ExS st H H' := ⟨fun a o _ e => h a o e, fun l r e => ⟨r, h _ _ e⟩⟩
theorem _root_.L2.Same.upd {H : Hp} {p : Addr} {o : HO} (h : H p = none) : Same H (upd H p o) := fun b x e => by
  rw [upd_ne (ne_of_none e h)]
  exact e
theorem _root_.L2.Same.strm {H H' : Hp} {st : Addr} (e : Same H H') (h : Strm H st) : Strm H' st := by
  obtain ⟨l, ns, c, i, m, h1, h2, h3⟩ := h
  exact ⟨l, ns, c, i, m, e _ _ h1, e _ _ h2, h3⟩
theorem _root_.L2.Same.seqT {K : PySem.W.Frag} {H H' : Hp} {a : Addr} {xs : List V} (e : Same H H') (h : SqT K H a xs) : SqT K H' a xs := by
  rcases h with (h | ⟨o, h⟩) | h
  · exact .inl (.inl (e _ _ h))
  · exact .inl (.inr ⟨o, e _ _ h⟩)
  · exact .inr h
theorem Strm.has {H : Hp} {st : Addr} (h : Strm H st) : H st ≠ none := by
  obtain ⟨l, ns, c, i, m, h1, _⟩ := h
  rw [h1]
  intro z
  cases z
theorem Strm.ne {H : Hp} {st p : Addr} (h : Strm H st) (hp : H p = none) : p ≠ st := fun z => h.has (by rw [← z]; exact hp)
theorem map_int {ns : List Int} {j : Nat} {v : V} (h : (ns.map V.int)[j]? = some v) : ∃ n, ns[j]? = some n ∧ v = .int n := by
  rw [List.getElem?_map] at h
  cases e : ns[j]? with
  | none =>
    rw [e] at h
    cases h
  | some n =>
    rw [e] at h
    exact ⟨n, rfl, (Option.some.inj h).symm⟩
def treeV : V → Bool
  | .str s => decide (s.length ≤ 200000) && isT s.cps.toList
  | _ => false
/-- a value that is a text, or surely is none -/
def StrOr (K : PySem.W.Frag) (H : Hp) (x : V) : Prop := (∃ s, x = .str s ∧ s.length ≤ sizeLine) ∨ ∃ t, TyX K H x t ∧ PySem.W.kitOne K t (.type "str") = some false ∧ ∀ s, x ≠ .str s
theorem treeV_no {x : V} (h : ∀ s, x ≠ .str s) : treeV x = false := by
  cases x with
  | str s => exact absurd rfl (h s)
  | _ => rfl
theorem treeV_sg (t : Tr) (h : t.sg.length ≤ 200000) : treeV (.str t.str) = true := by
  show (decide (t.str.length ≤ 200000) && isT t.sg) = true
  rw [t.str_len, decide_eq_true h, isT_sg]
  rfl
theorem _root_.L2.TyX.same {K : PySem.W.Frag} {H H' : Hp} {x : V} {t : Value} (h : TyX K H x t) (e : Same H H') : TyX K H' x t := by
  cases h with
  | base b =>
    cases b with
    | non => exact .base .non
    | bl y => exact .base (.bl y)
    | int i => exact .base (.int i)
    | str y => exact .base (.str y)
    | flt y => exact .base (.flt y)
    | lst ea => exact .base (.lst (e _ _ ea))
    | frz ea => exact .base (.frz (e _ _ ea))
    | tup ea => exact .base (.tup (e _ _ ea))
    | dK ea => exact .base (.dK (e _ _ ea))
    | dT ea => exact .base (.dT (e _ _ ea))
    | ins ea cl ha hn htk hm => exact .base (.ins (e _ _ ea) cl ha hn htk hm)
  | byt b => exact .byt b
  | set ea => exact .set (e _ _ ea)
  | kList ea c => exact .kList ea c
  | kTuple ea c => exact .kTuple ea c
  | kDict ea c => exact .kDict ea c
  | fTuple ea => exact .fTuple (e _ _ ea)
  | fDict ea => exact .fDict (e _ _ ea)
theorem StrOr.same {K : PySem.W.Frag} {H H' : Hp} {x : V} (h : StrOr K H x) (e : Same H H') : StrOr K H' x := by
  rcases h with h | ⟨t, h1, h2⟩
  · exact .inl h
  · exact .inr ⟨t, h1.same e, h2⟩
def notTold (d : PyData) : Prop := SeqAt.shaped (.tuple [d]) = true ∧ PyData.eqv (.str "refused") d = false ∧ PyData.eqv (.str "large") d = false ∧ PyData.eqv (.str "wide") d = false
mutual
theorem Dp.same {K : PySem.W.Frag} {H H' : Hp} (e : Same H H') : ∀ {v : V} {d : PyData}, Dp K H v d → Dp K H' v d
  | _, _, .non => .non
  | _, _, .bl b => .bl b
  | _, _, .int i => .int i
  | _, _, .str x => .str x
  | _, _, .lst hs ha => .lst (e.seq hs) (DpAll.same e ha)
  | _, _, .tup hs ha => .tup (Same.seqT e hs) (DpAll.same e ha)
theorem DpAll.same {K : PySem.W.Frag} {H H' : Hp} (e : Same H H') : ∀ {vs : List V} {ds : List PyData}, DpAll K H vs ds → DpAll K H' vs ds
  | _, _, .nil => .nil
  | _, _, .cons h r => .cons (Dp.same e h) (DpAll.same e r)
end
theorem _root_.L2.Dp.same {K : PySem.W.Frag} {H H' : Hp} {v : V} {d : PyData} (h : Dp K H v d) (e : Same H H') : Dp K H' v d := Nx.Dp.same e h
theorem _root_.L2.DpAll.same {K : PySem.W.Frag} {H H' : Hp} {v : List V} {d : List PyData} (h : DpAll K H v d) (e : Same H H') : DpAll K H' v d := Nx.DpAll.same e h
/-- values that are texts of at most n signs -/
def strsB (n : Nat) (xs : List V) : Bool := xs.all fun v => match v with | .str z => decide (z.length ≤ n) | _ => false
theorem atI_some {α : Type} {xs : List α} {d : Nat} (h : d < xs.length) : ∃ v, atI xs (d : Int) = some v ∧ v ∈ xs := ⟨xs[d], atI_nat (List.getElem?_eq_getElem h), List.getElem_mem h⟩
/-- an item of a written list at an open place -/
theorem ixL_any {K : PySem.W.Frag} {H : Hp} {p : Addr} {xs : List V} {d : Nat} {Q : VK} (hp : H p = some (.lst xs)) (hd : d < xs.length) (q : ∀ v ∈ xs, Q v H) : rIxL K (.ref p) (.int d) H Q := by
  obtain ⟨v, h1, h2⟩ := atI_some hd
  exact ⟨p, xs, d, v, rfl, rfl, SqL.of hp, h1, q v h2⟩
theorem ixL_menu {K : PySem.W.Frag} {H : Hp} {p : Addr} {xs : List V} {d : Nat} {Q : VK} (n : Nat) (hp : H p = some (.lst xs)) (hs : strsB n xs = true) (hd : d < xs.length) (q : ∀ z : Str, z.length ≤ n → Q (.str z) H) : rIxL K (.ref p) (.int d) H Q := by
  refine ixL_any hp hd fun v hv => ?_
  have := List.all_eq_true.mp hs v hv
  cases v with
  | str z => exact q z (of_decide_eq_true this)
  | _ => cases this
theorem ixS_any {H : Hp} {z : Str} {d : Nat} {Q : VK} (n : Nat) (hz : z.length = n) (hn : n ≤ sizeLine) (hd : d < n) (q : ∀ c : Nat, Q (.str (stS [c])) H) : rIxS (.str z) (.int d) H Q := by
  have hl : z.cps.toList.length = z.length := Array.length_toList
  obtain ⟨c, h1, _⟩ := atI_some (xs := z.cps.toList) (d := d) (by omega)
  exact ⟨z, d, c, rfl, rfl, by omega, h1, q c⟩
theorem iteFb {b : Bool} {A B : Prop} (h : b = false) (g : B) : if b = true then A else B := by
  rw [h]
  exact iteF g
theorem iteTb {b : Bool} {A B : Prop} (h : b = true) (g : A) : if b = true then A else B := by
  rw [h]
  exact iteT g
theorem iteS {c A B : Prop} [Decidable c] (hc : c) (h : A) : if decide c = true then A else B := by
  rw [decide_eq_true hc]
  exact iteT h
theorem iteNo {c A B : Prop} [Decidable c] (hc : ¬ c) (h : B) : if decide c = true then A else B := by
  rw [decide_eq_false hc]
  exact iteF h
/-- the integer whose number a text is, or None -/
def valV (x : Str) : V := if x = (numT (x.length / 2)).str then .int ((x.length / 2 : Nat) : Int) else .non
theorem valV_num (n : Nat) : valV (numT n).str = .int n := by
  have h : (numT n).str.length / 2 = n := by
    rw [Tr.str_len, numT_len]
    omega
  unfold valV
  rw [h, if_pos rfl]
theorem valV_no {t : Tr} (h : ∀ k, t ≠ numT k) : valV t.str = .non := by
  unfold valV
  rw [if_neg fun z => h _ (Tr.str_inj z)]
theorem valV_or (t : Tr) : (∃ k, t = numT k ∧ valV t.str = .int k) ∨ ((∀ k, t ≠ numT k) ∧ valV t.str = .non) := by
  by_cases h : ∃ k, t = numT k
  · obtain ⟨k, rfl⟩ := h
    exact .inl ⟨k, rfl, valV_num k⟩
  · have h' : ∀ k, t ≠ numT k := fun k e => h ⟨k, e⟩
    exact .inr ⟨h', valV_no h'⟩
theorem s0 : (Str.ofString "0") = stS [48] := by decide +kernel
theorem s1 : (Str.ofString "1") = stS [49] := by decide +kernel
theorem strOk_01 {l : List Nat} (h : all01 l) : PyData.strOk (stS l) = true := by
  unfold PyData.strOk
  rw [Array.all_eq_true']
  intro c hc
  have hc' : c ∈ l := List.mem_toArray.mp hc
  rcases h c hc' with e | e
  · rw [e]
    decide
  · rw [e]
    decide
theorem shaped_01 {l : List Nat} (h : all01 l) : SeqAt.shaped (.str (stS l)) = true := by
  show (PyData.strOk (stS l) && decide (0 ≤ 64)) = true
  rw [strOk_01 h]
  rfl
theorem eqv_str (x : Str) : PyData.eqv (.str x) (.str x) = true := by
  show (x == x) = true
  exact beq_self_eq_true x
theorem cons_str (a b : Tr) : stS (49 :: (a.str.cps.toList ++ b.str.cps.toList)) = (Tr.node a b).str := rfl
theorem str_cons (a b : Tr) : Str.ofString "1" ++ a.str ++ b.str = (Tr.node a b).str := by
  rw [s1]
  show stS [49] ++ stS a.sg ++ stS b.sg = stS (49 :: (a.sg ++ b.sg))
  rw [stS_app, stS_app]
  rfl
/-- the text of a number as the laws write it -/
theorem num_str (n : Nat) : stS (repL n (Str.ofString "10").cps.toList) ++ Str.ofString "0" = (numT n).str := by
  rw [s0, stS_app, show (Str.ofString "10").cps.toList = [49, 48] by decide +kernel]
  show _ = stS _
  rw [numT_sg]
theorem len10 (n : Nat) : (stS (repL n (Str.ofString "10").cps.toList)).length = 2 * n := by
  rw [stS_len, repL_len, show (Str.ofString "10").cps.toList.length = 2 by decide +kernel]
  omega
theorem len1 (n : Nat) : (stS (repL n (Str.ofString "1").cps.toList)).length = n := by
  rw [stS_len, repL_len, show (Str.ofString "1").cps.toList.length = 1 by decide +kernel]
  omega
theorem len0 (n : Nat) : (stS (repL n (Str.ofString "0").cps.toList)).length = n := by
  rw [stS_len, repL_len, show (Str.ofString "0").cps.toList.length = 1 by decide +kernel]
  omega
theorem ch_str (n : Nat) : stS (repL n (Str.ofString "1").cps.toList) ++ stS (repL (n + 1) (Str.ofString "0").cps.toList) = (chT n).str := by
  rw [s0, s1, stS_app]
  show stS (repL n [49] ++ repL (n + 1) [48]) = stS _
  rw [chT_sg, repL_one, repL_one]
theorem chT_len (n : Nat) : (chT n).sg.length = 2 * n + 1 := by
  rw [chT_sg, List.length_append, List.length_replicate, List.length_replicate]
  omega
theorem in01 (c : Nat) : inV (.str (stS [c])) [.str "0", .str "1"] = decide (c = 48 ∨ c = 49) := by
  have h : ∀ d : Nat, eqV (.str (stS [d])) (.str (stS [c])) = decide (c = d) := fun d => by
    show (stS [d] == stS [c]) = _
    rw [Bool.eq_iff_iff, beq_iff_eq, decide_eq_true_eq]
    constructor
    · intro z
      exact (List.cons.inj (stS_inj z)).1.symm
    · intro z
      rw [z]
  show (eqV (.str "0") (.str (stS [c])) || (eqV (.str "1") (.str (stS [c])) || false)) = _
  rw [s0, s1, h, h, Bool.or_false, Bool.decide_or]
theorem sig01 (c : Nat) : decide (V.str (stS [c]) = V.str "0") = decide (c = 48) := by
  rw [s0, Bool.eq_iff_iff, decide_eq_true_eq, decide_eq_true_eq]
  constructor
  · intro z
    have := stS_inj (V.str.inj z)
    exact (List.cons.inj this).1
  · intro z
    rw [z]
/-- trees as values -/
def trV (ts : List Tr) : List V := ts.map fun t => V.str t.str
theorem trV_len (ts : List Tr) : (trV ts).length = ts.length := List.length_map _
theorem mem_trV {ts : List Tr} {x : V} (h : x ∈ trV ts) : ∃ t ∈ ts, x = .str t.str := by
  obtain ⟨t, h1, h2⟩ := List.mem_map.mp h
  exact ⟨t, h1, h2.symm⟩
theorem trV_of {P : Tr → Prop} : ∀ {ys : List V}, (∀ y ∈ ys, ∃ t : Tr, y = .str t.str ∧ P t) → ∃ ts : List Tr, ys = trV ts ∧ ∀ t ∈ ts, P t
  | [], _ => ⟨[], rfl, fun _ h => (by cases h)⟩
  | y :: ys, h => by
    obtain ⟨t, e, p⟩ := h y (List.mem_cons_self ..)
    obtain ⟨ts, e2, p2⟩ := trV_of (ys := ys) fun z hz => h z (List.mem_cons_of_mem _ hz)
    refine ⟨t :: ts, by rw [e, e2]; rfl, fun u hu => ?_⟩
    rcases List.mem_cons.mp hu with r | r
    · rw [r]
      exact p
    · exact p2 u r
theorem trV_inj : ∀ {a b : List Tr}, trV a = trV b → a = b
  | [], [], _ => rfl
  | [], y :: b, h => by cases h
  | x :: a, [], h => by cases h
  | x :: a, y :: b, h => by
    obtain ⟨h1, h2⟩ := List.cons.inj h
    rw [Tr.str_inj (V.str.inj h1), trV_inj h2]
/-- the same as data -/
def trD (ts : List Tr) : PyData := .list (ts.map fun t => .str t.str)
theorem trD_all {K : PySem.W.Frag} {H : Hp} : ∀ ts : List Tr, DpAll K H (trV ts) (ts.map fun t => .str t.str)
  | [] => .nil
  | t :: r => .cons (.str _) (trD_all r)
theorem trD_dp {K : PySem.W.Frag} {H : Hp} {a : Addr} {ts : List Tr} (h : SqL K H a (trV ts)) : Dp K H (.ref a) (trD ts) := .lst h (trD_all ts)
theorem trD_lay : ∀ ts : List Tr, PyData.canLayAll0 (ts.map fun t => PyData.str t.str) = true
  | [] => rfl
  | t :: r => by
    show (PyData.strOk t.str && PyData.canLayAll0 (r.map fun t => PyData.str t.str)) = true
    rw [show PyData.strOk t.str = true from strOk_01 t.sg_01, trD_lay r]
    rfl
theorem trD_deep : ∀ ts : List Tr, PyData.depthAll (ts.map fun t => PyData.str t.str) = 0
  | [] => rfl
  | t :: r => by
    show max 0 (PyData.depthAll (r.map fun t => PyData.str t.str)) = 0
    rw [trD_deep r]
    rfl
theorem trD_shaped (ts : List Tr) : SeqAt.shaped (trD ts) = true := by
  show (PyData.canLayAll0 (ts.map fun t => PyData.str t.str) && decide (PyData.depthAll (ts.map fun t => PyData.str t.str) + 1 ≤ 64)) = true
  rw [trD_lay, trD_deep]
  rfl
theorem eqv_same {d : PyData} (h : SeqAt.shaped d = true) : PyData.eqv d d = true := by
  unfold SeqAt.shaped at h
  rw [Bool.and_eq_true] at h
  exact SeqAt.eqv_refl d h.1
/-! ### the texts of lists of trees -/
def lenV : V → V
  | .str x => .int x.length
  | _ => .non
def oneV : V → V
  | .str x => .str (stS (49 :: x.cps.toList))
  | _ => .non
theorem oneV_map (ts : List Tr) : (trV ts).map oneV = (ts.map fun t => stS (49 :: t.sg)).map V.str := by
  unfold trV
  rw [List.map_map, List.map_map]
  rfl
theorem one_sum (ts : List Tr) : ((ts.map fun t => stS (49 :: t.sg)).map fun x : Str => x.length).sum + 1 = (lstT ts).sg.length := by
  rw [lstT_len, List.map_map]
  induction ts with
  | nil => rfl
  | cons t r ih =>
    rw [List.map_cons, List.sum_cons, List.map_cons, List.sum_cons, List.length_cons]
    have e : ((fun x : Str => x.length) ∘ fun t : Tr => stS (49 :: t.sg)) t = t.sg.length + 1 := by
      show (stS (49 :: t.sg)).length = _
      rw [stS_len]
      rfl
    rw [e]
    omega
theorem join_lst (ts : List Tr) : Txt.join (Str.ofString "") (ts.map fun t => stS (49 :: t.sg)) ++ Str.ofString "0" = (lstT ts).str := by
  rw [join_none]
  have e7 : ((ts.map fun t => stS (49 :: t.sg)).map fun x : Str => x.cps.toList) = ts.map fun t => 49 :: t.sg := by
    rw [List.map_map]
    rfl
  show _ = stS (lstT ts).sg
  rw [e7, lstT_sg, s0, stS_app]
theorem join_len (ts : List Tr) : (Txt.join (Str.ofString "") (ts.map fun t => stS (49 :: t.sg))).length + 1 = (lstT ts).sg.length := by
  have h := congrArg Str.length (join_lst ts)
  rw [Str.length_append, Tr.str_len] at h
  exact h
theorem one_te {σ : L2.St} {j : Nat} {t : Tr} {H : Hp} {Q : VK} (h : σ[j]? = some (some (.str t.str))) (hl : t.sg.length ≤ 1000000) (q : Q (oneV (.str t.str)) H) :
    tOp (fun x y H Q => ∃ i j, x = V.str i ∧ y = V.str j ∧ i.length + j.length ≤ sizeLine ∧ Q (V.str (i ++ j)) H) (tC (.str "1")) (tVar j) σ H Q := by
  have h2 := t.str_len
  have hz : sizeLine = 16777216 := rfl
  refine ⟨_, h, _, _, rfl, rfl, (by show 1 + t.str.length ≤ _; omega), ?_⟩
  rw [s1]
  show Q (V.str (stS [49] ++ stS t.sg)) H
  rw [stS_app]
  exact q
/-! ### a comprehension over a range whose elements draw -/
theorem Strm.off {H1 H' : Hp} {st D : Addr} {o : HO} (s1 : Strm H1 st) (hD : H1 D = none) (e : ExS st H1 H') (s : Strm H' st) : Strm (upd H' D o) st := by
  have nD : D ≠ st := s1.ne hD
  obtain ⟨l1, ns1, c1, i1, m1, g1, g2, g3⟩ := s1
  obtain ⟨l, ns, c, i, m, h1, h2, h3⟩ := s
  obtain ⟨r', hr⟩ := e.hd l1 _ g1
  rw [h1] at hr
  have hl : l = l1 := V.ref.inj (List.cons.inj (HO.lst.inj (Option.some.inj hr))).1
  have hlD : l ≠ D := by
    rw [hl]
    exact ne_of_none g2 hD
  exact ⟨l, ns, c, i, m, by rw [upd_ne nD.symm]; exact h1, by rw [upd_ne hlD]; exact h2, h3⟩
theorem ExS.off {H1 H' : Hp} {st D : Addr} {o : HO} (nD : D ≠ st) (hD : H1 D = none) (e : ExS st H1 H') : ExS st H1 (upd H' D o) := by
  refine ⟨fun b x nb q => ?_, fun l r h => ?_⟩
  · rw [upd_ne (ne_of_none q hD)]
    exact e b x nb q
  · rw [upd_ne nD.symm]
    exact e.hd l r h
theorem lc_draw {n : Nat} {te : TE} {vs : List Nat} {j : Nat} {σ : L2.St} {H1 : Hp} {D : Addr} {Qd : Hp → Prop} {st : Addr} (P : V → Prop) (hD : H1 D = none) (s1 : Strm H1 st) (hn : n < sizeLine)
    (hw : ∀ x, wipe ((wipe σ vs).set j (some x)) vs = wipe σ vs)
    (he : ∀ (i : Nat) H', i < n → ExS st H1 H' → Strm H' st → ∀ Q : VK, (∀ y H2, P y → ExS st H' H2 → Strm H2 st → Q y H2) → te ((wipe σ vs).set j (some (.int i))) H' Q)
    (hd : ∀ ys H', ys.length = n → (∀ y ∈ ys, P y) → ExS st H1 H' → Strm H' st → H' D = some (.lst ys) → Qd H') :
    ∃ W : Nat → Nat → Hp → Prop, (∃ m, W 0 m (upd H1 D (.lst []))) ∧ ∀ i m H, W i m H →
      ((Itr 0 n).stop i H ∧ Qd H) ∨ ((Itr 0 n).go i H ∧ ∃ Nx : Hp → Prop, (∀ H', Nx H' → ∃ m', m' < m ∧ W (i + 1) m' H') ∧ ∀ x H', (Itr 0 n).yld i H x H' → (gName j) x (wipe σ vs) H' fun σ2 H2 => wipe σ2 vs = wipe σ vs ∧ tYes σ2 H2 fun b H3 =>
        if b = true then te σ2 H3 fun y H4 => ∃ acc, H4 D = some (.lst acc) ∧ acc.length < sizeLine ∧ Nx (upd H4 D (.lst (acc ++ [y]))) else Nx H3) := by
  have nD : D ≠ st := s1.ne hD
  refine lc_range (lo := 0) (n := n) (fun i H' => ∃ ys : List V, ys.length = i ∧ (∀ y ∈ ys, P y) ∧ ExS st H1 H' ∧ Strm H' st ∧ H' D = some (.lst ys)) ⟨[], rfl, fun _ h => (by cases h), .off nD hD .refl, s1.off hD .refl s1, upd_same⟩ (fun i H' hi p => ?_) (fun H' p => ?_)
  · obtain ⟨ys, e1, e2, e3, e4, e5⟩ := p
    refine ⟨hw _, ?_⟩
    simp only [tYes, ↓reduceIte]
    have e0 : (0 : Int) + (i : Int) = (i : Int) := Int.zero_add _
    show te ((wipe σ vs).set j (some (.int ((0 : Int) + (i : Int))))) H' _
    rw [e0]
    refine he i H' hi e3 e4 _ fun y H2 hy ex st2 => ⟨ys, ex _ _ nD e5, by omega, ys ++ [y], by rw [List.length_append, e1]; rfl, fun z hz => ?_, .off nD hD (e3.trans ex), s1.off hD (e3.trans ex) st2, upd_same⟩
    rcases List.mem_append.mp hz with q | q
    · exact e2 z q
    · rw [List.mem_singleton.mp q]
      exact hy
  · obtain ⟨ys, e1, e2, e3, e4, e5⟩ := p
    exact hd ys H' e1 e2 e3 e4 e5
end Nx

/-! zip of a text and a tuple. -/
namespace Nx
open PySem PySem.Spec PyProof.Rows L2
/-- the signs of x beside the tuple at b, in new pairs -/
def ItzS (K : PySem.W.Frag) (x : Str) (b : Addr) : It :=
  ⟨fun i H => ∃ (ys : List V) (c : Nat) (y : V), SqT K H b ys ∧ x.cps[i]? = some c ∧ ys[i]? = some y,
    fun i H v H' => ∃ T c y, v = .ref T ∧ H T = none ∧ H' = upd H T (.tup [.str ⟨#[c]⟩, y]) ∧ x.cps[i]? = some c ∧ ∀ ys, SqT K H b ys → ys[i]? = some y,
    fun i H => ∃ ys : List V, SqT K H b ys ∧ i ≤ x.cps.size ∧ i ≤ ys.length ∧ (i = x.cps.size ∨ i = ys.length)⟩
theorem turn_zipS {P : Program} {w : World} {K : PySem.W.Frag} {elts : List Expr} {kk : Nat} {tpos : Pos} {x : Str} {t : Tok} {b z TI TO i1 i2 : Addr} (S : ZipSep2 z TI TO i1 i2 [i1] [i2, b]) (hb2 : b ≠ i2) :
    Turn P w K (.Tuple elts kk tpos) (ItzS K x b) [z, TI, TO, i1, i2] z (fun i h => IsZip h z TI TO .none ∧ IsTupOf2 h TI (.ref i1) (.ref i2) ∧ (∃ x y, IsTupOf2 h TO x y) ∧ h.IsStrIter i1 (strIterType x) x t i ∧ h.IsTupleIter i2 b i) where
  mem := by simp
  obj := fun i h st c hc => by
    obtain ⟨hz, hTI, ⟨x, y, hTO⟩, ⟨o1, e1, _, d1⟩, ⟨o2, e2, _, d2⟩⟩ := st
    have e' : c = z ∨ c = TI ∨ c = TO ∨ c = i1 ∨ c = i2 := by simpa using hc
    rcases e' with q | q | q | q | q
    · rw [q]; exact ⟨_, hz, fun v q => nomatch q⟩
    · rw [q]; exact ⟨_, hTI, fun v q => nomatch q⟩
    · rw [q]; exact ⟨_, hTO, fun v q => nomatch q⟩
    · rw [q]; exact ⟨o1, e1, fun v q => by rw [d1] at q; cases q⟩
    · rw [q]; exact ⟨o2, e2, fun v q => by rw [d2] at q; cases q⟩
  keep := fun i h h' st k => by
    obtain ⟨hz, hTI, ⟨x, y, hTO⟩, ⟨o1, e1, r1⟩, h2⟩ := st
    exact ⟨k z (by simp) _ hz, k TI (by simp) _ hTI, ⟨x, y, k TO (by simp) _ hTO⟩, ⟨o1, k i1 (by simp) o1 e1, r1⟩, h2.at fun o q => k i2 (by simp) o q⟩
  item := by
    intro X hP hw hK hc i pins s σ H E I hf st hg
    subst hP hw hK
    obtain ⟨hz, hTI, ⟨x0, y0, hTO⟩, h1, h2⟩ := st
    obtain ⟨ys, c, y, hqy, hx, hy⟩ := hg
    obtain ⟨its2, rv2, p2, _⟩ := I.tuple hqy
    obtain ⟨u2, hu2, ru2⟩ := rv2.get hy
    have hzl : z < s.heap.objs.size := Heap.lt_size hz
    have hh : X.A.in1.handled = none := I.ok.hd hc
    have hi1 : i < x.cps.size := by
      rcases Nat.lt_or_ge i x.cps.size with q | q
      · exact q
      · rw [Array.getElem?_eq_none q] at hx
        cases hx
    have hi2 : i < its2.toArray.size := by
      have := (List.getElem?_eq_some_iff.mp hu2).1
      simpa using this
    refine wpAny_pyNext_zipD2_item S (Draws.text hh i1 x t) (Draws.tuple hh i2 b hb2 its2.toArray) hz hTI hTO h1 ⟨h2, p2⟩ hi1 hi2 fun v1 v2 h' tk q1 q2 z' TO' h1' h2' hT hsz hk => ?_
    obtain ⟨c', t', hc', e1⟩ := q1
    have ec : c' = c := Option.some.inj (hc'.symm.trans hx)
    subst ec e1
    have e2 : v2 = u2 := by
      have z1 : its2.toArray[i]? = some v2 := q2
      have z2 : its2.toArray[i]? = some u2 := by simpa using hu2
      exact Option.some.inj (z1.symm.trans z2)
    subst e2
    refine ⟨_, rfl, wpAny_letOwnedTupleGo_zip (s := { s with heap := h', toks := tk }) z' fun h'' z'' sb => ?_⟩
    have hT2 : h''.get? s.heap.objs.size = some { cls := .type "tuple", data := .seq #[.str ⟨#[c']⟩ t', v2] } := (sb.2 _ (Nat.ne_of_gt hzl)).trans hT
    have new : ObjOk X.prog X.w (upd H s.heap.objs.size (.tup [.str ⟨#[c']⟩, y])) h'' s.heap.objs.size (.tup [.str ⟨#[c']⟩, y]) :=
      ⟨by show 2 ≤ sizeLine; decide, [.str ⟨#[c']⟩ t', v2], .cons ⟨_, rfl⟩ (.cons ru2 .nil), ⟨_, hT2, rfl, _, rfl⟩⟩
    have I1 : Inv X pins σ (upd H s.heap.objs.size (.tup [.str ⟨#[c']⟩, y])) { s with heap := h'', toks := tk } :=
      I.turnedNew (t' := tk) (ch := [z, TI, TO, i1, i2]) (fun c o hb q => (sb.2 c (fun q' => hb (by simp [q']))).trans (hk c o (fun q' => hb (by simp [q'])) (fun q' => hb (by simp [q'])) (fun q' => hb (by simp [q'])) (fun q' => hb (by simp [q'])) q)) hf (Nat.le_refl _) new
    refine ⟨.ref s.heap.objs.size, _, I1, rfl, ⟨_, c', y, rfl, I.hok.fresh (Nat.le_refl _), rfl, hx, fun l hl => by rw [I.tuple_inj hl hqy]; exact hy⟩, ⟨z'', ?_, ⟨.str ⟨#[c']⟩ t', v2, ?_⟩, ?_, ?_⟩, fun c hcm => ?_⟩
    · exact (sb.2 _ S.TIz).trans (hk _ _ S.TIz S.TITO S.TIi1 S.TIi2 hTI)
    · exact (sb.2 _ S.TOz).trans TO'
    · obtain ⟨o1, g1, r1⟩ := h1'
      exact ⟨o1, (sb.2 _ S.zi1.symm).trans g1, r1⟩
    · exact h2'.1.at fun o q => (sb.2 _ S.zi2.symm).trans q
    · have hlt : c < s.heap.objs.size := by
        have e' : c = z ∨ c = TI ∨ c = TO ∨ c = i1 ∨ c = i2 := by simpa using hcm
        rcases e' with q | q | q | q | q
        · rw [q]; exact hzl
        · rw [q]; exact Heap.lt_size hTI
        · rw [q]; exact Heap.lt_size hTO
        · rw [q]; obtain ⟨_, e1, _⟩ := h1; exact Heap.lt_size e1
        · rw [q]; obtain ⟨_, e2, _⟩ := h2; exact Heap.lt_size e2
      rw [upd_ne (Nat.ne_of_lt hlt)]
      exact (hf c hcm).1
  done := by
    intro X hP hw hK hc i pins s σ H E I hf st hg
    subst hP hw hK
    obtain ⟨hz, hTI, ⟨x0, y0, hTO⟩, h1, h2⟩ := st
    obtain ⟨ys, hqy, le1, le2, hend⟩ := hg
    obtain ⟨its2, rv2, p2, _⟩ := I.tuple hqy
    have l2 := rv2.length
    have hs2 : its2.toArray.size = ys.length := by simp [l2]
    have hh : X.A.in1.handled = none := I.ok.hd hc
    refine wpAny_pyNext_zipD2_end S (Draws.text hh i1 x t) (Draws.tuple hh i2 b hb2 its2.toArray) hz hTI hTO h1 ⟨h2, p2⟩ le1 (by omega) (by omega) fun h' tk hk => ⟨rfl, I.turnedL (t' := tk) (ch := [z, TI, TO, i1, i2]) (fun c o hb q =>
      hk c o (fun q' => hb (by simp [q'])) (fun q' => hb (by simp [q'])) (fun q' => hb (by simp [q'])) (fun q' => hb (by simp [q'])) q) hf⟩
  self := fun A i s Q E st h => wpAny_pyIter_zip st.1 h
def iZipS (K : PySem.W.Frag) (ta : TA) : TI := fun σ H R => ta σ H fun vs H1 => ∃ x b ys, vs = [.str x, .ref b] ∧ SqT K H1 b ys ∧ R (ItzS K x b) H1
theorem pi_zipS {X : Cx} {e e2 : Expr} {ta : TA} {p pos tpos : Pos} {elts : List Expr} {kk : Nat} (hg : Gl X "zip") (hm : X.mg "zip" = none) (ha : PA X [e, e2] ta)
    (hs : starEach [e, e2] X.env = (false, eval e X.env) :: starEach [e2] X.env := by rfl) (hpl : (backTo pos (starEach [e2] X.env)).any (·.1) = false := by rfl) :
    PI X (.Tuple elts kk tpos) (.Call (.Name "zip" p) [e, e2] [] pos) (iZipS X.K ta) := by
  refine ⟨fun pins s σ H R I h => ?_⟩
  refine Call_ (ld_blt I hg hm PyProof.Rows.boot_zip (PyProof.Rows.callWith_type1 (thn (ha.run pos pins s σ H _ I h) fun us s1 ⟨vs, H1, I1, r1, q1⟩ => ?_) hs hpl))
  obtain ⟨x, b, ys, ex, hqy, q⟩ := q1
  subst ex
  cases r1 with
  | cons r rr =>
    cases rr with
    | cons r' rr =>
      cases rr
      obtain ⟨t, rfl⟩ := r
      cases r'
      have fresh5 : ∀ c, c ∈ [s1.heap.objs.size + 4, s1.heap.objs.size + 2, s1.heap.objs.size + 3, s1.heap.objs.size, s1.heap.objs.size + 1] → FpOk X pins H1 c := fun c hcm => by
        have e' : c = s1.heap.objs.size + 4 ∨ c = s1.heap.objs.size + 2 ∨ c = s1.heap.objs.size + 3 ∨ c = s1.heap.objs.size ∨ c = s1.heap.objs.size + 1 := by simpa using hcm
        have hle : s1.heap.objs.size ≤ c := by
          rcases e' with z | z | z | z | z
          · rw [z]; exact Nat.le_add_right _ _
          · rw [z]; exact Nat.le_add_right _ _
          · rw [z]; exact Nat.le_add_right _ _
          · rw [z]; exact Nat.le_refl _
          · rw [z]; exact Nat.le_add_right _ _
        exact I1.fpOk hle (I1.hok.fresh hle)
      obtain ⟨its2, rv2, p2, _⟩ := I1.tuple hqy
      obtain ⟨o2, ho2, _⟩ := id p2
      have hb : b < s1.heap.objs.size := Heap.lt_size ho2
      refine zip_begins2 (begins_text x t) (begins_tuple b its2.toArray) True.intro p2 fun h' hz hTI hTO g1 g2 hsz hk => wpAny_pyIter_zip hz ?_
      have I2 : Inv X pins σ H1 { s1 with heap := h' } := I1.kept (t' := s1.toks) hk
      have S : ZipSep2 (s1.heap.objs.size + 4) (s1.heap.objs.size + 2) (s1.heap.objs.size + 3) s1.heap.objs.size (s1.heap.objs.size + 1) [s1.heap.objs.size] [s1.heap.objs.size + 1, b] :=
        zip_sep2 (fun _ z => (by cases z)) (fun c z => by rw [List.mem_singleton.mp z]; exact hb)
      exact ⟨s1.heap.objs.size + 4, [s1.heap.objs.size + 4, s1.heap.objs.size + 2, s1.heap.objs.size + 3, s1.heap.objs.size, s1.heap.objs.size + 1], _, _, H1, rfl, I2,
        turn_zipS (t := t) S (show b ≠ s1.heap.objs.size + 1 from Nat.ne_of_lt (Nat.lt_succ_of_lt hb)), ⟨hz, hTI, ⟨_, _, hTO⟩, ⟨_, g1, rfl, rfl⟩, ⟨_, g2, rfl, rfl⟩⟩, fresh5, q⟩
/-- a loop over zip of a text and a tuple of the same length -/
theorem for_zipS {K : PySem.W.Frag} {x : Str} {b : Addr} {ys : List V} {g : TG} {tb : TS} {D : Ends} {σ : L2.St} {H : Hp} (hl : x.cps.toList.length = ys.length) (Pv : Nat → L2.St → Hp → Prop) (h0 : Pv 0 σ H) (hq : ∀ i σ H, Pv i σ H → SqT K H b ys)
    (hs : ∀ i c y T σ H, x.cps.toList[i]? = some c → ys[i]? = some y → Pv i σ H → H T = none → g (.ref T) σ (upd H T (.tup [.str ⟨#[c]⟩, y])) fun σ2 H2 => tb { D with nx := Pv (i + 1), ct := Pv (i + 1), bk := D.nx } σ2 H2) (hd : ∀ σ H, Pv ys.length σ H → D.nx σ H) :
    ∃ W : Nat → Nat → L2.St → Hp → Prop, (∃ m, W 0 m σ H) ∧ ∀ i m σ H, W i m σ H →
      ((ItzS K x b).stop i H ∧ D.nx σ H) ∨ ((ItzS K x b).go i H ∧ ∃ N : L2.St → Hp → Prop, (∀ σ' H', N σ' H' → ∃ m', m' < m ∧ W (i + 1) m' σ' H') ∧ ∀ v H', (ItzS K x b).yld i H v H' → g v σ H' fun σ2 H2 => tb { D with nx := N, ct := N, bk := D.nx } σ2 H2) := by
  have hz : x.cps.toList.length = x.cps.size := Array.length_toList
  refine ⟨fun i m σ H => m = ys.length - i ∧ i ≤ ys.length ∧ Pv i σ H, ⟨_, rfl, Nat.zero_le _, h0⟩, ?_⟩
  rintro i m σ H ⟨rfl, hi, p⟩
  have q := hq i σ H p
  by_cases hlt : i < ys.length
  · have hc : x.cps[i]? = some (x.cps.toList[i]'(by omega)) := by
      rw [← Array.getElem?_toList]
      exact List.getElem?_eq_getElem _
    refine .inr ⟨⟨ys, _, ys[i], q, hc, List.getElem?_eq_getElem hlt⟩, Pv (i + 1), fun σ' H' p' => ⟨ys.length - (i + 1), by omega, rfl, hlt, p'⟩, fun v H' y => ?_⟩
    obtain ⟨T, c, y, rfl, hT, rfl, h1, h2⟩ := y
    refine hs i c y T σ H ?_ (h2 ys q) p hT
    rw [Array.getElem?_toList]
    exact h1
  · have e : i = ys.length := by omega
    subst e
    exact .inl ⟨⟨ys, q, by omega, Nat.le_refl _, .inr rfl⟩, hd σ H p⟩
/-- the same in a comprehension -/
theorem lc_zipS {K : PySem.W.Frag} {x : Str} {b : Addr} {ys : List V} {g : TG} {tt : TT} {te : TE} {vs : List Nat} {σ : L2.St} {H1 : Hp} {D : Addr} {Qd : Hp → Prop} (hl : x.cps.toList.length = ys.length) (Pv : Nat → Hp → Prop) (h0 : Pv 0 (upd H1 D (.lst []))) (hq : ∀ i H, Pv i H → SqT K H b ys)
    (hs : ∀ i c y T H, x.cps.toList[i]? = some c → ys[i]? = some y → Pv i H → H T = none → g (.ref T) (wipe σ vs) (upd H T (.tup [.str ⟨#[c]⟩, y])) fun σ2 H2 => wipe σ2 vs = wipe σ vs ∧ tt σ2 H2 fun b H3 =>
      if b = true then te σ2 H3 fun y H4 => ∃ acc, H4 D = some (.lst acc) ∧ acc.length < sizeLine ∧ Pv (i + 1) (upd H4 D (.lst (acc ++ [y]))) else Pv (i + 1) H3) (hd : ∀ H, Pv ys.length H → Qd H) :
    ∃ W : Nat → Nat → Hp → Prop, (∃ m, W 0 m (upd H1 D (.lst []))) ∧ ∀ i m H, W i m H →
      ((ItzS K x b).stop i H ∧ Qd H) ∨ ((ItzS K x b).go i H ∧ ∃ Nx : Hp → Prop, (∀ H', Nx H' → ∃ m', m' < m ∧ W (i + 1) m' H') ∧ ∀ v H', (ItzS K x b).yld i H v H' → g v (wipe σ vs) H' fun σ2 H2 => wipe σ2 vs = wipe σ vs ∧ tt σ2 H2 fun b H3 =>
        if b = true then te σ2 H3 fun y H4 => ∃ acc, H4 D = some (.lst acc) ∧ acc.length < sizeLine ∧ Nx (upd H4 D (.lst (acc ++ [y]))) else Nx H3) := by
  have hz : x.cps.toList.length = x.cps.size := Array.length_toList
  refine ⟨fun i m H => m = ys.length - i ∧ i ≤ ys.length ∧ Pv i H, ⟨_, rfl, Nat.zero_le _, h0⟩, ?_⟩
  rintro i m H ⟨rfl, hi, p⟩
  have q := hq i H p
  by_cases hlt : i < ys.length
  · have hc : x.cps[i]? = some (x.cps.toList[i]'(by omega)) := by
      rw [← Array.getElem?_toList]
      exact List.getElem?_eq_getElem _
    refine .inr ⟨⟨ys, _, ys[i], q, hc, List.getElem?_eq_getElem hlt⟩, Pv (i + 1), fun H' p' => ⟨ys.length - (i + 1), by omega, rfl, hlt, p'⟩, fun v H' y => ?_⟩
    obtain ⟨T, c, y, rfl, hT, rfl, h1, h2⟩ := y
    refine hs i c y T H ?_ (h2 ys q) p hT
    rw [Array.getElem?_toList]
    exact h1
  · have e : i = ys.length := by omega
    subst e
    exact .inl ⟨⟨ys, q, by omega, Nat.le_refl _, .inr rfl⟩, hd H p⟩
end Nx

/-! Programs as data, and where they stand. -/
namespace Nx
open PySem PySem.Spec PyProof.Rows L2
inductive Ins where
  | set (a : Nat) (t : Tr)
  | move (a b : Nat)
  | cons (a b c : Nat)
  | head (a b : Nat)
  | tail (a b : Nat)
  | jump (a : Nat) (n : Int)
  deriving DecidableEq
def Ins.word : Ins → Str
  | .set _ _ => "set"
  | .move _ _ => "move"
  | .cons _ _ _ => "cons"
  | .head _ _ => "head"
  | .tail _ _ => "tail"
  | .jump _ _ => "jump"
/-- the parts behind the word -/
def Ins.parts : Ins → List V
  | .set a t => [.int a, .str t.str]
  | .move a b => [.int a, .int b]
  | .cons a b c => [.int a, .int b, .int c]
  | .head a b => [.int a, .int b]
  | .tail a b => [.int a, .int b]
  | .jump a n => [.int a, .int n]
def Ins.vs (i : Ins) : List V := .str i.word :: i.parts
def Ins.dparts : Ins → List PyData
  | .set a t => [.int a, .str t.str]
  | .move a b => [.int a, .int b]
  | .cons a b c => [.int a, .int b, .int c]
  | .head a b => [.int a, .int b]
  | .tail a b => [.int a, .int b]
  | .jump a n => [.int a, .int n]
def Ins.data (i : Ins) : PyData := .tuple (.str i.word :: i.dparts)
/-- the registers that an instruction names -/
def Ins.regs : Ins → List Nat
  | .set a _ => [a]
  | .move a b => [a, b]
  | .cons a b c => [a, b, c]
  | .head a b => [a, b]
  | .tail a b => [a, b]
  | .jump a _ => [a]
/-- an instruction at i of a program of n: registers below w, trees of at most k pairs -/
def Ins.ok (w k i n : Nat) : Ins → Prop
  | .set a t => a < w ∧ t.pairs ≤ k
  | .move a b => a < w ∧ b < w
  | .cons a b c => a < w ∧ b < w ∧ c < w
  | .head a b => a < w ∧ b < w
  | .tail a b => a < w ∧ b < w
  | .jump a m => a < w ∧ 0 ≤ (i : Int) + m ∧ (i : Int) + m ≤ n
def PgOk (w k : Nat) (is : List Ins) : Prop := ∀ (i : Nat) (x : Ins), is[i]? = some x → x.ok w k i is.length
def progD (is : List Ins) : PyData := .list (is.map Ins.data)
abbrev Rows (H : Hp) : List Addr → List Ins → Prop := Paired fun a i => H a = some (.tup i.vs)
def PgAt (H : Hp) (p : Addr) (is : List Ins) : Prop := ∃ as : List Addr, H p = some (.lst (as.map V.ref)) ∧ Rows H as is
theorem Paired.imp {α β : Type} {F G : α → β → Prop} (h : ∀ a b, F a b → G a b) : ∀ {l : List α} {m : List β}, Paired F l m → Paired G l m
  | _, _, .nil => .nil
  | _, _, .cons r t => .cons (h _ _ r) (Paired.imp h t)
theorem Paired.get {α β : Type} {F : α → β → Prop} : ∀ {l : List α} {m : List β} {i : Nat} {b : β}, Paired F l m → m[i]? = some b → ∃ a, l[i]? = some a ∧ F a b
  | _, _, _, _, .nil, e => by simp at e
  | _, _, 0, _, .cons r _, e => by
    simp at e
    subst e
    exact ⟨_, rfl, r⟩
  | _, _, i + 1, b, .cons _ t, e => by
    obtain ⟨a, h1, h2⟩ := Paired.get (i := i) (b := b) t (by simpa using e)
    exact ⟨a, by simpa using h1, h2⟩
theorem Paired.len {α β : Type} {F : α → β → Prop} : ∀ {l : List α} {m : List β}, Paired F l m → l.length = m.length
  | _, _, .nil => rfl
  | _, _, .cons _ t => by rw [List.length_cons, List.length_cons, Paired.len t]
theorem Paired.app {α β : Type} {F : α → β → Prop} : ∀ {l l' : List α} {m m' : List β}, Paired F l m → Paired F l' m' → Paired F (l ++ l') (m ++ m')
  | _, _, _, _, .nil, s => s
  | _, _, _, _, .cons r t, s => .cons r (Paired.app t s)
theorem Rows.same {H H' : Hp} {as : List Addr} {is : List Ins} (e : Same H H') (h : Rows H as is) : Rows H' as is := Paired.imp (fun a i q => e a _ q) h
theorem Rows.exs {st : Addr} {H H' : Hp} {as : List Addr} {is : List Ins} (s : Strm H st) (e : ExS st H H') (h : Rows H as is) : Rows H' as is := Paired.imp (fun a i q => e a _ (fun z => by
  obtain ⟨l, ns, c, i, m, h1, _⟩ := s
  rw [z, h1] at q
  cases q) q) h
theorem PgAt.same {H H' : Hp} {p : Addr} {is : List Ins} (h : PgAt H p is) (e : Same H H') : PgAt H' p is := by
  obtain ⟨as, h1, h2⟩ := h
  exact ⟨as, e _ _ h1, Rows.same e h2⟩
theorem PgAt.exs {st : Addr} {H H' : Hp} {p : Addr} {is : List Ins} (h : PgAt H p is) (s : Strm H st) (n : p ≠ st) (e : ExS st H H') : PgAt H' p is := by
  obtain ⟨as, h1, h2⟩ := h
  exact ⟨as, e _ _ n h1, Rows.exs s e h2⟩
theorem PgAt.len {H : Hp} {p : Addr} {is : List Ins} (h : PgAt H p is) : ∃ xs, H p = some (.lst xs) ∧ xs.length = is.length := by
  obtain ⟨as, h1, h2⟩ := h
  exact ⟨_, h1, by rw [List.length_map, Paired.len h2]⟩
theorem PgAt.ne {H : Hp} {p q : Addr} {is : List Ins} (h : PgAt H p is) (n : H q = none) : q ≠ p := fun z => by
  obtain ⟨as, h1, _⟩ := h
  rw [← z, n] at h1
  cases h1
/-- an item of a program -/
theorem PgAt.get {H : Hp} {p : Addr} {is : List Ins} (h : PgAt H p is) : ∃ xs : List V, H p = some (.lst xs) ∧ xs.length = is.length ∧ ∀ (i : Nat) (x : Ins), is[i]? = some x → ∃ a : Addr, xs[i]? = some (V.ref a) ∧ H a = some (.tup x.vs) := by
  obtain ⟨as, h1, h2⟩ := h
  refine ⟨_, h1, by rw [List.length_map, Paired.len h2], fun i x hi => ?_⟩
  obtain ⟨a, e1, e2⟩ := Paired.get h2 hi
  exact ⟨a, by rw [List.getElem?_map, e1]; rfl, e2⟩
theorem Rows.push {H : Hp} {as : List Addr} {is : List Ins} {p T : Addr} {ys zs : List V} {i : Ins} (h : Rows H as is) (hp : H p = some (.lst ys)) (hT : H T = none) : Rows (upd (upd H T (.tup i.vs)) p (.lst zs)) (as ++ [T]) (is ++ [i]) := by
  have nT : p ≠ T := ne_of_none hp hT
  refine Paired.app (Paired.imp (fun a j q => ?_) h) (.cons ?_ .nil)
  · have na : a ≠ p := fun z => by
      rw [z, hp] at q
      cases q
    rw [upd_ne na, upd_ne (ne_of_none q hT)]
    exact q
  · rw [upd_ne nT.symm, upd_same]
/-! ### as data -/
theorem Ins.dp {K : PySem.W.Frag} {H : Hp} {a : Addr} {i : Ins} (h : H a = some (.tup i.vs)) : Dp K H (.ref a) i.data := by
  refine .tup (SqT.of h) (.cons (.str _) ?_)
  cases i with
  | set a t => exact .cons (.int _) (.cons (.str _) .nil)
  | move a b => exact .cons (.int _) (.cons (.int _) .nil)
  | cons a b c => exact .cons (.int _) (.cons (.int _) (.cons (.int _) .nil))
  | head a b => exact .cons (.int _) (.cons (.int _) .nil)
  | tail a b => exact .cons (.int _) (.cons (.int _) .nil)
  | jump a n => exact .cons (.int _) (.cons (.int _) .nil)
theorem rows_dp {K : PySem.W.Frag} {H : Hp} : ∀ {as : List Addr} {is : List Ins}, Rows H as is → DpAll K H (as.map V.ref) (is.map Ins.data)
  | _, _, .nil => .nil
  | _, _, .cons r t => .cons (Ins.dp r) (rows_dp t)
theorem PgAt.dp {K : PySem.W.Frag} {H : Hp} {p : Addr} {is : List Ins} (h : PgAt H p is) : Dp K H (.ref p) (progD is) := by
  obtain ⟨as, h1, h2⟩ := h
  exact .lst (SqL.of h1) (rows_dp h2)
theorem Ins.word_ok (i : Ins) : PyData.strOk i.word = true := by
  cases i with
  | set a t => exact (by decide +kernel : PyData.strOk (Str.ofString "set") = true)
  | move a b => exact (by decide +kernel : PyData.strOk (Str.ofString "move") = true)
  | cons a b c => exact (by decide +kernel : PyData.strOk (Str.ofString "cons") = true)
  | head a b => exact (by decide +kernel : PyData.strOk (Str.ofString "head") = true)
  | tail a b => exact (by decide +kernel : PyData.strOk (Str.ofString "tail") = true)
  | jump a n => exact (by decide +kernel : PyData.strOk (Str.ofString "jump") = true)
theorem Ins.lay (i : Ins) : i.data.canLay0 = true := by
  show (PyData.strOk i.word && PyData.canLayAll0 i.dparts) = true
  rw [i.word_ok]
  cases i with
  | set a t =>
    show (true && (true && (PyData.strOk t.str && true))) = true
    rw [show PyData.strOk t.str = true from strOk_01 t.sg_01]
    rfl
  | _ => rfl
theorem Ins.deep (i : Ins) : i.data.depth = 1 := by cases i <;> rfl
theorem prog_lay : ∀ is : List Ins, PyData.canLayAll0 (is.map Ins.data) = true
  | [] => rfl
  | i :: r => by
    show (i.data.canLay0 && PyData.canLayAll0 (r.map Ins.data)) = true
    rw [i.lay, prog_lay r]
    rfl
theorem prog_deep : ∀ is : List Ins, PyData.depthAll (is.map Ins.data) ≤ 1
  | [] => by decide
  | i :: r => by
    show max i.data.depth (PyData.depthAll (r.map Ins.data)) ≤ 1
    have := prog_deep r
    rw [i.deep]
    omega
theorem progD_shaped (is : List Ins) : SeqAt.shaped (progD is) = true := by
  show (PyData.canLayAll0 (is.map Ins.data) && decide (PyData.depthAll (is.map Ins.data) + 1 ≤ 64)) = true
  have := prog_deep is
  rw [prog_lay, decide_eq_true (by omega)]
  rfl
theorem Ins.shaped (i : Ins) : SeqAt.shaped i.data = true := by
  show (i.data.canLay0 && decide (i.data.depth ≤ 64)) = true
  rw [i.lay, i.deep]
  rfl
/-! ### a written dict from texts to texts -/
structure DLit (K : PySem.W.Frag) (w : World) (a : Addr) (l : List (Str × Str)) : Prop where
  kd : ∃ es n, KDict K w a es n
  get : ∀ z, (∃ x t, l.lookup z = some x ∧ PySem.W.nsIn K a z = some (some (.str x t))) ∨ (l.lookup z = none ∧ PySem.W.nsIn K a z = some none)
theorem Paired.cons' {e : DictEntry} {p : Str × Str} {es : List DictEntry} {l : List (Str × Str)} (h1 : ∃ t, e.key = .str p.1 t) (h2 : ∃ t, e.val = .str p.2 t)
    (r : Paired (fun (e : DictEntry) (p : Str × Str) => (∃ t, e.key = .str p.1 t) ∧ ∃ t, e.val = .str p.2 t) es l) : Paired (fun (e : DictEntry) (p : Str × Str) => (∃ t, e.key = .str p.1 t) ∧ ∃ t, e.val = .str p.2 t) (e :: es) (p :: l) := .cons ⟨h1, h2⟩ r
theorem dlit_find : ∀ {es : List DictEntry} {l : List (Str × Str)}, Paired (fun (e : DictEntry) (p : Str × Str) => (∃ t, e.key = .str p.1 t) ∧ ∃ t, e.val = .str p.2 t) es l → ∀ z : Str,
    (∃ e x t, es.find? (·.key.isStr z) = some e ∧ l.lookup z = some x ∧ e.val = .str x t) ∨ (es.find? (·.key.isStr z) = none ∧ l.lookup z = none ∧ es.any (·.refKey) = false)
  | _, _, .nil, z => .inr ⟨rfl, rfl, rfl⟩
  | e :: es, (k, v) :: l, .cons r t, z => by
    obtain ⟨⟨t1, h1⟩, ⟨t2, h2⟩⟩ := r
    have h1' : e.key = .str k t1 := h1
    have ek : e.key.isStr z = (k == z) := by
      rw [h1']
      rfl
    have el : List.lookup z ((k, v) :: l) = if (z == k) = true then some v else List.lookup z l := by
      rw [List.lookup_cons]
      cases z == k <;> rfl
    rw [el, List.find?_cons, ek]
    by_cases c : z = k
    · subst c
      rw [beq_self_eq_true, if_pos rfl]
      exact .inl ⟨e, v, t2, rfl, rfl, h2⟩
    · rw [beq_eq_false_iff_ne.mpr (fun q => c q.symm), beq_eq_false_iff_ne.mpr c, if_neg Bool.false_ne_true]
      rcases dlit_find t z with h | ⟨g1, g2, g3⟩
      · exact .inl h
      · refine .inr ⟨g1, g2, ?_⟩
        rw [List.any_cons, g3, Bool.or_false]
        unfold DictEntry.refKey
        rw [h1']
theorem dlit_mk {K : PySem.W.Frag} {w : World} {a : Addr} {es : Array DictEntry} {n : Nat} {l : List (Str × Str)} (h : K.lookup a = some ⟨.type "dict", none, .dict es n, #[]⟩) (hk : PySem.W.KeysLit w.params es.toList) (low : (a == sysModules) = false)
    (hp : Paired (fun (e : DictEntry) (p : Str × Str) => (∃ t, e.key = .str p.1 t) ∧ ∃ t, e.val = .str p.2 t) es.toList l) : DLit K w a l := by
  refine ⟨⟨es, n, h, hk, low⟩, fun z => ?_⟩
  have hn : PySem.W.nsIn K a z = (match es.toList.find? (·.key.isStr z) with
      | some e => some (some e.val)
      | none => if es.toList.any (·.refKey) then none else some none) := by
    unfold PySem.W.nsIn
    rw [h]
    rfl
  rw [hn]
  rcases dlit_find hp z with ⟨e, x, t, e1, e2, e3⟩ | ⟨e1, e2, e3⟩
  · rw [e1]
    exact .inl ⟨x, t, e2, by show some (some e.val) = _; rw [e3]⟩
  · rw [e1, e3]
    exact .inr ⟨e2, rfl⟩
theorem DLit.dct {K : PySem.W.Frag} {w : World} {a : Addr} {l : List (Str × Str)} (D : DLit K w a l) {z x : Str} (h : l.lookup z = some x) : KDct K w a z (.str x) := by
  obtain ⟨es, n, d1, d2, d3⟩ := D.kd
  rcases D.get z with ⟨x', t, e1, e2⟩ | ⟨e1, e2⟩
  · rw [h] at e1
    rw [← Option.some.inj e1] at e2
    exact ⟨es, n, _, d1, d2, e2, ⟨t, rfl⟩⟩
  · rw [h] at e1
    cases e1
/-! ### a program that is drawn -/
structure PInv (H2 : Hp) (st p : Addr) (wide many : Nat) (as : List Addr) (is : List Ins) (H' : Hp) : Prop where
  at_ : H' p = some (.lst (as.map V.ref))
  rows : Rows H' as is
  ok : ∀ (j : Nat) (x : Ins), is[j]? = some x → x.ok wide 3 j many
  ex : ExS st H2 H'
  sm : Strm H' st
theorem PInv.go {H2 H5 H6 : Hp} {st p : Addr} {wide many : Nat} {as : List Addr} {is : List Ins} (np : p ≠ st) (h : PInv H2 st p wide many as is H5) (e : ExS st H5 H6) (s : Strm H6 st) : PInv H2 st p wide many as is H6 :=
  ⟨e _ _ np h.at_, Rows.exs h.sm e h.rows, h.ok, h.ex.trans e, s⟩
theorem PInv.push {H2 H5 : Hp} {st p T : Addr} {wide many : Nat} {as : List Addr} {is : List Ins} {x : Ins} (hp : H2 p = none) (s2 : Strm H2 st) (h : PInv H2 st p wide many as is H5) (hx : x.ok wide 3 is.length many) (hT : H5 T = none) :
    PInv H2 st p wide many (as ++ [T]) (is ++ [x]) (upd (upd H5 T (.tup x.vs)) p (.lst (as.map V.ref ++ [.ref T]))) := by
  have np : p ≠ st := s2.ne hp
  have smT := Same.upd (o := .tup x.vs) hT
  have e1 : ExS st H2 (upd H5 T (.tup x.vs)) := h.ex.trans smT.exs
  refine ⟨?_, Rows.push h.rows h.at_ hT, fun j y hj => ?_, .off np hp e1, s2.off hp e1 (smT.strm h.sm)⟩
  · rw [upd_same, List.map_append]
    rfl
  · by_cases c : j < is.length
    · rw [List.getElem?_append_left c] at hj
      exact h.ok j y hj
    · have c2 : j = is.length := by
        have := (List.getElem?_eq_some_iff.mp hj).1
        rw [List.length_append] at this
        have h1 : ([x] : List Ins).length = 1 := rfl
        omega
      subst c2
      rw [List.getElem?_append_right (Nat.le_refl _), Nat.sub_self] at hj
      have : x = y := by simpa using hj
      rw [← this]
      exact hx
theorem PInv.done {H2 H' : Hp} {st p : Addr} {wide many : Nat} {as : List Addr} {is : List Ins} (h : PInv H2 st p wide many as is H') (hl : is.length = many) : PgAt H' p is ∧ PgOk wide 3 is :=
  ⟨⟨as, h.at_, h.rows⟩, fun i x hi => by
    rw [hl]
    exact h.ok i x hi⟩
theorem PInv.size {H2 H' : Hp} {st p : Addr} {wide many : Nat} {as : List Addr} {is : List Ins} (h : PInv H2 st p wide many as is H') : (as.map V.ref).length = is.length := by
  rw [List.length_map, Paired.len h.rows]
/-! ### what the parts of an instruction are -/
def Ins.shape : Ins → Str
  | .set _ _ => "rt"
  | .move _ _ => "rr"
  | .cons _ _ _ => "rrr"
  | .head _ _ => "rr"
  | .tail _ _ => "rr"
  | .jump _ _ => "rn"
def shapes : List (Str × Str) := [(("set" : Str), ("rt" : Str)), (("move" : Str), ("rr" : Str)), (("cons" : Str), ("rrr" : Str)), (("head" : Str), ("rr" : Str)), (("tail" : Str), ("rr" : Str)), (("jump" : Str), ("rn" : Str))]
theorem shapes_at (i : Ins) : shapes.lookup i.word = some i.shape := by
  cases i with
  | set a t => exact (by decide +kernel : shapes.lookup (Str.ofString "set") = some (Str.ofString "rt"))
  | move a b => exact (by decide +kernel : shapes.lookup (Str.ofString "move") = some (Str.ofString "rr"))
  | cons a b c => exact (by decide +kernel : shapes.lookup (Str.ofString "cons") = some (Str.ofString "rrr"))
  | head a b => exact (by decide +kernel : shapes.lookup (Str.ofString "head") = some (Str.ofString "rr"))
  | tail a b => exact (by decide +kernel : shapes.lookup (Str.ofString "tail") = some (Str.ofString "rr"))
  | jump a n => exact (by decide +kernel : shapes.lookup (Str.ofString "jump") = some (Str.ofString "rn"))
theorem s_rt : (Str.ofString "rt").cps.toList = [114, 116] := by decide +kernel
theorem s_rr : (Str.ofString "rr").cps.toList = [114, 114] := by decide +kernel
theorem s_rrr : (Str.ofString "rrr").cps.toList = [114, 114, 114] := by decide +kernel
theorem s_rn : (Str.ofString "rn").cps.toList = [114, 110] := by decide +kernel
/-- the kinds of the parts, as signs -/
def Ins.kinds : Ins → List Nat
  | .set _ _ => [114, 116]
  | .move _ _ => [114, 114]
  | .cons _ _ _ => [114, 114, 114]
  | .head _ _ => [114, 114]
  | .tail _ _ => [114, 114]
  | .jump _ _ => [114, 110]
theorem Ins.shape_kinds (i : Ins) : i.shape.cps.toList = i.kinds := by
  cases i with
  | set a t => exact s_rt
  | move a b => exact s_rr
  | cons a b c => exact s_rrr
  | head a b => exact s_rr
  | tail a b => exact s_rr
  | jump a n => exact s_rn
theorem Ins.kinds_len (i : Ins) : i.kinds.length = i.parts.length := by cases i <;> rfl
theorem Ins.part_is (i : Ins) {j c : Nat} {y : V} (h1 : i.kinds[j]? = some c) (h2 : i.parts[j]? = some y) : (∃ r, i.regs[j]? = some r ∧ c = 114 ∧ y = .int r) ∨ (i.regs.length ≤ j ∧ c ≠ 114) := by
  cases i <;> (match j, h1, h2 with
    | 0, h1, h2 => simp [Ins.kinds, Ins.parts] at h1 h2; subst h1 h2; exact .inl ⟨_, rfl, rfl, rfl⟩
    | 1, h1, h2 => simp [Ins.kinds, Ins.parts] at h1 h2; subst h1 h2; first | exact .inl ⟨_, rfl, rfl, rfl⟩ | exact .inr ⟨Nat.le_refl _, by decide⟩
    | 2, h1, h2 => simp [Ins.kinds, Ins.parts] at h1 h2 <;> (subst h1 h2; exact .inl ⟨_, rfl, rfl, rfl⟩)
    | j + 3, h1, h2 => simp [Ins.kinds, Ins.parts] at h1 h2)
/-- 1 more than the greatest register -/
def gst (g : Nat) (is : List Ins) : Nat := (is.flatMap Ins.regs).foldl max g
def wid (is : List Ins) : Nat := gst 0 is + 1
theorem gst_cons (g : Nat) (i : Ins) (r : List Ins) : gst g (i :: r) = gst (i.regs.foldl max g) r := by
  unfold gst
  rw [List.flatMap_cons, List.foldl_append]
theorem gst_take {is : List Ins} {k : Nat} {x : Ins} (g : Nat) (h : is[k]? = some x) : gst g (is.take (k + 1)) = x.regs.foldl max (gst g (is.take k)) := by
  unfold gst
  rw [List.take_add_one, h, List.flatMap_append, List.foldl_append]
  show List.foldl max _ (x.regs ++ []) = _
  rw [List.append_nil]
theorem rep_ref (n : Nat) (T : Addr) : (List.replicate n [V.ref T]).flatten = (List.replicate n T).map V.ref := by
  induction n with
  | zero => rfl
  | succ n ih =>
    rw [List.replicate_succ, List.flatten_cons, ih, List.replicate_succ, List.map_cons]
    rfl
theorem rows_rep {H : Hp} {T : Addr} {i : Ins} (h : H T = some (.tup i.vs)) : ∀ n : Nat, Rows H (List.replicate n T) (List.replicate n i)
  | 0 => .nil
  | n + 1 => by
    rw [List.replicate_succ, List.replicate_succ]
    exact .cons h (rows_rep h n)
theorem PgAt.nil {H : Hp} {p : Addr} (h : H p = some (.lst [])) : PgAt H p [] := ⟨[], h, .nil⟩
end Nx

namespace Nx
open PySem PySem.Spec PyProof.Rows L2
def topS (i : Nat) : Stmt := PySem.Challenge.pw_narcissus_k02_heads_and_tails.main.body.getD i (.Pass ⟨0, 0, 0, 0⟩)
/-- the top's built-ins and constants -/
structure Txt (K : PySem.W.Frag) (mg : Str → Option Value) (cl : Cn → Addr) (w : World) : Prop where
  m_list : mg "list" = none
  m_int : mg "int" = none
  m_abs : mg "abs" = none
  m_len : mg "len" = none
  m_isinstance : mg "isinstance" = none
  m_tuple : mg "tuple" = none
  m_ValueError : mg "ValueError" = none
  m_MOST_TREE : ∃ t, mg "MOST_TREE" = some (.int 200000 t)
  m_LEAF : ∃ t, mg "LEAF" = some (.str "0" t)
  e_NarcissusError : mg "NarcissusError" = some (.ref (cl .NarcissusError)) ∧ ExcK K (cl .NarcissusError)
  p_NarcissusError_NarcissusError : PySem.W.kitOne K (.ref (cl .NarcissusError)) (.ref (cl .NarcissusError)) = some true ∧ PySem.W.subIn K (.ref (cl .NarcissusError)) (.ref (cl .NarcissusError)) = some true
  p_NarcissusError_TooLarge : PySem.W.kitOne K (.ref (cl .NarcissusError)) (.ref (cl .TooLarge)) = some false ∧ PySem.W.subIn K (.ref (cl .NarcissusError)) (.ref (cl .TooLarge)) = some false
  q_NarcissusError : PySem.W.kitOne K (.ref (cl .NarcissusError)) (.type "ValueError") = some true
  e_TooLarge : mg "TooLarge" = some (.ref (cl .TooLarge)) ∧ ExcK K (cl .TooLarge)
  p_TooLarge_NarcissusError : PySem.W.kitOne K (.ref (cl .TooLarge)) (.ref (cl .NarcissusError)) = some true ∧ PySem.W.subIn K (.ref (cl .TooLarge)) (.ref (cl .NarcissusError)) = some true
  p_TooLarge_TooLarge : PySem.W.kitOne K (.ref (cl .TooLarge)) (.ref (cl .TooLarge)) = some true ∧ PySem.W.subIn K (.ref (cl .TooLarge)) (.ref (cl .TooLarge)) = some true
  q_TooLarge : PySem.W.kitOne K (.ref (cl .TooLarge)) (.type "ValueError") = some true
section
variable {P : Program} {w : World} {K : PySem.W.Frag} {mg : Str → Option Value} {base : Heap} {cl : Cn → Addr}
abbrev s_law_stream : Stmt := topS 11
abbrev nm_law_stream : List Str := ["script", "mixed", "cell"]
theorem sc_law_stream : FnScope nm_law_stream ["script"] (defScope s_law_stream) := ⟨rfl, rfl, rfl, by decide +kernel, rfl, by decide +kernel, by decide +kernel⟩
def sp_law_stream (K : PySem.W.Frag) (cl : Cn → Addr) : Sp := fun vs H Q _ => ∃ (a : Addr) (ns : List Int), vs = [.ref a] ∧ SqL K H a (ns.map V.int) ∧ ns.length ≤ 63 ∧ ∀ st H', Same H H' → H st = none → Strm H' st → Q (.ref st) H'
theorem ok_law_stream (T : Txt K mg cl w) {f : Addr} {fd : FuncData} (F : Fun K "_law_stream" "_law_stream" s_law_stream f fd) : FnOk P w K mg base CX0 1 f fd ["script"] (sp_law_stream K cl) := by
  have m_list := T.m_list
  have m_int := T.m_int
  refine F.ok sc_law_stream (fun vs H Q E h => ?_) (fun cdv A outer s H vs Q E hr h => ?_)
  · obtain ⟨x, i, rfl, _⟩ := h
    rfl
  · obtain ⟨a, ns, rfl, hS, hlen, q⟩ := h
    refine ⟨_, (pss_cons (ps_set (i := 1) sc_law_stream.nd rfl (Or.inl rfl) pe_int)
      (pss_cons (ps_for PassesOwn.never rfl (pi_list (pv 0)) (pg_name (i := 2) sc_law_stream.nd rfl (Or.inl rfl)) (pss_one (ps_set (i := 1) sc_law_stream.nd rfl (Or.inl rfl) (pe_op op_mod (pe_callTy call_int1 (by rfl) m_int (by decide +kernel) (pa_cons (pe_op op_add (pe_op op_add (pe_op op_mul (pv 1) pe_int) (pe_op op_mod (pe_callTy call_int1 (by rfl) m_int (by decide +kernel) (pa_cons (pv 2) pa_nil)) pe_int)) pe_int) pa_nil)) pe_int))))
      (pss_one (ps_ret (pe_lst (pa_cons (pe_callTy call_list_of (by rfl) m_list (by decide +kernel) (pa_cons (pv 0) pa_nil)) (pa_cons pe_int (pa_cons pe_int (pa_cons (pv 1) pa_nil))))))))), ?_⟩
    refine ⟨_, rfl, a, rfl, ⟨_, hS⟩, for_list (K := K) (a := a) (xs := ns.map V.int) (fun i σ H' => ∃ (m : Int) (v : Option V), σ = [some (.ref a), some (.int m), v] ∧ H = H' ∧ 0 ≤ m ∧ m < 2147483647)
      ⟨17, none, rfl, rfl, by decide, by decide⟩ (fun i σ H' _ ⟨_, _, _, e, _⟩ => e ▸ hS) ?_ ?_⟩
    · rintro i y σ H' hi ⟨m, v, rfl, rfl, h1, h2⟩
      obtain ⟨u, _, rfl⟩ := map_int hi
      refine ⟨_, rfl, _, _, rfl, rfl, .inl ⟨by omega, by omega⟩, _, rfl, .inl ⟨_, rfl, _, _, rfl, rfl, (by show (0 : Int) < 65521; omega), _, _, rfl, rfl, _, _, rfl, rfl, .inl ⟨_, rfl, _, _, rfl, rfl, (by show (0 : Int) < 2147483647; omega), ?_⟩⟩⟩
      exact ⟨_, _, rfl, rfl, Int.emod_nonneg _ (by decide), Int.emod_lt_of_pos _ (by decide)⟩
    · rintro σ H' ⟨m, v, rfl, rfl, h1, h2⟩
      refine ⟨_, rfl, _, _, rfl, .inl hS, fun p np => ⟨_, rfl, (by show 4 ≤ sizeLine; decide), fun st nst => ?_⟩⟩
      have n1 : p ≠ st := fun z => by
        rw [z, upd_same] at nst
        cases nst
      refine q st _ (fun b o e => ?_) ?_ ⟨p, ns, 0, 0, m, upd_same, ?_, by decide, by decide, h1, h2⟩
      · rw [upd_ne (fun z => ?_), upd_ne (ne_of_none e np)]
        · exact e
        · rw [z] at e
          rw [upd_ne n1.symm, e] at nst
          cases nst
      · rw [upd_ne n1.symm] at nst
        exact nst
      · rw [upd_ne n1, upd_same]
abbrev s_law_draw : Stmt := topS 12
abbrev nm_law_draw : List Str := ["stream", "many", "value"]
theorem sc_law_draw : FnScope nm_law_draw ["stream", "many"] (defScope s_law_draw) := ⟨rfl, rfl, rfl, by decide +kernel, rfl, by decide +kernel, by decide +kernel⟩
def sp_law_draw (K : PySem.W.Frag) (cl : Cn → Addr) : Sp := fun vs H Q _ => ∃ (st : Addr) (n : Int), vs = [.ref st, .int n] ∧ 0 < n ∧ n < 1073741824 ∧ Strm H st ∧ ∀ (k : Nat) H', (k : Int) < n → ExS st H H' → Strm H' st → Q (.int k) H'
theorem draw_go {st : Addr} {H : Hp} {n : Int} {Q : VK} (hn : 0 < n) (q : ∀ (k : Nat) H', (k : Int) < n → ExS st H H' → Strm H' st → Q (.int k) H') {H' : Hp} (x : Int) (e : ExS st H H') (s : Strm H' st) : Q (.int (x % n)) H' := by
  have h1 : 0 ≤ x % n := Int.emod_nonneg _ (by omega)
  have h2 := Int.emod_lt_of_pos x hn
  have := q (x % n).toNat H' (by omega) e s
  rw [show (((x % n).toNat : Nat) : Int) = x % n by omega] at this
  exact this
theorem ok_law_draw (T : Txt K mg cl w) {f : Addr} {fd : FuncData} (F : Fun K "_law_draw" "_law_draw" s_law_draw f fd) : FnOk P w K mg base CX0 1 f fd ["stream", "many"] (sp_law_draw K cl) := by
  have m_abs := T.m_abs
  have m_int := T.m_int
  have m_len := T.m_len
  refine F.ok sc_law_draw (fun vs H Q E h => ?_) (fun cdv A outer s H vs Q E hr h => ?_)
  · obtain ⟨x, i, rfl, _⟩ := h
    rfl
  · obtain ⟨st, n, rfl, hn, hn2, ⟨l, ns, c, i, m, hst, hl, c0, i0, m0, m1⟩, q⟩ := h
    have nl : l ≠ st := ne_of hl hst (fun z => by
      have := HO.lst.inj z
      cases ns with
      | nil => cases this
      | cons a r => cases (List.cons.inj this).1)
    have hL : SqL K H st [.ref l, .int c, .int i, .int m] := SqL.of hst
    refine ⟨_, (Evl.pss_cut (ps_if (PW.pt (pw_and (pt_cmpR op_eq (pe_ix ix_list (pv 0) pe_int (fun _ _ => rfl)) pe_int (nomark _)) (pw_and1 (pt_cmpR op_lt (pe_ix ix_list (pv 0) pe_int (fun _ _ => rfl)) (pe_callB call_len_seq (by rfl) m_len (by decide +kernel) (pa_cons (pe_ix ix_list (pv 0) pe_int (fun _ _ => rfl)) pa_nil)) (nomark _))))) (pss_cons (ps_asg (pe_callB call_abs (by rfl) m_abs (by decide +kernel) (pa_cons (pe_callTy call_int1 (by rfl) m_int (by decide +kernel) (pa_cons (pe_ix ix_list (pe_ix ix_list (pv 0) pe_int (fun _ _ => rfl)) (pe_ix ix_list (pv 0) pe_int (fun _ _ => rfl)) (fun _ _ => rfl)) pa_nil)) pa_nil)) (pg_sub (pv 0) pe_int set_list))
      (pss_one (ps_asg (pe_op op_add (pe_ix ix_list (pv 0) pe_int (fun _ _ => rfl)) pe_int) (pg_sub (pv 0) pe_int set_list)))) pss_nil)
      (pss_cons (ps_if (pt_cmpR op_eq (pe_ix ix_list (pv 0) pe_int (fun _ _ => rfl)) pe_int (nomark _)) (pss_cons (ps_asg (pe_op op_mod (pe_callTy call_int1 (by rfl) m_int (by decide +kernel) (pa_cons (pe_op op_add (pe_op op_mul (pe_ix ix_list (pv 0) pe_int (fun _ _ => rfl)) pe_int) pe_int) pa_nil)) pe_int) (pg_sub (pv 0) pe_int set_list))
      (pss_one (ps_ret (pe_op op_mod (pe_callTy call_int1 (by rfl) m_int (by decide +kernel) (pa_cons (pe_op op_fdiv (pe_ix ix_list (pv 0) pe_int (fun _ _ => rfl)) pe_int) pa_nil)) (pv 1))))) pss_nil)
      (pss_cons (ps_set (i := 2) sc_law_draw.nd rfl (Or.inl rfl) (pe_op op_mod (pe_callTy call_int1 (by rfl) m_int (by decide +kernel) (pa_cons (pe_ix ix_list (pv 0) pe_int (fun _ _ => rfl)) pa_nil)) (pv 1)))
      (pss_cons (ps_asg (pe_op op_fdiv (pe_ix ix_list (pv 0) pe_int (fun _ _ => rfl)) (pv 1)) (pg_sub (pv 0) pe_int set_list))
      (pss_one (ps_ret (pv 2))))))), ?_⟩
    -- the first part leaves a row again
    refine ⟨fun σ H' => ∃ (c i : Int), σ = [some (.ref st), some (.int n), none] ∧ 0 ≤ c ∧ 0 ≤ i ∧ ExS st H H' ∧ H' st = some (.lst [.ref l, .int c, .int i, .int m]) ∧ H' l = some (.lst (ns.map V.int)), ?_, ?_⟩
    · refine ⟨_, rfl, _, _, _, _, rfl, rfl, hL, rfl, rfl, _, rfl, ?_⟩
      by_cases hc : c = 0
      · subst hc
        rw [decide_eq_true rfl]
        refine iteT ?_
        refine ⟨_, rfl, _, _, _, _, rfl, rfl, hL, rfl, _, rfl, _, _, _, _, rfl, rfl, hL, rfl, _, _, rfl, .inl (SqL.of hl), _, _, rfl, rfl, _, rfl, ?_⟩
        by_cases hi : i < (((ns.map V.int).length : Nat) : Int)
        · rw [decide_eq_true hi]
          refine iteT ?_
          obtain ⟨j, rfl⟩ : ∃ j : Nat, i = j := ⟨i.toNat, by omega⟩
          have hj : j < ns.length := by
            rw [List.length_map] at hi
            omega
          have ha : atI (ns.map V.int) (j : Int) = some (.int ns[j]) := atI_nat (by rw [List.getElem?_map, List.getElem?_eq_getElem hj]; rfl)
          refine ⟨_, rfl, _, _, _, _, rfl, rfl, hL, rfl, _, rfl, _, _, _, _, rfl, rfl, hL, rfl, _, _, _, _, rfl, rfl, SqL.of hl, ha, .inl ⟨_, rfl, _, rfl, ?_⟩⟩
          refine ⟨_, rfl, _, _, _, 1, rfl, rfl, hst, rfl, ?_⟩
          refine ⟨_, rfl, _, _, _, _, rfl, rfl, SqL.of upd_same, rfl, _, _, rfl, rfl, ?_⟩
          refine ⟨_, rfl, _, _, _, 2, rfl, rfl, upd_same, rfl, ?_⟩
          refine ⟨_, _, rfl, ?_, ?_, ?_, upd_same, ?_⟩
          · split <;> omega
          · omega
          · rw [upd_upd]
            exact ExS.put hst
          · rw [upd_upd, upd_ne nl]
            exact hl
        · rw [decide_eq_false hi]
          refine iteF ?_
          exact ⟨_, _, rfl, c0, i0, .refl, hst, hl⟩
      · rw [decide_eq_false (fun z => hc (V.int.inj z))]
        refine iteF (iteF ?_)
        exact ⟨_, _, rfl, c0, i0, .refl, hst, hl⟩
    · rintro σ H1 ⟨c, i, rfl, c0, i0, ex, hst, hl⟩
      have hL : SqL K H1 st [.ref l, .int c, .int i, .int m] := SqL.of hst
      refine ⟨_, rfl, _, _, _, _, rfl, rfl, hL, rfl, rfl, _, rfl, ?_⟩
      refine ite2 (fun e => ?_) (fun e => ?_)
      · refine ⟨_, rfl, _, _, _, _, rfl, rfl, hL, rfl, _, _, rfl, rfl, .inl ⟨by omega, by omega⟩, _, _, rfl, rfl, .inl ⟨_, rfl, _, _, rfl, rfl, (by show (0 : Int) < 2147483647; omega), ?_⟩⟩
        refine ⟨_, rfl, _, _, _, 3, rfl, rfl, hst, rfl, ?_⟩
        refine ⟨_, rfl, _, _, _, _, rfl, rfl, SqL.of upd_same, rfl, _, _, rfl, rfl, ⟨by show (0 : Int) < 97; omega, by show (97 : Int) < 1073741824; omega⟩, .inl ⟨_, rfl, _, rfl, _, _, rfl, rfl, hn, ?_⟩⟩
        refine draw_go hn q _ (ex.trans (ExS.put hst)) ⟨l, ns, _, _, _, upd_same, ?_, c0, i0, Int.emod_nonneg _ (by decide), Int.emod_lt_of_pos _ (by decide)⟩
        rw [upd_ne nl]
        exact hl
      · refine ⟨_, rfl, _, _, _, _, rfl, rfl, hL, rfl, .inl ⟨_, rfl, _, rfl, _, _, rfl, rfl, hn, ?_⟩⟩
        refine ⟨_, rfl, _, _, _, _, rfl, rfl, hL, rfl, _, rfl, _, _, rfl, rfl, ⟨hn, hn2⟩, ?_⟩
        refine ⟨_, rfl, _, _, _, 1, rfl, rfl, hst, rfl, ?_⟩
        refine ⟨_, rfl, ?_⟩
        refine draw_go hn q _ (ex.trans (ExS.put hst)) ⟨l, ns, _, _, _, upd_same, ?_, Int.ediv_nonneg c0 (by omega), i0, m0, m1⟩
        rw [upd_ne nl]
        exact hl
abbrev s_law_tree : Stmt := topS 13
abbrev nm_law_tree : List Str := ["stream", "pairs", "signs", "missing"]
theorem sc_law_tree : FnScope nm_law_tree ["stream", "pairs"] (defScope s_law_tree) := ⟨rfl, rfl, rfl, by decide +kernel, rfl, by decide +kernel, by decide +kernel⟩
def sp_law_tree (K : PySem.W.Frag) (cl : Cn → Addr) : Sp := fun vs H Q _ => ∃ (st : Addr) (n : Nat), vs = [.ref st, .int n] ∧ n ≤ 100000 ∧ Strm H st ∧ ∀ (t : Tr) H', t.pairs ≤ n → ExS st H H' → Strm H' st → Q (.str t.str) H'
theorem ok_law_tree (T : Txt K mg cl w) (H_law_draw : Has P w K mg base CX0 1 "_law_draw" ["stream", "many"] (sp_law_draw K cl)) {f : Addr} {fd : FuncData} (F : Fun K "_law_tree" "_law_tree" s_law_tree f fd) : FnOk P w K mg base CX0 2 f fd ["stream", "pairs"] (sp_law_tree K cl) := by
  obtain ⟨f_law_draw, d_law_draw, G_law_draw, g_law_draw, k_law_draw, b_law_draw⟩ := H_law_draw.ex
  refine F.ok sc_law_tree (fun vs H Q E h => ?_) (fun cdv A outer s H vs Q E hr h => ?_)
  · obtain ⟨x, i, rfl, _⟩ := h
    rfl
  · obtain ⟨st, n, rfl, hn, sm, q⟩ := h
    refine ⟨_, (pss_cons (ps_set (i := 2) sc_law_tree.nd rfl (Or.inl rfl) pe_str)
      (pss_cons (ps_set (i := 3) sc_law_tree.nd rfl (Or.inl rfl) pe_int)
      (pss_cons (ps_while PassesOwn.never (pt_cmpR op_gt (pv 3) pe_int (nomark _)) (pss_one (ps_if (pt_mid (PW.pt (pw_or (PW.pt (pw_and (pt_cmpR op_gt (pv 1) pe_int (nomark _)) (pw_and1 (pt_cmpR op_lt (pe_call G_law_draw (hr.mono (by decide)) (by rfl) g_law_draw k_law_draw b_law_draw .nil pass0 (pa_cons (pv 0) (pa_cons (pe_op op_add (pv 3) pe_int) pa_nil))) (pv 3) (nomark _))))) (pw_or1 (PW.pt (pw_and (pt_cmpR op_gt (pv 1) pe_int (nomark _)) (pw_and (pt_cmpR op_eq (pv 3) pe_int (nomark _)) (pw_and1 (pt_cmpR op_gt (pe_call G_law_draw (hr.mono (by decide)) (by rfl) g_law_draw k_law_draw b_law_draw .nil pass0 (pa_cons (pv 0) (pa_cons pe_int pa_nil))) pe_int (nomark _)))))))))) (pss_cons (ps_set (i := 2) sc_law_tree.nd rfl (Or.inl rfl) (pe_op op_add_str (pv 2) pe_str))
      (pss_cons (ps_set (i := 3) sc_law_tree.nd rfl (Or.inl rfl) (pe_op op_add (pv 3) pe_int))
      (pss_one (ps_set (i := 1) sc_law_tree.nd rfl (Or.inl rfl) (pe_op op_sub (pv 1) pe_int))))) (pss_cons (ps_set (i := 2) sc_law_tree.nd rfl (Or.inl rfl) (pe_op op_add_str (pv 2) pe_str))
      (pss_one (ps_set (i := 3) sc_law_tree.nd rfl (Or.inl rfl) (pe_op op_sub (pv 3) pe_int)))))))
      (pss_one (ps_ret (pv 2)))))), ?_⟩
    refine ⟨fun m σ H' => ∃ (l : List Nat) (k p : Nat), σ = [some (.ref st), some (.int p), some (.str (stS l)), some (.int k)] ∧ Opn l k ∧ l.count 49 + p = n ∧ m = 2 * p + k ∧ ExS st H H' ∧ Strm H' st, ⟨_, [], 1, n, rfl, .nil, Nat.zero_add n, rfl, .refl, sm⟩, ?_⟩
    rintro m σ H1 ⟨l, k, p, rfl, ho, hp, rfl, ex, sm1⟩
    refine ⟨_, rfl, _, _, rfl, rfl, _, rfl, ?_⟩
    cases k with
    | zero =>
      rw [decide_eq_false (by omega)]
      refine iteF ⟨_, rfl, ?_⟩
      obtain ⟨t, e⟩ := ho.done
      rw [e]
      refine q t H1 ?_ ex sm1
      rw [← t.count_1, ← e]
      omega
    | succ k =>
      rw [decide_eq_true (by omega)]
      refine iteT ⟨_, fun σ' H' h => h, ?_⟩
      have hlen : l.length ≤ 200001 ∧ k ≤ 200001 := by
        have := ho.2.2
        omega
      obtain ⟨hlen, hk⟩ := hlen
      refine ⟨fun b H' => (b = true → 0 < p) ∧ ExS st H H' ∧ Strm H' st, ?_, fun b H2 hb => ?_⟩
      · refine ⟨_, rfl, _, _, rfl, rfl, _, rfl, ?_⟩
        by_cases h0 : (0 : Int) < p
        · rw [decide_eq_true h0]
          refine iteT ⟨_, rfl, _, rfl, _, _, rfl, rfl, ?_⟩
          refine ⟨st, _, rfl, by omega, by omega, sm1, fun d H2 _ ex2 sm2 => ?_⟩
          refine ⟨_, rfl, _, _, rfl, rfl, _, rfl, ?_⟩
          refine ite2 (fun c => ⟨fun _ => by omega, ex.trans ex2, sm2⟩) (fun c => ?_)
          refine ⟨_, rfl, _, _, rfl, rfl, _, rfl, ?_⟩
          rw [decide_eq_true h0]
          refine iteT ⟨_, rfl, rfl, _, rfl, ?_⟩
          refine ite2 (fun c2 => ?_) (fun c2 => ⟨fun z => (by cases z), ex.trans ex2, sm2⟩)
          refine ⟨_, rfl, ?_⟩
          refine ⟨st, _, rfl, by omega, by omega, sm2, fun d3 H3 _ ex3 sm3 => ?_⟩
          refine ⟨_, _, rfl, rfl, _, rfl, ?_⟩
          exact ⟨fun _ => by omega, (ex.trans ex2).trans ex3, sm3⟩
        · rw [decide_eq_false h0]
          refine iteF (iteF ?_)
          refine ⟨_, rfl, _, _, rfl, rfl, _, rfl, ?_⟩
          rw [decide_eq_false h0]
          exact iteF ⟨fun z => (by cases z), ex, sm1⟩
      · obtain ⟨hb1, ex2, sm2⟩ := hb
        cases b with
        | true =>
          have hp0 := hb1 rfl
          refine iteT ?_
          refine ⟨_, rfl, _, _, rfl, rfl, (by rw [stS_len]; exact Nat.le_trans (Nat.add_le_add_right hlen _) (by decide)), ?_⟩
          refine ⟨_, rfl, _, _, rfl, rfl, ?_⟩
          refine ⟨_, rfl, _, _, rfl, rfl, ?_⟩
          refine ⟨2 * (p - 1) + (k + 2), by omega, l ++ [49], k + 2, p - 1, ?_, ho.one, ?_, rfl, ex2, sm2⟩
          · rw [show (Str.ofString "1") = stS [49] by decide +kernel, stS_app, show (((p - 1 : Nat)) : Int) = (p : Int) - 1 by omega]
            rfl
          · rw [List.count_append]
            show l.count 49 + 1 + (p - 1) = n
            omega
        | false =>
          refine iteF ?_
          refine ⟨_, rfl, _, _, rfl, rfl, (by rw [stS_len]; exact Nat.le_trans (Nat.add_le_add_right hlen _) (by decide)), ?_⟩
          refine ⟨_, rfl, _, _, rfl, rfl, ?_⟩
          refine ⟨2 * p + k, by omega, l ++ [48], k, p, ?_, ho.zero, ?_, rfl, ex2, sm2⟩
          · rw [show (Str.ofString "0") = stS [48] by decide +kernel, stS_app]
            simp
          · rw [List.count_append]
            show l.count 49 + 0 + p = n
            omega
abbrev s_law_given : Stmt := topS 17
abbrev nm_law_given : List Str := ["told"]
theorem sc_law_given : FnScope nm_law_given ["told"] (defScope s_law_given) := ⟨rfl, rfl, rfl, by decide +kernel, rfl, by decide +kernel, by decide +kernel⟩
def sp_law_given (K : PySem.W.Frag) (cl : Cn → Addr) : Sp := fun vs H Q _ => ∃ x, vs = [x] ∧ x ≠ .non ∧
  ((∃ t, TyX K H x t ∧ PySem.W.kitOne K t (.type "tuple") = some false) ∨ ∃ a y ys d, x = .ref a ∧ H a = some (.tup (y :: ys)) ∧ Dp K H y d ∧ notTold d) ∧ ∀ H', Same H H' → Q x H'
theorem ok_law_given (T : Txt K mg cl w) {f : Addr} {fd : FuncData} (F : Fun K "_law_given" "_law_given" s_law_given f fd) : FnOk P w K mg base CX0 1 f fd ["told"] (sp_law_given K cl) := by
  have m_isinstance := T.m_isinstance
  have m_tuple := T.m_tuple
  refine F.ok sc_law_given (fun vs H Q E h => ?_) (fun cdv A outer s H vs Q E hr h => ?_)
  · obtain ⟨x, rfl, _⟩ := h
    rfl
  · obtain ⟨x, rfl, hx, hk, q⟩ := h
    refine ⟨_, (pss_cons (ps_if (PW.pt (pw_or (pt_cmpR op_isN (pv 0) pe_non (nomark _)) (pw_or1 (PW.pt (pw_and (pt_val (pe_callB call_isi (by rfl) m_isinstance (by decide +kernel) (pa_cons (pv 0) (pa_cons (pe_bltn (v := .ty "tuple") (by rfl) m_tuple (by decide +kernel) rfl) pa_nil)))) (pw_and1 (pt_cmpR (op_inDT hr.units2) (pe_mid (pe_slice sl_tupA (pv 0) po_none (po_some pe_int))) (pe_tup (pa_cons (pe_tup (pa_cons pe_str pa_nil)) (pa_cons (pe_tup (pa_cons pe_str pa_nil)) (pa_cons (pe_tup (pa_cons pe_str pa_nil)) pa_nil)))) (by rfl)))))))) (pss_one (ps_ret (pe_lst (pa_cons pe_str pa_nil)))) pss_nil)
      (pss_one (ps_ret (pv 0)))), ?_⟩
    refine ⟨_, rfl, rfl, _, rfl, ?_⟩
    rw [decide_eq_false hx]
    refine iteF ?_
    rcases hk with ⟨t, ty, kt⟩ | ⟨a, y, ys, d, rfl, ha, hd, nt⟩
    · refine ⟨_, rfl, _, _, _, _, false, rfl, .ty _, ty, kt, _, rfl, iteF (iteF ?_)⟩
      exact ⟨_, rfl, q _ (.refl _)⟩
    · refine ⟨_, rfl, _, _, _, _, true, rfl, .ty _, .base (.tup ha), kit_ty (by decide +kernel), _, rfl, iteT ?_⟩
      refine ⟨fun v H1 => ∃ p, v = .ref p ∧ Same H H1 ∧ H1 p = some (.tup [y]), ⟨_, rfl, 1, rfl, a, _, rfl, SqT.of ha, fun hw => ?_, fun hw p np => ?_⟩, ?_⟩
      · have : ys = [] := by
          have h2 : min 1 (y :: ys).length = (y :: ys).length := by
            have := hw.2
            rw [show HT.sIx (y :: ys).length (y :: ys).length (some 1) = min 1 (y :: ys).length from HT.sIx_nat _ _ 1] at this
            exact this
          cases ys with
          | nil => rfl
          | cons b r =>
            simp at h2
        subst this
        exact ⟨a, rfl, .refl _, ha⟩
      · refine ⟨p, rfl, Same.upd np, ?_⟩
        rw [upd_same]
        congr 2
      · rintro v H1 ⟨p, rfl, sm, hp⟩
        refine ⟨(by show 1 ≤ sizeLine; decide), fun p1 n1 => ⟨(by show 1 ≤ sizeLine; decide), fun p2 n2 => ⟨(by show 1 ≤ sizeLine; decide), fun p3 n3 => ⟨(by show 3 ≤ sizeLine; decide), fun p4 n4 => ?_⟩⟩⟩⟩
        have u1 := Same.upd (o := .tup [.str "refused"]) n1
        have u2 := Same.upd (o := .tup [.str "large"]) n2
        have u3 := Same.upd (o := .tup [.str "wide"]) n3
        have u4 := Same.upd (o := .tup [.ref p1, .ref p2, .ref p3]) n4
        have a1 := (u2.trans (u3.trans u4)) _ _ (upd_same (o := .tup [.str "refused"]))
        have a2 := (u3.trans u4) _ _ (upd_same (o := .tup [.str "large"]))
        have a3 := u4 _ _ (upd_same (o := .tup [.str "wide"]))
        have all := (u1.trans u2).trans (u3.trans u4)
        refine ⟨.tuple [d], [.tuple [.str "refused"], .tuple [.str "large"], .tuple [.str "wide"]], .tup (SqT.of (all _ _ hp)) (.cons (hd.same (sm.trans all)) .nil),
          .tup (SqT.of upd_same) (.cons (.tup (SqT.of a1) (.cons (.str _) .nil)) (.cons (.tup (SqT.of a2) (.cons (.str _) .nil)) (.cons (.tup (SqT.of a3) (.cons (.str _) .nil)) .nil))), nt.1, (by decide +kernel), ?_⟩
        obtain ⟨_, e1, e2, e3⟩ := nt
        have eb : ([PyData.tuple [.str "refused"], .tuple [.str "large"], .tuple [.str "wide"]].any fun z => PyData.eqv z (.tuple [d])) = false := by
          show ((PyData.eqv (.str "refused") d && true) || ((PyData.eqv (.str "large") d && true) || ((PyData.eqv (.str "wide") d && true) || false))) = false
          rw [e1, e2, e3]
          rfl
        rw [eb]
        refine ⟨_, rfl, iteF ?_⟩
        exact ⟨_, rfl, q _ (sm.trans all)⟩
abbrev s_cons : Stmt := topS 7
abbrev nm_cons : List Str := ["first", "second"]
theorem sc_cons : FnScope nm_cons ["first", "second"] (defScope s_cons) := ⟨rfl, rfl, rfl, by decide +kernel, rfl, by decide +kernel, by decide +kernel⟩
def sp_cons (K : PySem.W.Frag) (cl : Cn → Addr) : Sp := fun vs H Q E => ∃ x y : Str, vs = [.str x, .str y] ∧ x.length ≤ 1000000 ∧ y.length ≤ 1000000 ∧ (1 + x.length + y.length ≤ 200000 → Q (.str (stS (49 :: (x.cps.toList ++ y.cps.toList)))) H) ∧ (200000 < 1 + x.length + y.length → E (.ref (cl .TooLarge)) none H)
theorem ok_cons (T : Txt K mg cl w) {f : Addr} {fd : FuncData} (F : Fun K "cons" "cons" s_cons f fd) : FnOk P w K mg base (L2.CX P w) 1 f fd ["first", "second"] (sp_cons K cl) := by
  obtain ⟨t_MOST_TREE, m_MOST_TREE⟩ := T.m_MOST_TREE
  obtain ⟨g_TooLarge, x_TooLarge⟩ := T.e_TooLarge
  have m_len := T.m_len
  refine F.okX sc_cons (fun vs H Q E h => ?_) (fun cdv A outer s H vs Q E hr h => ?_)
  · obtain ⟨x, y, rfl, _⟩ := h
    rfl
  · obtain ⟨x, y, rfl, hx, hy, q, e⟩ := h
    have hz : sizeLine = 16777216 := rfl
    refine ⟨_, (pss_cons (ps_if (pt_cmpR op_gt (pe_op op_add (pe_op op_add pe_int (pe_callB call_len_str (by rfl) m_len (by decide +kernel) (pa_cons (pv 0) pa_nil))) (pe_callB call_len_str (by rfl) m_len (by decide +kernel) (pa_cons (pv 1) pa_nil))) (pe_glob (v := .int 200000) (by rfl) m_MOST_TREE ⟨_, rfl⟩) (nomark _)) (pss_one (ps_raise rfl (takes_of rfl rfl rfl rfl) (pmk_own PySem.F.excBase_ValueError x_TooLarge.x g_TooLarge x_TooLarge.k (raises_own x_TooLarge.b x_TooLarge.t) (by exact rfl)))) pss_nil)
      (pss_one (ps_ret (pe_op op_add_str (pe_op op_add_str pe_str (pv 0)) (pv 1))))), ?_⟩
    refine ⟨_, rfl, _, rfl, (by omega), _, _, rfl, rfl, _, rfl, _, rfl, (by omega), _, _, rfl, rfl, _, _, rfl, rfl, _, rfl, ?_⟩
    refine ite2 (fun c => ?_) (fun c => ?_)
    · have := of_decide_eq_true c
      exact e (by omega)
    · have h2 : ¬ (200000 : Int) < 1 + (x.length : Int) + (y.length : Int) := fun z => c (decide_eq_true z)
      refine ⟨_, rfl, _, _, rfl, rfl, (by show 1 + x.length ≤ _; omega), _, rfl, _, _, rfl, rfl, (by rw [Str.length_append]; show 1 + x.length + y.length ≤ _; omega), ?_⟩
      have := q (by omega)
      rw [show Str.ofString "1" ++ x ++ y = stS (49 :: (x.cps.toList ++ y.cps.toList)) from ?_]
      · exact this
      · rw [s1]
        conv => lhs; rw [← stS_of x, ← stS_of y]
        rw [stS_app, stS_app]
        rfl
abbrev s_law_told : Stmt := topS 18
abbrev nm_law_told : List Str := ["first", "second", "e"]
theorem sc_law_told : FnScope nm_law_told ["first", "second"] (defScope s_law_told) := ⟨rfl, rfl, rfl, by decide +kernel, rfl, by decide +kernel, by decide +kernel⟩
def sp_law_told (K : PySem.W.Frag) (cl : Cn → Addr) : Sp := fun vs H Q _ => ∃ x y : Str, vs = [.str x, .str y] ∧ x.length ≤ 1000000 ∧ y.length ≤ 1000000 ∧
  (1 + x.length + y.length ≤ 200000 → ∀ H', Same H H' → Q (.str (stS (49 :: (x.cps.toList ++ y.cps.toList)))) H') ∧ (200000 < 1 + x.length + y.length → ∀ p H', Same H H' → H' p = some (.tup [.str "large"]) → Q (.ref p) H')
theorem ok_law_told (T : Txt K mg cl w) (H_law_given : Has P w K mg base CX0 1 "_law_given" ["told"] (sp_law_given K cl)) (H_cons : Has P w K mg base (L2.CX P w) 1 "cons" ["first", "second"] (sp_cons K cl)) {f : Addr} {fd : FuncData} (F : Fun K "_law_told" "_law_told" s_law_told f fd) : FnOk P w K mg base CX0 2 f fd ["first", "second"] (sp_law_told K cl) := by
  obtain ⟨g_TooLarge, x_TooLarge⟩ := T.e_TooLarge
  have m_isinstance := T.m_isinstance
  obtain ⟨g_NarcissusError, x_NarcissusError⟩ := T.e_NarcissusError
  have m_ValueError := T.m_ValueError
  obtain ⟨f_law_given, d_law_given, G_law_given, g_law_given, k_law_given, b_law_given⟩ := H_law_given.ex
  obtain ⟨f_cons, d_cons, G_cons, g_cons, k_cons, b_cons⟩ := H_cons.ex
  refine F.ok sc_law_told (fun vs H Q E h => ?_) (fun cdv A outer s H vs Q E hr h => ?_)
  · obtain ⟨x, y, rfl, _⟩ := h
    rfl
  · obtain ⟨x, y, rfl, hx, hy, q1, q2⟩ := h
    refine ⟨_, (pss_cons (ps_try_as (i := 2) rfl rfl sc_law_told.nd rfl rfl ⟨rfl, by decide, .inl g_TooLarge⟩ takes0 (fun W pn xe tk po => (pss_one (ps_ret (pe_call G_law_given (hr.mono (by decide)) (by rfl) g_law_given k_law_given b_law_given .nil pass0 (pa_cons (pe_callS G_cons (hr.mono (by decide)) (by rfl) g_cons k_cons b_cons (fun σ => passAt tk σ) (pa_cons (pv 0) (pa_cons (pv 1) pa_nil))) pa_nil)))))
      (fun a oe cls d pn hz hf => (pss_guard (p := cls = .ref (cl .TooLarge) ∧ d = none) (fun hp => by
      obtain ⟨rfl, rfl⟩ := hp
      exact (pss_one (ps_if (PW.pt (pw_and (pt_val (pe_callB (call_isE x_TooLarge.c hz hf) (by rfl) m_isinstance (by decide +kernel) (pa_cons (pv 2) (pa_cons (pe_glob (v := .ref (cl .NarcissusError)) (by rfl) g_NarcissusError rfl) pa_nil)))) (pw_and1 (pt_val (pe_callB (call_isE x_TooLarge.c hz hf) (by rfl) m_isinstance (by decide +kernel) (pa_cons (pv 2) (pa_cons (pe_bltn (v := .ty "ValueError") (by rfl) m_ValueError (by decide +kernel) rfl) pa_nil))))))) (pss_one (ps_ret (pe_tup (pa_cons pe_str pa_nil)))) pss_nil))))))
      (pss_one (ps_ret (pe_tup (pa_cons pe_str pa_nil))))), ?_⟩
    refine ⟨_, rfl, _, rfl, x, y, rfl, hx, hy, fun c => ?_, fun c => ?_⟩
    · refine ⟨_, rfl, (fun z => by cases z), .inl ⟨_, .base (.str _), kit_ty (by decide +kernel)⟩, fun H' sm => ?_⟩
      exact q1 c H' sm
    · refine ⟨true, PySem.W.exm_ref x_TooLarge.b x_TooLarge.c.hd x_TooLarge.t (T.p_TooLarge_TooLarge.2), fun _ a na => ?_, fun z => by cases z⟩
      refine ⟨⟨rfl, rfl⟩, ?_⟩
      refine ⟨_, rfl, _, _, true, rfl, fun u r => r, T.p_TooLarge_NarcissusError.1, true, rfl, iteT ?_⟩
      refine ⟨_, rfl, _, _, true, rfl, fun u r => r, T.q_TooLarge, true, rfl, iteT ?_⟩
      refine ⟨(by show 1 ≤ sizeLine; decide), fun p np => ?_⟩
      exact q2 c p _ (Same.upd np) upd_same
abbrev s_end_of : Stmt := topS 6
abbrev nm_end_of : List Str := ["signs", "start", "at", "wanted", "pairs"]
theorem sc_end_of : FnScope nm_end_of ["signs", "start"] (defScope s_end_of) := ⟨rfl, rfl, rfl, by decide +kernel, rfl, by decide +kernel, by decide +kernel⟩
def sp_end_of (K : PySem.W.Frag) (cl : Cn → Addr) : Sp := fun vs H Q _ => ∃ (x : Str) (i : Nat), vs = [.str x, .int i] ∧ Q (.int ((i + fin 1 (x.cps.toList.drop i) : Nat) : Int)) H
theorem ok_end_of (T : Txt K mg cl w) {f : Addr} {fd : FuncData} (F : Fun K "end_of" "end_of" s_end_of f fd) : FnOk P w K mg base CX0 1 f fd ["signs", "start"] (sp_end_of K cl) := by
  refine F.ok sc_end_of (fun vs H Q E h => ?_) (fun cdv A outer s H vs Q E hr h => ?_)
  · obtain ⟨x, i, rfl, _⟩ := h
    rfl
  · obtain ⟨x, i, rfl, q⟩ := h
    refine ⟨_, (pss_cons (ps_set (i := 2) sc_end_of.nd rfl (Or.inl rfl) (pv 1))
      (pss_cons (ps_set (i := 3) sc_end_of.nd rfl (Or.inl rfl) pe_int)
      (pss_cons (ps_while PassesOwn.never (pt_cmpR op_gt (pv 3) pe_int (nomark _)) (pss_cons (ps_set (i := 4) sc_end_of.nd rfl (Or.inl rfl) (pe_bm PySem.F.plainAttrs_str PySem.F.slot_str_count PySem.F.type_str_count mt_count4 (pv 0) (pa_cons pe_str (pa_cons (pv 2) (pa_cons (pe_op op_add (pv 2) (pv 3)) pa_nil)))))
      (pss_cons (ps_set (i := 2) sc_end_of.nd rfl (Or.inl rfl) (pe_op op_add (pv 2) (pv 3)))
      (pss_one (ps_set (i := 3) sc_end_of.nd rfl (Or.inl rfl) (pe_op op_mul pe_int (pv 4)))))))
      (pss_one (ps_ret (pv 2)))))), ?_⟩
    refine ⟨_, rfl, ?_⟩
    refine ⟨fun m σ H' => ∃ (at' wa : Nat) (v4 : Option V), σ = [some (.str x), some (.int i), some (.int at'), some (.int wa), v4] ∧ H = H' ∧ at' + fin wa (x.cps.toList.drop at') = i + fin 1 (x.cps.toList.drop i) ∧ m = (x.length - at') + (if wa = 0 then 0 else 1), ⟨_, i, 1, none, rfl, rfl, rfl, rfl⟩, ?_⟩
    rintro m σ H' ⟨at', wa, v4, rfl, rfl, e1, rfl⟩
    refine ⟨_, rfl, _, _, rfl, rfl, _, rfl, ?_⟩
    by_cases hw : wa = 0
    · subst hw
      rw [decide_eq_false (by omega)]
      refine iteF ?_
      refine ⟨_, rfl, ?_⟩
      rw [fin_zero, Nat.add_zero] at e1
      rw [e1]
      exact q
    · rw [decide_eq_true (by omega)]
      refine iteT ?_
      refine ⟨fun σ' H' => ∃ m', m' < (x.length - at') + (if wa = 0 then 0 else 1) ∧ ∃ (a2 w2 : Nat) (v4 : Option V), σ' = [some (.str x), some (.int i), some (.int a2), some (.int w2), v4] ∧ H = H' ∧ a2 + fin w2 (x.cps.toList.drop a2) = i + fin 1 (x.cps.toList.drop i) ∧ m' = (x.length - a2) + (if w2 = 0 then 0 else 1), fun σ' H' h => h, ?_⟩
      refine ⟨_, rfl, rfl, _, rfl, _, rfl, _, rfl, _, _, rfl, rfl, _, _, _, _, rfl, rfl, ?_⟩
      refine ⟨_, rfl, _, rfl, _, _, rfl, rfl, ?_⟩
      refine ⟨_, rfl, _, _, rfl, rfl, .inl (by decide), ?_⟩
      have hc : Txt.countIn x (Str.ofString "1") (at' : Int) ((at' : Int) + (wa : Int)) = (((x.cps.toList.drop at').take wa).count 49 : Nat) := by
        have h := count_in x 49 at' (at' + wa) (by omega)
        rw [Nat.add_sub_cancel_left] at h
        rw [show (Str.ofString "1") = (⟨#[49]⟩ : Str) by decide +kernel]
        exact h
      rw [hc]
      refine ⟨_, ?_, at' + wa, 2 * ((x.cps.toList.drop at').take wa).count 49, some (.int (((x.cps.toList.drop at').take wa).count 49 : Nat)), rfl, rfl, ?_, rfl⟩
      · have hl : x.cps.toList.length = x.length := Array.length_toList
        by_cases ha : at' < x.length
        · split <;> omega
        · rw [show x.cps.toList.drop at' = [] from List.drop_eq_nil_of_le (by omega), List.take_nil, List.count_nil, if_neg hw, if_pos (by omega)]
          omega
      · rw [← e1]
        have := fin_app ((x.cps.toList.drop at').take wa) ((x.cps.toList.drop at').drop wa) wa (by rw [List.length_take]; omega)
        rw [List.take_append_drop] at this
        rw [this, List.drop_drop]
        by_cases hl : wa ≤ (x.cps.toList.drop at').length
        · rw [List.length_take, Nat.min_eq_left hl, Nat.sub_self, Nat.zero_add]
          omega
        · rw [List.length_take, Nat.min_eq_right (by omega), show x.cps.toList.drop (at' + wa) = [] from List.drop_eq_nil_of_le (by rw [List.length_drop] at hl; omega), fin_nil, fin_nil]
          omega
abbrev s_head : Stmt := topS 8
abbrev nm_head : List Str := ["tree"]
theorem sc_head : FnScope nm_head ["tree"] (defScope s_head) := ⟨rfl, rfl, rfl, by decide +kernel, rfl, by decide +kernel, by decide +kernel⟩
def sp_head (K : PySem.W.Frag) (cl : Cn → Addr) : Sp := fun vs H Q _ => ∃ t : Tr, vs = [.str t.str] ∧ t.sg.length ≤ 1000000 ∧ Q (.str t.hd.str) H
theorem ok_head (T : Txt K mg cl w) (H_end_of : Has P w K mg base CX0 1 "end_of" ["signs", "start"] (sp_end_of K cl)) {f : Addr} {fd : FuncData} (F : Fun K "head" "head" s_head f fd) : FnOk P w K mg base CX0 2 f fd ["tree"] (sp_head K cl) := by
  obtain ⟨t_LEAF, m_LEAF⟩ := T.m_LEAF
  obtain ⟨f_end_of, d_end_of, G_end_of, g_end_of, k_end_of, b_end_of⟩ := H_end_of.ex
  refine F.ok sc_head (fun vs H Q E h => ?_) (fun cdv A outer s H vs Q E hr h => ?_)
  · obtain ⟨x, rfl, _⟩ := h
    rfl
  · obtain ⟨t, rfl, hz, q⟩ := h
    refine ⟨_, (pss_cons (ps_if (pt_cmpR op_eq (pv 0) (pe_glob (v := .str "0") (by rfl) m_LEAF ⟨_, rfl⟩) (nomark _)) (pss_one (ps_ret (pe_glob (v := .str "0") (by rfl) m_LEAF ⟨_, rfl⟩))) pss_nil)
      (pss_one (ps_ret (pe_slice sl_str (pv 0) (po_some pe_int) (po_some (pe_call G_end_of (hr.mono (by decide)) (by rfl) g_end_of k_end_of b_end_of .nil pass0 (pa_cons (pv 0) (pa_cons pe_int pa_nil)))))))), ?_⟩
    refine ⟨_, rfl, rfl, _, rfl, ?_⟩
    have sz : sizeLine = 16777216 := rfl
    have tl := t.str_len
    rw [s0]
    rcases leaf_or (t := t) with ⟨e, e1, e2⟩ | ⟨a, b, rfl⟩
    · rw [e1] at q
      rw [e]
      rw [decide_eq_true (show V.str Tr.leaf.str = V.str (stS [48]) from rfl)]
      exact iteT q
    · rw [decide_eq_false (fun z => node_ne a b (V.str.inj z))]
      refine iteF ⟨_, rfl, 1, rfl, _, rfl, _, 1, rfl, _, rfl, _, rfl, (by omega), ?_⟩
      have := cut_both (Tr.node a b).sg 1 (1 + fin 1 ((Tr.node a b).sg.drop 1))
      rw [node_hd] at this
      show Q (V.str (cutS (stS (Tr.node a b).sg) (some ((1 : Nat) : Int)) (some ((1 + fin 1 ((Tr.node a b).sg.drop 1) : Nat) : Int)))) H
      rw [this]
      exact q
abbrev s_tail : Stmt := topS 9
abbrev nm_tail : List Str := ["tree"]
theorem sc_tail : FnScope nm_tail ["tree"] (defScope s_tail) := ⟨rfl, rfl, rfl, by decide +kernel, rfl, by decide +kernel, by decide +kernel⟩
def sp_tail (K : PySem.W.Frag) (cl : Cn → Addr) : Sp := fun vs H Q _ => ∃ t : Tr, vs = [.str t.str] ∧ t.sg.length ≤ 1000000 ∧ Q (.str t.tl.str) H
theorem ok_tail (T : Txt K mg cl w) (H_end_of : Has P w K mg base CX0 1 "end_of" ["signs", "start"] (sp_end_of K cl)) {f : Addr} {fd : FuncData} (F : Fun K "tail" "tail" s_tail f fd) : FnOk P w K mg base CX0 2 f fd ["tree"] (sp_tail K cl) := by
  obtain ⟨t_LEAF, m_LEAF⟩ := T.m_LEAF
  obtain ⟨f_end_of, d_end_of, G_end_of, g_end_of, k_end_of, b_end_of⟩ := H_end_of.ex
  refine F.ok sc_tail (fun vs H Q E h => ?_) (fun cdv A outer s H vs Q E hr h => ?_)
  · obtain ⟨x, rfl, _⟩ := h
    rfl
  · obtain ⟨t, rfl, hz, q⟩ := h
    refine ⟨_, (pss_cons (ps_if (pt_cmpR op_eq (pv 0) (pe_glob (v := .str "0") (by rfl) m_LEAF ⟨_, rfl⟩) (nomark _)) (pss_one (ps_ret (pe_glob (v := .str "0") (by rfl) m_LEAF ⟨_, rfl⟩))) pss_nil)
      (pss_one (ps_ret (pe_slice sl_str (pv 0) (po_some (pe_call G_end_of (hr.mono (by decide)) (by rfl) g_end_of k_end_of b_end_of .nil pass0 (pa_cons (pv 0) (pa_cons pe_int pa_nil)))) po_none)))), ?_⟩
    refine ⟨_, rfl, rfl, _, rfl, ?_⟩
    have sz : sizeLine = 16777216 := rfl
    have tl := t.str_len
    rw [s0]
    rcases leaf_or (t := t) with ⟨e, e1, e2⟩ | ⟨a, b, rfl⟩
    · rw [e2] at q
      rw [e]
      rw [decide_eq_true (show V.str Tr.leaf.str = V.str (stS [48]) from rfl)]
      exact iteT q
    · rw [decide_eq_false (fun z => node_ne a b (V.str.inj z))]
      refine iteF ⟨_, rfl, _, rfl, _, 1, rfl, _, rfl, _, rfl, (by omega), ?_⟩
      have := cut_from (Tr.node a b).sg (1 + fin 1 ((Tr.node a b).sg.drop 1))
      rw [node_tl] at this
      show Q (V.str (cutS (stS (Tr.node a b).sg) (some ((1 + fin 1 ((Tr.node a b).sg.drop 1) : Nat) : Int)) none)) H
      rw [this]
      exact q
abbrev s_law_end : Stmt := topS 14
abbrev nm_law_end : List Str := ["tree", "at", "missing"]
theorem sc_law_end : FnScope nm_law_end ["tree", "at"] (defScope s_law_end) := ⟨rfl, rfl, rfl, by decide +kernel, rfl, by decide +kernel, by decide +kernel⟩
def sp_law_end (K : PySem.W.Frag) (cl : Cn → Addr) : Sp := fun vs H Q _ => ∃ (l : List Nat) (i : Nat), vs = [.str (stS l), .int i] ∧ all01 l ∧ l.length ≤ 1000000 ∧ fin 1 (l.drop i) ≤ (l.drop i).length ∧ Q (.int ((i + fin 1 (l.drop i) : Nat) : Int)) H
theorem ok_law_end (T : Txt K mg cl w) {f : Addr} {fd : FuncData} (F : Fun K "_law_end" "_law_end" s_law_end f fd) : FnOk P w K mg base CX0 1 f fd ["tree", "at"] (sp_law_end K cl) := by
  have m_int := T.m_int
  refine F.ok sc_law_end (fun vs H Q E h => ?_) (fun cdv A outer s H vs Q E hr h => ?_)
  · obtain ⟨l, i, rfl, _⟩ := h
    rfl
  · obtain ⟨l, i, rfl, ha, hl, hf, q⟩ := h
    refine ⟨_, (pss_cons (ps_set (i := 2) sc_law_end.nd rfl (Or.inl rfl) pe_int)
      (pss_cons (ps_while PassesOwn.never (pt_cmpR op_gt (pv 2) pe_int (nomark _)) (pss_cons (ps_set (i := 2) sc_law_end.nd rfl (Or.inl rfl) (pe_op op_sub (pe_op op_add (pv 2) pe_int) (pe_op op_mul pe_int (pe_callTy call_int1 (by rfl) m_int (by decide +kernel) (pa_cons (pe_cmpR op_eq (pe_ix ix_str (pv 0) (pv 1) (fun _ _ => rfl)) pe_str (nomark _)) pa_nil)))))
      (pss_one (ps_set (i := 1) sc_law_end.nd rfl (Or.inl rfl) (pe_op op_add (pv 1) pe_int)))))
      (pss_one (ps_ret (pv 1))))), ?_⟩
    have sz : sizeLine = 16777216 := rfl
    refine ⟨fun m σ H' => ∃ (at' k : Nat), σ = [some (.str (stS l)), some (.int at'), some (.int k)] ∧ H = H' ∧ at' + fin k (l.drop at') = i + fin 1 (l.drop i) ∧ fin k (l.drop at') ≤ (l.drop at').length ∧ m = fin k (l.drop at'), ⟨_, i, 1, rfl, rfl, rfl, hf, rfl⟩, ?_⟩
    rintro m σ H' ⟨at', k, rfl, rfl, e1, e2, rfl⟩
    refine ⟨_, rfl, _, _, rfl, rfl, _, rfl, ?_⟩
    cases k with
    | zero =>
      rw [decide_eq_false (by omega)]
      refine iteF ⟨_, rfl, ?_⟩
      rw [fin_zero, Nat.add_zero] at e1
      rw [e1]
      exact q
    | succ k =>
      rw [decide_eq_true (by omega)]
      have hat : at' < l.length := by
        have h1 := fin_pos (w := k + 1) (by omega) (l.drop at')
        have h2 : (l.drop at').length = l.length - at' := List.length_drop
        omega
      have ed : l.drop at' = l[at'] :: l.drop (at' + 1) := List.drop_eq_getElem_cons hat
      refine iteT ⟨fun σ' H' => ∃ m', m' < fin (k + 1) (l.drop at') ∧ ∃ (a2 k2 : Nat), σ' = [some (.str (stS l)), some (.int a2), some (.int k2)] ∧ H = H' ∧ a2 + fin k2 (l.drop a2) = i + fin 1 (l.drop i) ∧ fin k2 (l.drop a2) ≤ (l.drop a2).length ∧ m' = fin k2 (l.drop a2), fun σ' H' h => h, ?_⟩
      refine ⟨_, rfl, _, _, rfl, rfl, _, rfl, _, rfl, _, _, _, rfl, rfl, (by rw [stS_len]; omega), atI_nat (List.getElem?_eq_getElem hat), rfl, .inr ⟨_, rfl, _, _, rfl, rfl, .inl (by decide), _, _, rfl, rfl, ?_⟩⟩
      refine ⟨_, rfl, _, _, rfl, rfl, ?_⟩
      show ∃ m', _ ∧ ∃ (a2 k2 : Nat), [some (V.str (stS l)), some (V.int ((at' : Int) + 1)), some (V.int (((k + 1 : Nat) : Int) + 1 - 2 * (if decide (V.str (stS [l[at']]) = V.str "0") = true then 1 else 0)))] = _ ∧ _
      rw [sig01]
      rw [ed] at e1 e2
      have hc := ha l[at'] (List.getElem_mem hat)
      by_cases h48 : l[at'] = 48
      · rw [h48] at e1 e2
        have e3 : fin (k + 1) (48 :: l.drop (at' + 1)) = 1 + fin k (l.drop (at' + 1)) := rfl
        rw [e3] at e1 e2
        rw [decide_eq_true h48]
        refine ⟨fin k (l.drop (at' + 1)), ?_, at' + 1, k, ?_, rfl, by omega, by simp at e2 ⊢; omega, rfl⟩
        · rw [ed, h48, e3]
          omega
        · rw [show ((k + 1 : Nat) : Int) + 1 - 2 * (if true = true then 1 else 0) = (k : Int) by simp; omega]
          rfl
      · have h49 : l[at'] = 49 := by omega
        rw [h49] at e1 e2
        have e3 : fin (k + 1) (49 :: l.drop (at' + 1)) = 1 + fin (k + 2) (l.drop (at' + 1)) := rfl
        rw [e3] at e1 e2
        rw [decide_eq_false h48]
        refine ⟨fin (k + 2) (l.drop (at' + 1)), ?_, at' + 1, k + 2, ?_, rfl, by omega, by simp at e2 ⊢; omega, rfl⟩
        · rw [ed, h49, e3]
          omega
        · rw [show ((k + 1 : Nat) : Int) + 1 - 2 * (if false = true then 1 else 0) = ((k + 2 : Nat) : Int) by simp; omega]
          rfl
abbrev s_law_head : Stmt := topS 15
abbrev nm_law_head : List Str := ["tree"]
theorem sc_law_head : FnScope nm_law_head ["tree"] (defScope s_law_head) := ⟨rfl, rfl, rfl, by decide +kernel, rfl, by decide +kernel, by decide +kernel⟩
def sp_law_head (K : PySem.W.Frag) (cl : Cn → Addr) : Sp := fun vs H Q _ => ∃ t : Tr, vs = [.str t.str] ∧ t.sg.length ≤ 1000000 ∧ Q (.str t.hd.str) H
theorem ok_law_head (T : Txt K mg cl w) (H_law_end : Has P w K mg base CX0 1 "_law_end" ["tree", "at"] (sp_law_end K cl)) {f : Addr} {fd : FuncData} (F : Fun K "_law_head" "_law_head" s_law_head f fd) : FnOk P w K mg base CX0 2 f fd ["tree"] (sp_law_head K cl) := by
  obtain ⟨f_law_end, d_law_end, G_law_end, g_law_end, k_law_end, b_law_end⟩ := H_law_end.ex
  refine F.ok sc_law_head (fun vs H Q E h => ?_) (fun cdv A outer s H vs Q E hr h => ?_)
  · obtain ⟨x, rfl, _⟩ := h
    rfl
  · obtain ⟨t, rfl, hz, q⟩ := h
    refine ⟨_, (pss_cons (ps_if (pt_cmpR op_eq (pv 0) pe_str (nomark _)) (pss_one (ps_ret pe_str)) pss_nil)
      (pss_one (ps_ret (pe_slice sl_str (pv 0) (po_some pe_int) (po_some (pe_call G_law_end (hr.mono (by decide)) (by rfl) g_law_end k_law_end b_law_end .nil pass0 (pa_cons (pv 0) (pa_cons pe_int pa_nil)))))))), ?_⟩
    refine ⟨_, rfl, rfl, _, rfl, ?_⟩
    have sz : sizeLine = 16777216 := rfl
    have tl := t.str_len
    rw [s0]
    rcases leaf_or (t := t) with ⟨e, e1, e2⟩ | ⟨a, b, rfl⟩
    · rw [e1] at q
      rw [e]
      rw [decide_eq_true (show V.str Tr.leaf.str = V.str (stS [48]) from rfl)]
      exact iteT q
    · rw [decide_eq_false (fun z => node_ne a b (V.str.inj z))]
      refine iteF ⟨_, rfl, 1, rfl, _, rfl, (Tr.node a b).sg, 1, rfl, (Tr.node a b).sg_01, hz, node_fin a b, _, rfl, _, rfl, (by omega), ?_⟩
      have := cut_both (Tr.node a b).sg 1 (1 + fin 1 ((Tr.node a b).sg.drop 1))
      rw [node_hd] at this
      show Q (V.str (cutS (stS (Tr.node a b).sg) (some ((1 : Nat) : Int)) (some ((1 + fin 1 ((Tr.node a b).sg.drop 1) : Nat) : Int)))) H
      rw [this]
      exact q
abbrev s_law_tail : Stmt := topS 16
abbrev nm_law_tail : List Str := ["tree"]
theorem sc_law_tail : FnScope nm_law_tail ["tree"] (defScope s_law_tail) := ⟨rfl, rfl, rfl, by decide +kernel, rfl, by decide +kernel, by decide +kernel⟩
def sp_law_tail (K : PySem.W.Frag) (cl : Cn → Addr) : Sp := fun vs H Q _ => ∃ t : Tr, vs = [.str t.str] ∧ t.sg.length ≤ 1000000 ∧ Q (.str t.tl.str) H
theorem ok_law_tail (T : Txt K mg cl w) (H_law_end : Has P w K mg base CX0 1 "_law_end" ["tree", "at"] (sp_law_end K cl)) {f : Addr} {fd : FuncData} (F : Fun K "_law_tail" "_law_tail" s_law_tail f fd) : FnOk P w K mg base CX0 2 f fd ["tree"] (sp_law_tail K cl) := by
  obtain ⟨f_law_end, d_law_end, G_law_end, g_law_end, k_law_end, b_law_end⟩ := H_law_end.ex
  refine F.ok sc_law_tail (fun vs H Q E h => ?_) (fun cdv A outer s H vs Q E hr h => ?_)
  · obtain ⟨x, rfl, _⟩ := h
    rfl
  · obtain ⟨t, rfl, hz, q⟩ := h
    refine ⟨_, (pss_cons (ps_if (pt_cmpR op_eq (pv 0) pe_str (nomark _)) (pss_one (ps_ret pe_str)) pss_nil)
      (pss_one (ps_ret (pe_slice sl_str (pv 0) (po_some (pe_call G_law_end (hr.mono (by decide)) (by rfl) g_law_end k_law_end b_law_end .nil pass0 (pa_cons (pv 0) (pa_cons pe_int pa_nil)))) po_none)))), ?_⟩
    refine ⟨_, rfl, rfl, _, rfl, ?_⟩
    have sz : sizeLine = 16777216 := rfl
    have tl := t.str_len
    rw [s0]
    rcases leaf_or (t := t) with ⟨e, e1, e2⟩ | ⟨a, b, rfl⟩
    · rw [e2] at q
      rw [e]
      rw [decide_eq_true (show V.str Tr.leaf.str = V.str (stS [48]) from rfl)]
      exact iteT q
    · rw [decide_eq_false (fun z => node_ne a b (V.str.inj z))]
      refine iteF ⟨_, rfl, _, rfl, (Tr.node a b).sg, 1, rfl, (Tr.node a b).sg_01, hz, node_fin a b, _, rfl, _, rfl, (by omega), ?_⟩
      have := cut_from (Tr.node a b).sg (1 + fin 1 ((Tr.node a b).sg.drop 1))
      rw [node_tl] at this
      show Q (V.str (cutS (stS (Tr.node a b).sg) (some ((1 + fin 1 ((Tr.node a b).sg.drop 1) : Nat) : Int)) none)) H
      rw [this]
      exact q
abbrev s_law : Stmt := topS 19
abbrev nm_law : List Str := ["script", "stream", "one", "two", "due", "actual"]
theorem sc_law : FnScope nm_law ["script"] (defScope s_law) := ⟨rfl, rfl, rfl, by decide +kernel, rfl, by decide +kernel, by decide +kernel⟩
def sp_law (K : PySem.W.Frag) (cl : Cn → Addr) : Sp := fun vs H Q _ => ∃ (a : Addr) (ns : List Int), vs = [.ref a] ∧ SqL K H a (ns.map V.int) ∧ ns.length ≤ 63 ∧ ∀ H', Q (.bl true) H'
theorem ok_law (T : Txt K mg cl w) (H_law_stream : Has P w K mg base CX0 1 "_law_stream" ["script"] (sp_law_stream K cl)) (H_law_tree : Has P w K mg base CX0 2 "_law_tree" ["stream", "pairs"] (sp_law_tree K cl)) (H_law_told : Has P w K mg base CX0 2 "_law_told" ["first", "second"] (sp_law_told K cl)) (H_law_draw : Has P w K mg base CX0 1 "_law_draw" ["stream", "many"] (sp_law_draw K cl)) (H_head : Has P w K mg base CX0 2 "head" ["tree"] (sp_head K cl)) (H_tail : Has P w K mg base CX0 2 "tail" ["tree"] (sp_tail K cl)) (H_law_head : Has P w K mg base CX0 2 "_law_head" ["tree"] (sp_law_head K cl)) (H_law_tail : Has P w K mg base CX0 2 "_law_tail" ["tree"] (sp_law_tail K cl)) {f : Addr} {fd : FuncData} (F : Fun K "law" "law" s_law f fd) : FnOk P w K mg base CX0 3 f fd ["script"] (sp_law K cl) := by
  have m_len := T.m_len
  obtain ⟨f_law_stream, d_law_stream, G_law_stream, g_law_stream, k_law_stream, b_law_stream⟩ := H_law_stream.ex
  obtain ⟨f_law_tree, d_law_tree, G_law_tree, g_law_tree, k_law_tree, b_law_tree⟩ := H_law_tree.ex
  obtain ⟨f_law_told, d_law_told, G_law_told, g_law_told, k_law_told, b_law_told⟩ := H_law_told.ex
  obtain ⟨f_law_draw, d_law_draw, G_law_draw, g_law_draw, k_law_draw, b_law_draw⟩ := H_law_draw.ex
  obtain ⟨f_head, d_head, G_head, g_head, k_head, b_head⟩ := H_head.ex
  obtain ⟨f_tail, d_tail, G_tail, g_tail, k_tail, b_tail⟩ := H_tail.ex
  obtain ⟨f_law_head, d_law_head, G_law_head, g_law_head, k_law_head, b_law_head⟩ := H_law_head.ex
  obtain ⟨f_law_tail, d_law_tail, G_law_tail, g_law_tail, k_law_tail, b_law_tail⟩ := H_law_tail.ex
  refine F.ok sc_law (fun vs H Q E h => ?_) (fun cdv A outer s H vs Q E hr h => ?_)
  · obtain ⟨x, i, rfl, _⟩ := h
    rfl
  · obtain ⟨a, ns, rfl, hS, hlen, q⟩ := h
    have hz : sizeLine = 16777216 := rfl
    refine ⟨_, (pss_cons (ps_set (i := 1) sc_law.nd rfl (Or.inl rfl) (pe_call G_law_stream (hr.mono (by decide)) (by rfl) g_law_stream k_law_stream b_law_stream .nil pass0 (pa_cons (pv 0) pa_nil)))
      (pss_cons (ps_set (i := 2) sc_law.nd rfl (Or.inl rfl) (pe_call G_law_tree (hr.mono (by decide)) (by rfl) g_law_tree k_law_tree b_law_tree .nil pass0 (pa_cons (pv 1) (pa_cons (pe_call G_law_draw (hr.mono (by decide)) (by rfl) g_law_draw k_law_draw b_law_draw .nil pass0 (pa_cons (pv 1) (pa_cons pe_int pa_nil))) pa_nil))))
      (pss_cons (ps_set (i := 3) sc_law.nd rfl (Or.inl rfl) (pe_call G_law_tree (hr.mono (by decide)) (by rfl) g_law_tree k_law_tree b_law_tree .nil pass0 (pa_cons (pv 1) (pa_cons (pe_call G_law_draw (hr.mono (by decide)) (by rfl) g_law_draw k_law_draw b_law_draw .nil pass0 (pa_cons (pv 1) (pa_cons pe_int pa_nil))) pa_nil))))
      (Evl.pss_cut (ps_if (pt_cmpR op_eq (pe_call G_law_draw (hr.mono (by decide)) (by rfl) g_law_draw k_law_draw b_law_draw .nil pass0 (pa_cons (pv 1) (pa_cons pe_int pa_nil))) pe_int (nomark _)) (pss_cons (ps_set (i := 2) sc_law.nd rfl (Or.inl rfl) (pe_op op_add_str (pe_op op_mulS pe_str (pe_op op_add pe_int (pe_call G_law_draw (hr.mono (by decide)) (by rfl) g_law_draw k_law_draw b_law_draw .nil pass0 (pa_cons (pv 1) (pa_cons pe_int pa_nil))))) pe_str))
      (pss_cons (ps_set (i := 3) sc_law.nd rfl (Or.inl rfl) (pe_op op_mulS pe_str (pe_op op_add pe_int (pe_call G_law_draw (hr.mono (by decide)) (by rfl) g_law_draw k_law_draw b_law_draw .nil pass0 (pa_cons (pv 1) (pa_cons pe_int pa_nil))))))
      (pss_one (ps_set (i := 3) sc_law.nd rfl (Or.inl rfl) (pe_op op_add_str (pv 3) (pe_op op_mulS pe_str (pe_op op_add (pe_callB call_len_str (by rfl) m_len (by decide +kernel) (pa_cons (pv 3) pa_nil)) pe_int))))))) pss_nil)
      (pss_cons (ps_set (i := 4) sc_law.nd rfl (Or.inl rfl) (pe_op op_add_str (pe_op op_add_str pe_str (pv 2)) (pv 3)))
      (pss_cons (ps_set (i := 5) sc_law.nd rfl (Or.inl rfl) (pe_call G_law_told (hr.mono (by decide)) (by rfl) g_law_told k_law_told b_law_told .nil pass0 (pa_cons (pv 2) (pa_cons (pv 3) pa_nil))))
      (pss_cons (ps_if (pt_cmpR op_gt (pe_callB call_len_str (by rfl) m_len (by decide +kernel) (pa_cons (pv 4) pa_nil)) pe_int (nomark _)) (pss_one (ps_ret (pe_cmpR (op_eqD hr.units) (pv 5) (pe_tup (pa_cons pe_str pa_nil)) (nomark _)))) pss_nil)
      (pss_cons (ps_if (PW.pt (pw_or (pt_cmpR (op_neD hr.units) (pv 5) (pv 4) (nomark _)) (pw_or (pt_cmpR op_ne (pe_call G_head (hr.mono (by decide)) (by rfl) g_head k_head b_head .nil pass0 (pa_cons (pv 4) pa_nil)) (pv 2) (nomark _)) (pw_or (pt_cmpR op_ne (pe_call G_tail (hr.mono (by decide)) (by rfl) g_tail k_tail b_tail .nil pass0 (pa_cons (pv 4) pa_nil)) (pv 3) (nomark _)) (pw_or (pt_cmpR op_ne (pe_call G_head (hr.mono (by decide)) (by rfl) g_head k_head b_head .nil pass0 (pa_cons pe_str pa_nil)) pe_str (nomark _)) (pw_or1 (pt_cmpR op_ne (pe_call G_tail (hr.mono (by decide)) (by rfl) g_tail k_tail b_tail .nil pass0 (pa_cons pe_str pa_nil)) pe_str (nomark _)))))))) (pss_one (ps_ret pe_bl)) pss_nil)
      (pss_one (ps_ret (pe_and (pe_cmpR op_eq (pe_call G_head (hr.mono (by decide)) (by rfl) g_head k_head b_head .nil pass0 (pa_cons (pv 2) pa_nil)) (pe_call G_law_head (hr.mono (by decide)) (by rfl) g_law_head k_law_head b_law_head .nil pass0 (pa_cons (pv 2) pa_nil)) (nomark _)) (pe_one (pe_cmpR op_eq (pe_call G_tail (hr.mono (by decide)) (by rfl) g_tail k_tail b_tail .nil pass0 (pa_cons (pv 2) pa_nil)) (pe_call G_law_tail (hr.mono (by decide)) (by rfl) g_law_tail k_law_tail b_law_tail .nil pass0 (pa_cons (pv 2) pa_nil)) (nomark _)))))))))))))), ?_⟩
    refine ⟨_, rfl, a, ns, rfl, hS, hlen, fun st H1 sm n0 st1 => ?_⟩
    refine ⟨_, rfl, _, rfl, st, _, rfl, by decide, by decide, st1, fun k H2 hk ex2 st2 => ?_⟩
    refine ⟨st, k, rfl, by omega, st2, fun t1 H3 ht1 ex3 st3 => ?_⟩
    refine ⟨_, rfl, _, rfl, st, _, rfl, by decide, by decide, st3, fun k2 H4 hk2 ex4 st4 => ?_⟩
    refine ⟨st, k2, rfl, by omega, st4, fun t2 H5 ht2 ex5 st5 => ?_⟩
    refine ⟨fun σ H' => ∃ (t1 t2 : Tr), t1.sg.length ≤ 110000 ∧ t2.sg.length ≤ 110000 ∧ σ = [some (.ref a), some (.ref st), some (.str t1.str), some (.str t2.str), none, none], ?_, ?_⟩
    · refine ⟨_, rfl, st, _, rfl, by decide, by decide, st5, fun d1 H6 hd1 ex6 st6 => ?_⟩
      refine ⟨rfl, _, rfl, ?_⟩
      have l1 := t1.sg_len
      have l2 := t2.sg_len
      refine ite2 (fun c => ?_) (fun c => ⟨t1, t2, by omega, by omega, rfl⟩)
      refine ⟨_, rfl, st, _, rfl, by decide, by decide, st6, fun d2 H7 hd2 ex7 st7 => ?_⟩
      have e1 : ((49995 : Int) + (d2 : Int)).toNat = 49995 + d2 := by omega
      have z1 := repL_len (49995 + d2) (Str.ofString "10").cps.toList
      have w1 : (Str.ofString "10").cps.toList.length = 2 := by decide +kernel
      refine ⟨_, _, rfl, rfl, _, _, rfl, rfl, (by omega), (by omega), (by show 2 * _ ≤ _; omega), _, _, rfl, rfl, (by rw [stS_len, e1]; show _ + 1 ≤ _; rw [z1, w1]; omega), ?_⟩
      refine ⟨_, rfl, st, _, rfl, by decide, by decide, st7, fun d3 H8 hd3 ex8 st8 => ?_⟩
      have e2 : ((49995 : Int) + (d3 : Int)).toNat = 49995 + d3 := by omega
      have z2 := repL_len (49995 + d3) (Str.ofString "1").cps.toList
      have w2 : (Str.ofString "1").cps.toList.length = 1 := by decide +kernel
      have w3 : (Str.ofString "0").cps.toList.length = 1 := by decide +kernel
      refine ⟨_, _, rfl, rfl, _, _, rfl, rfl, (by omega), (by omega), (by show 1 * _ ≤ _; omega), ?_⟩
      rw [e2, e1]
      have z3 : (stS (repL (49995 + d3) (Str.ofString "1").cps.toList)).length = 49995 + d3 := by
        rw [stS_len, z2, w2]
        omega
      refine ⟨_, rfl, _, rfl, _, rfl, (by omega), _, _, rfl, rfl, _, _, rfl, rfl, (by omega), (by omega), (by show 1 * _ ≤ _; omega), _, _, rfl, rfl, (by rw [z3, stS_len, repL_len, w3]; omega), ?_⟩
      rw [z3, show (((49995 + d3 : Nat) : Int) + 1).toNat = 49995 + d3 + 1 by omega, ch_str, num_str]
      exact ⟨numT (49995 + d2), chT (49995 + d3), by rw [numT_len]; omega, by rw [chT_len]; omega, rfl⟩
    · rintro σ H6 ⟨t1, t2, hl1, hl2, rfl⟩
      have l1 := t1.str_len
      have l2 := t2.str_len
      refine ⟨_, rfl, _, _, rfl, rfl, (by show 1 + t1.str.length ≤ _; omega), _, rfl, _, _, rfl, rfl, (by rw [Str.length_append]; show 1 + t1.str.length + t2.str.length ≤ _; omega), ?_⟩
      rw [str_cons]
      have hn : (Tr.node t1 t2).sg.length = 1 + t1.sg.length + t2.sg.length := by
        show (t1.sg ++ t2.sg).length + 1 = _
        rw [List.length_append]
        omega
      have hn2 := (Tr.node t1 t2).str_len
      refine ⟨_, rfl, _, rfl, t1.str, t2.str, rfl, by omega, by omega, fun c H7 sm7 => ?_, fun c p H7 sm7 hp => ?_⟩
      · rw [cons_str]
        refine ⟨_, rfl, _, rfl, (by omega), _, _, rfl, rfl, _, rfl, ?_⟩
        rw [decide_eq_false (by omega)]
        refine iteF ⟨_, rfl, _, rfl, _, _, .str _, .str _, shaped_01 (Tr.sg_01 _), shaped_01 (Tr.sg_01 _), _, rfl, ?_⟩
        rw [eqv_str]
        refine iteF ⟨_, rfl, Tr.node t1 t2, rfl, by omega, _, rfl, rfl, _, rfl, iteNS rfl ?_⟩
        refine ⟨_, rfl, Tr.node t1 t2, rfl, by omega, _, rfl, rfl, _, rfl, iteNS rfl ?_⟩
        refine ⟨.leaf, (by show [V.str "0"] = [V.str (stS [48])]; rw [s0]), by decide, rfl, _, rfl, ?_⟩
        rw [decide_eq_true (show V.str Tr.leaf.hd.str = V.str "0" by rw [s0]; rfl)]
        refine iteF ⟨.leaf, (by show [V.str "0"] = [V.str (stS [48])]; rw [s0]), by decide, rfl, _, rfl, ?_⟩
        rw [decide_eq_true (show V.str Tr.leaf.tl.str = V.str "0" by rw [s0]; rfl)]
        refine iteF ⟨_, rfl, t1, rfl, by omega, _, rfl, t1, rfl, by omega, rfl, _, rfl, ?_⟩
        rw [decide_eq_true rfl]
        refine iteT ⟨_, rfl, t1, rfl, by omega, _, rfl, t1, rfl, by omega, rfl, ?_⟩
        rw [decide_eq_true rfl]
        exact q _
      · refine ⟨_, rfl, _, rfl, (by omega), _, _, rfl, rfl, _, rfl, ?_⟩
        rw [decide_eq_true (by omega)]
        refine iteT ⟨_, rfl, (by show 1 ≤ sizeLine; decide), fun p2 np2 => ⟨.tuple [.str "large"], .tuple [.str "large"], .tup (SqT.of (Same.upd np2 _ _ hp)) (.cons (.str _) .nil), .tup (SqT.of upd_same) (.cons (.str _) .nil), (by decide +kernel), (by decide +kernel), ?_⟩⟩
        rw [show PyData.eqv (.tuple [.str "large"]) (.tuple [.str "large"]) = true by decide +kernel]
        exact q _
end
theorem all_mk {l : PySem.W.OpenLaw} {w : World} {K : PySem.W.Frag} {h : Heap} {mg : Str → Option Value} {fa f0 f1 f2 f3 f4 f5 f6 f7 f8 f9 f10 f11 f12 A_NarcissusError A_TooLarge : Addr} (X : K.In h) (G : h.Ns mainGlobals mg) (hfa : mg "law" = some (.ref fa))
    {od0 an0 od1 an1 od2 an2 od3 an3 od4 an4 od5 an5 od6 an6 od7 an7 od8 an8 od9 an9 od10 an10 od11 an11 od12 an12 : Option Addr} {sl0 sl1 sl2 sl3 sl4 sl5 sl6 sl7 sl8 sl9 sl10 sl11 sl12 : Array (Option Value)} {oc0 kV0 dc0 pm0 cd0 ct0 oc1 kV1 dc1 pm1 cd1 ct1 oc2 kV2 dc2 pm2 cd2 ct2 oc3 kV3 dc3 pm3 cd3 ct3 oc4 kV4 dc4 pm4 cd4 ct4 oc5 kV5 dc5 pm5 cd5 ct5 oc6 kV6 dc6 pm6 cd6 ct6 oc7 kV7 dc7 pm7 cd7 ct7 oc8 kV8 dc8 pm8 cd8 ct8 oc9 kV9 dc9 pm9 cd9 ct9 oc10 kV10 dc10 pm10 cd10 ct10 oc11 kV11 dc11 pm11 cd11 ct11 oc12 kV12 dc12 pm12 cd12 ct12 : Value} {tk_MOST_TREE tk_LEAF : Tok}
    (a0 : PySem.W.nsIn K mainGlobals "_law_stream" = some (some (.ref f0))) (l0 : K.lookup f0 = some ⟨oc0, od0, .func (PySem.W.fnOf "_law_stream" "_law_stream" (defArgs s_law_stream) (defBody s_law_stream) (defScope s_law_stream) .none kV0 dc0 pm0 an0 cd0 ct0), sl0⟩) (c0 : PySem.W.codeIn K cd0 "_law_stream" = true) (k0 : PySem.W.keepIn K (.ref f0) = true)
    (a1 : PySem.W.nsIn K mainGlobals "_law_draw" = some (some (.ref f1))) (l1 : K.lookup f1 = some ⟨oc1, od1, .func (PySem.W.fnOf "_law_draw" "_law_draw" (defArgs s_law_draw) (defBody s_law_draw) (defScope s_law_draw) .none kV1 dc1 pm1 an1 cd1 ct1), sl1⟩) (c1 : PySem.W.codeIn K cd1 "_law_draw" = true) (k1 : PySem.W.keepIn K (.ref f1) = true)
    (a2 : PySem.W.nsIn K mainGlobals "_law_tree" = some (some (.ref f2))) (l2 : K.lookup f2 = some ⟨oc2, od2, .func (PySem.W.fnOf "_law_tree" "_law_tree" (defArgs s_law_tree) (defBody s_law_tree) (defScope s_law_tree) .none kV2 dc2 pm2 an2 cd2 ct2), sl2⟩) (c2 : PySem.W.codeIn K cd2 "_law_tree" = true) (k2 : PySem.W.keepIn K (.ref f2) = true)
    (a3 : PySem.W.nsIn K mainGlobals "_law_given" = some (some (.ref f3))) (l3 : K.lookup f3 = some ⟨oc3, od3, .func (PySem.W.fnOf "_law_given" "_law_given" (defArgs s_law_given) (defBody s_law_given) (defScope s_law_given) .none kV3 dc3 pm3 an3 cd3 ct3), sl3⟩) (c3 : PySem.W.codeIn K cd3 "_law_given" = true) (k3 : PySem.W.keepIn K (.ref f3) = true)
    (a4 : PySem.W.nsIn K mainGlobals "cons" = some (some (.ref f4))) (l4 : K.lookup f4 = some ⟨oc4, od4, .func (PySem.W.fnOf "cons" "cons" (defArgs s_cons) (defBody s_cons) (defScope s_cons) .none kV4 dc4 pm4 an4 cd4 ct4), sl4⟩) (c4 : PySem.W.codeIn K cd4 "cons" = true) (k4 : PySem.W.keepIn K (.ref f4) = true)
    (a5 : PySem.W.nsIn K mainGlobals "_law_told" = some (some (.ref f5))) (l5 : K.lookup f5 = some ⟨oc5, od5, .func (PySem.W.fnOf "_law_told" "_law_told" (defArgs s_law_told) (defBody s_law_told) (defScope s_law_told) .none kV5 dc5 pm5 an5 cd5 ct5), sl5⟩) (c5 : PySem.W.codeIn K cd5 "_law_told" = true) (k5 : PySem.W.keepIn K (.ref f5) = true)
    (a6 : PySem.W.nsIn K mainGlobals "end_of" = some (some (.ref f6))) (l6 : K.lookup f6 = some ⟨oc6, od6, .func (PySem.W.fnOf "end_of" "end_of" (defArgs s_end_of) (defBody s_end_of) (defScope s_end_of) .none kV6 dc6 pm6 an6 cd6 ct6), sl6⟩) (c6 : PySem.W.codeIn K cd6 "end_of" = true) (k6 : PySem.W.keepIn K (.ref f6) = true)
    (a7 : PySem.W.nsIn K mainGlobals "head" = some (some (.ref f7))) (l7 : K.lookup f7 = some ⟨oc7, od7, .func (PySem.W.fnOf "head" "head" (defArgs s_head) (defBody s_head) (defScope s_head) .none kV7 dc7 pm7 an7 cd7 ct7), sl7⟩) (c7 : PySem.W.codeIn K cd7 "head" = true) (k7 : PySem.W.keepIn K (.ref f7) = true)
    (a8 : PySem.W.nsIn K mainGlobals "tail" = some (some (.ref f8))) (l8 : K.lookup f8 = some ⟨oc8, od8, .func (PySem.W.fnOf "tail" "tail" (defArgs s_tail) (defBody s_tail) (defScope s_tail) .none kV8 dc8 pm8 an8 cd8 ct8), sl8⟩) (c8 : PySem.W.codeIn K cd8 "tail" = true) (k8 : PySem.W.keepIn K (.ref f8) = true)
    (a9 : PySem.W.nsIn K mainGlobals "_law_end" = some (some (.ref f9))) (l9 : K.lookup f9 = some ⟨oc9, od9, .func (PySem.W.fnOf "_law_end" "_law_end" (defArgs s_law_end) (defBody s_law_end) (defScope s_law_end) .none kV9 dc9 pm9 an9 cd9 ct9), sl9⟩) (c9 : PySem.W.codeIn K cd9 "_law_end" = true) (k9 : PySem.W.keepIn K (.ref f9) = true)
    (a10 : PySem.W.nsIn K mainGlobals "_law_head" = some (some (.ref f10))) (l10 : K.lookup f10 = some ⟨oc10, od10, .func (PySem.W.fnOf "_law_head" "_law_head" (defArgs s_law_head) (defBody s_law_head) (defScope s_law_head) .none kV10 dc10 pm10 an10 cd10 ct10), sl10⟩) (c10 : PySem.W.codeIn K cd10 "_law_head" = true) (k10 : PySem.W.keepIn K (.ref f10) = true)
    (a11 : PySem.W.nsIn K mainGlobals "_law_tail" = some (some (.ref f11))) (l11 : K.lookup f11 = some ⟨oc11, od11, .func (PySem.W.fnOf "_law_tail" "_law_tail" (defArgs s_law_tail) (defBody s_law_tail) (defScope s_law_tail) .none kV11 dc11 pm11 an11 cd11 ct11), sl11⟩) (c11 : PySem.W.codeIn K cd11 "_law_tail" = true) (k11 : PySem.W.keepIn K (.ref f11) = true)
    (a12 : PySem.W.nsIn K mainGlobals "law" = some (some (.ref f12))) (l12 : K.lookup f12 = some ⟨oc12, od12, .func (PySem.W.fnOf "law" "law" (defArgs s_law) (defBody s_law) (defScope s_law) .none kV12 dc12 pm12 an12 cd12 ct12), sl12⟩) (c12 : PySem.W.codeIn K cd12 "law" = true) (k12 : PySem.W.keepIn K (.ref f12) = true)
    (z_list : PySem.W.nsIn K mainGlobals "list" = some none)
    (z_int : PySem.W.nsIn K mainGlobals "int" = some none)
    (z_abs : PySem.W.nsIn K mainGlobals "abs" = some none)
    (z_len : PySem.W.nsIn K mainGlobals "len" = some none)
    (z_isinstance : PySem.W.nsIn K mainGlobals "isinstance" = some none)
    (z_tuple : PySem.W.nsIn K mainGlobals "tuple" = some none)
    (z_ValueError : PySem.W.nsIn K mainGlobals "ValueError" = some none)
    (z_MOST_TREE : PySem.W.nsIn K mainGlobals "MOST_TREE" = some (some (.int 200000 tk_MOST_TREE)))
    (z_LEAF : PySem.W.nsIn K mainGlobals "LEAF" = some (some (.str "0" tk_LEAF)))
    (y_NarcissusError : PySem.W.nsIn K mainGlobals "NarcissusError" = some (some (.ref A_NarcissusError)))
    (y_NarcissusError_x : PySem.W.excIn K A_NarcissusError [.type "ValueError", .type "Exception", .type "BaseException", .type "object"] "ValueError.__new__" = true)
    (y_NarcissusError_k : PySem.W.keepIn K (.ref A_NarcissusError) = true)
    (y_NarcissusError_b : PySem.W.subIn K (.ref A_NarcissusError) (.type "BaseException") = some true)
    (y_NarcissusError_t : PySem.W.typeIn K (.ref A_NarcissusError) = some (.type "type"))
    (y_NarcissusError_ga : PySem.W.findIn K (.ref A_NarcissusError) "__getattribute__" = some (some (.builtin "BaseException.__getattribute__")))
    (y_NarcissusError_gt : PySem.W.findIn K (.ref A_NarcissusError) "__getattr__" = some none)
    (y_NarcissusError_hd : PySem.W.hasDictIn K A_NarcissusError = true)
    (y_NarcissusError_ca : PySem.W.findIn K (.ref A_NarcissusError) "__class__" = some (some (.builtin "object.__class__")))
    (y_NarcissusError_sg : PySem.W.specialIn K (.builtin "object.__class__") "__get__" = some (some (.builtin "getset_descriptor.__get__")))
    (y_NarcissusError_ta : PySem.W.takesIn K (.builtin "object.__class__") = some true)
    (y_NarcissusError_mr : PySem.W.mroIn K A_NarcissusError (.type "object") = some true)
    (y_NarcissusError_k_NarcissusError : PySem.W.kitOne K (.ref A_NarcissusError) (.ref A_NarcissusError) = some true) (y_NarcissusError_s_NarcissusError : PySem.W.subIn K (.ref A_NarcissusError) (.ref A_NarcissusError) = some true)
    (y_NarcissusError_k_TooLarge : PySem.W.kitOne K (.ref A_NarcissusError) (.ref A_TooLarge) = some false) (y_NarcissusError_s_TooLarge : PySem.W.subIn K (.ref A_NarcissusError) (.ref A_TooLarge) = some false)
    (y_NarcissusError_q : PySem.W.kitOne K (.ref A_NarcissusError) (.type "ValueError") = some true)
    (y_TooLarge : PySem.W.nsIn K mainGlobals "TooLarge" = some (some (.ref A_TooLarge)))
    (y_TooLarge_x : PySem.W.excIn K A_TooLarge [.type "ValueError", .type "Exception", .type "BaseException", .type "object"] "ValueError.__new__" = true)
    (y_TooLarge_k : PySem.W.keepIn K (.ref A_TooLarge) = true)
    (y_TooLarge_b : PySem.W.subIn K (.ref A_TooLarge) (.type "BaseException") = some true)
    (y_TooLarge_t : PySem.W.typeIn K (.ref A_TooLarge) = some (.type "type"))
    (y_TooLarge_ga : PySem.W.findIn K (.ref A_TooLarge) "__getattribute__" = some (some (.builtin "BaseException.__getattribute__")))
    (y_TooLarge_gt : PySem.W.findIn K (.ref A_TooLarge) "__getattr__" = some none)
    (y_TooLarge_hd : PySem.W.hasDictIn K A_TooLarge = true)
    (y_TooLarge_ca : PySem.W.findIn K (.ref A_TooLarge) "__class__" = some (some (.builtin "object.__class__")))
    (y_TooLarge_sg : PySem.W.specialIn K (.builtin "object.__class__") "__get__" = some (some (.builtin "getset_descriptor.__get__")))
    (y_TooLarge_ta : PySem.W.takesIn K (.builtin "object.__class__") = some true)
    (y_TooLarge_mr : PySem.W.mroIn K A_TooLarge (.type "object") = some true)
    (y_TooLarge_k_NarcissusError : PySem.W.kitOne K (.ref A_TooLarge) (.ref A_NarcissusError) = some true) (y_TooLarge_s_NarcissusError : PySem.W.subIn K (.ref A_TooLarge) (.ref A_NarcissusError) = some true)
    (y_TooLarge_k_TooLarge : PySem.W.kitOne K (.ref A_TooLarge) (.ref A_TooLarge) = some true) (y_TooLarge_s_TooLarge : PySem.W.subIn K (.ref A_TooLarge) (.ref A_TooLarge) = some true)
    (y_TooLarge_q : PySem.W.kitOne K (.ref A_TooLarge) (.type "ValueError") = some true)
    : ∃ fd : FuncData, (∀ (s : Shared) (v : Value), BindsTo s fd ⟨[v], []⟩ [("script", v)]) ∧ ∀ base : Heap, K.In base → base.Ns mainGlobals mg → FnOk l.prog w K mg base CX0 3 fa fd ["script"] (sp_law K (fun _ => 0)) := by
  have e := hfa.symm.trans (PySem.W.mg_of X G a12)
  cases e
  let cl : Cn → Addr := fun n => match n with | .NarcissusError => A_NarcissusError | .TooLarge => A_TooLarge | .BadText => 0 | .NoCode => 0 | .Ended => 0 | .OutOfSteps => 0 | .TooWide => 0 | .BadClaim => 0 | .Machine => 0 | .SHAPES => 0 | .WORDS => 0
  have T : Txt K mg cl w := ⟨PySem.W.mg_none_of X G z_list, PySem.W.mg_none_of X G z_int, PySem.W.mg_none_of X G z_abs, PySem.W.mg_none_of X G z_len, PySem.W.mg_none_of X G z_isinstance, PySem.W.mg_none_of X G z_tuple, PySem.W.mg_none_of X G z_ValueError, ⟨_, PySem.W.mg_of X G z_MOST_TREE⟩, ⟨_, PySem.W.mg_of X G z_LEAF⟩, ⟨PySem.W.mg_of X G y_NarcissusError, ⟨y_NarcissusError_x, y_NarcissusError_k, y_NarcissusError_b, y_NarcissusError_t, ⟨y_NarcissusError_ga, y_NarcissusError_gt, y_NarcissusError_b, y_NarcissusError_hd, y_NarcissusError_ca, y_NarcissusError_sg, y_NarcissusError_ta, y_NarcissusError_mr⟩⟩⟩, ⟨y_NarcissusError_k_NarcissusError, y_NarcissusError_s_NarcissusError⟩, ⟨y_NarcissusError_k_TooLarge, y_NarcissusError_s_TooLarge⟩, y_NarcissusError_q, ⟨PySem.W.mg_of X G y_TooLarge, ⟨y_TooLarge_x, y_TooLarge_k, y_TooLarge_b, y_TooLarge_t, ⟨y_TooLarge_ga, y_TooLarge_gt, y_TooLarge_b, y_TooLarge_hd, y_TooLarge_ca, y_TooLarge_sg, y_TooLarge_ta, y_TooLarge_mr⟩⟩⟩, ⟨y_TooLarge_k_NarcissusError, y_TooLarge_s_NarcissusError⟩, ⟨y_TooLarge_k_TooLarge, y_TooLarge_s_TooLarge⟩, y_TooLarge_q⟩
  refine ⟨PySem.W.fnOf "law" "law" (defArgs s_law) (defBody s_law) (defScope s_law) .none kV12 dc12 pm12 an12 cd12 ct12, fun s v => .of_eq rfl, fun base _ _ => ?_⟩
  have F0 := fun_mk (st := s_law_stream) l0 c0 k0
  have B0 := F0.binds (ps := ["script"]) fun _ _ _ _ _ _ us hl => match us, hl with | [_], _ => rfl
  have H_law_stream : Has l.prog w K mg base CX0 1 "_law_stream" ["script"] (sp_law_stream K cl) := ⟨⟨_, _, ok_law_stream T F0, PySem.W.mg_of X G a0, F0.kp, B0⟩⟩
  have F1 := fun_mk (st := s_law_draw) l1 c1 k1
  have B1 := F1.binds (ps := ["stream", "many"]) fun _ _ _ _ _ _ us hl => match us, hl with | [_, _], _ => rfl
  have H_law_draw : Has l.prog w K mg base CX0 1 "_law_draw" ["stream", "many"] (sp_law_draw K cl) := ⟨⟨_, _, ok_law_draw T F1, PySem.W.mg_of X G a1, F1.kp, B1⟩⟩
  have F2 := fun_mk (st := s_law_tree) l2 c2 k2
  have B2 := F2.binds (ps := ["stream", "pairs"]) fun _ _ _ _ _ _ us hl => match us, hl with | [_, _], _ => rfl
  have H_law_tree : Has l.prog w K mg base CX0 2 "_law_tree" ["stream", "pairs"] (sp_law_tree K cl) := ⟨⟨_, _, ok_law_tree T H_law_draw F2, PySem.W.mg_of X G a2, F2.kp, B2⟩⟩
  have F3 := fun_mk (st := s_law_given) l3 c3 k3
  have B3 := F3.binds (ps := ["told"]) fun _ _ _ _ _ _ us hl => match us, hl with | [_], _ => rfl
  have H_law_given : Has l.prog w K mg base CX0 1 "_law_given" ["told"] (sp_law_given K cl) := ⟨⟨_, _, ok_law_given T F3, PySem.W.mg_of X G a3, F3.kp, B3⟩⟩
  have F4 := fun_mk (st := s_cons) l4 c4 k4
  have B4 := F4.binds (ps := ["first", "second"]) fun _ _ _ _ _ _ us hl => match us, hl with | [_, _], _ => rfl
  have H_cons : Has l.prog w K mg base (L2.CX l.prog w) 1 "cons" ["first", "second"] (sp_cons K cl) := ⟨⟨_, _, ok_cons T F4, PySem.W.mg_of X G a4, F4.kp, B4⟩⟩
  have F5 := fun_mk (st := s_law_told) l5 c5 k5
  have B5 := F5.binds (ps := ["first", "second"]) fun _ _ _ _ _ _ us hl => match us, hl with | [_, _], _ => rfl
  have H_law_told : Has l.prog w K mg base CX0 2 "_law_told" ["first", "second"] (sp_law_told K cl) := ⟨⟨_, _, ok_law_told T H_law_given H_cons F5, PySem.W.mg_of X G a5, F5.kp, B5⟩⟩
  have F6 := fun_mk (st := s_end_of) l6 c6 k6
  have B6 := F6.binds (ps := ["signs", "start"]) fun _ _ _ _ _ _ us hl => match us, hl with | [_, _], _ => rfl
  have H_end_of : Has l.prog w K mg base CX0 1 "end_of" ["signs", "start"] (sp_end_of K cl) := ⟨⟨_, _, ok_end_of T F6, PySem.W.mg_of X G a6, F6.kp, B6⟩⟩
  have F7 := fun_mk (st := s_head) l7 c7 k7
  have B7 := F7.binds (ps := ["tree"]) fun _ _ _ _ _ _ us hl => match us, hl with | [_], _ => rfl
  have H_head : Has l.prog w K mg base CX0 2 "head" ["tree"] (sp_head K cl) := ⟨⟨_, _, ok_head T H_end_of F7, PySem.W.mg_of X G a7, F7.kp, B7⟩⟩
  have F8 := fun_mk (st := s_tail) l8 c8 k8
  have B8 := F8.binds (ps := ["tree"]) fun _ _ _ _ _ _ us hl => match us, hl with | [_], _ => rfl
  have H_tail : Has l.prog w K mg base CX0 2 "tail" ["tree"] (sp_tail K cl) := ⟨⟨_, _, ok_tail T H_end_of F8, PySem.W.mg_of X G a8, F8.kp, B8⟩⟩
  have F9 := fun_mk (st := s_law_end) l9 c9 k9
  have B9 := F9.binds (ps := ["tree", "at"]) fun _ _ _ _ _ _ us hl => match us, hl with | [_, _], _ => rfl
  have H_law_end : Has l.prog w K mg base CX0 1 "_law_end" ["tree", "at"] (sp_law_end K cl) := ⟨⟨_, _, ok_law_end T F9, PySem.W.mg_of X G a9, F9.kp, B9⟩⟩
  have F10 := fun_mk (st := s_law_head) l10 c10 k10
  have B10 := F10.binds (ps := ["tree"]) fun _ _ _ _ _ _ us hl => match us, hl with | [_], _ => rfl
  have H_law_head : Has l.prog w K mg base CX0 2 "_law_head" ["tree"] (sp_law_head K cl) := ⟨⟨_, _, ok_law_head T H_law_end F10, PySem.W.mg_of X G a10, F10.kp, B10⟩⟩
  have F11 := fun_mk (st := s_law_tail) l11 c11 k11
  have B11 := F11.binds (ps := ["tree"]) fun _ _ _ _ _ _ us hl => match us, hl with | [_], _ => rfl
  have H_law_tail : Has l.prog w K mg base CX0 2 "_law_tail" ["tree"] (sp_law_tail K cl) := ⟨⟨_, _, ok_law_tail T H_law_end F11, PySem.W.mg_of X G a11, F11.kp, B11⟩⟩
  have F12 := fun_mk (st := s_law) l12 c12 k12
  exact ok_law T H_law_stream H_law_tree H_law_told H_law_draw H_head H_tail H_law_head H_law_tail F12
end Nx
open PySem PySem.W PyProof.Rows
set_option maxRecDepth 100000 in
set_option maxHeartbeats 0 in
theorem PySem.Challenge.cw_narcissus_k02_heads_and_tails_holds : PySem.Challenge.rw_narcissus_k02_heads_and_tails.Holds := by
  w_on; o_law; k_head; (case hw => w_witness2)
  k_fill
  refine L2.walk_of (l := PySem.Challenge.rw_narcissus_k02_heads_and_tails) (n := 63) (k := 3) (x := "script") (CX := fun _ => L2.CX0) (sp := fun w => Nx.sp_law _ (fun _ => 0)) rfl (by decide) rfl ⟨rfl, by decide, by decide⟩ (fun w h Y => PySem.W.kIn_of Y) ?F (fun _ _ a ns hl _ hS => ⟨a, ns, rfl, hS, hl, fun _ => rfl⟩) (fun _ _ _ _ _ h => h)
  case F =>
    intro w mg fa h KX G hmg
    refine' Nx.all_mk KX G hmg ?a0 ?l0 ?c0 ?k0 ?a1 ?l1 ?c1 ?k1 ?a2 ?l2 ?c2 ?k2 ?a3 ?l3 ?c3 ?k3 ?a4 ?l4 ?c4 ?k4 ?a5 ?l5 ?c5 ?k5 ?a6 ?l6 ?c6 ?k6 ?a7 ?l7 ?c7 ?k7 ?a8 ?l8 ?c8 ?k8 ?a9 ?l9 ?c9 ?k9 ?a10 ?l10 ?c10 ?k10 ?a11 ?l11 ?c11 ?k11 ?a12 ?l12 ?c12 ?k12 ?z_list ?z_int ?z_abs ?z_len ?z_isinstance ?z_tuple ?z_ValueError ?z_MOST_TREE ?z_LEAF ?y_NarcissusError ?y_NarcissusError_x ?y_NarcissusError_k ?y_NarcissusError_b ?y_NarcissusError_t ?y_NarcissusError_ga ?y_NarcissusError_gt ?y_NarcissusError_hd ?y_NarcissusError_ca ?y_NarcissusError_sg ?y_NarcissusError_ta ?y_NarcissusError_mr ?y_NarcissusError_k_NarcissusError ?y_NarcissusError_s_NarcissusError ?y_NarcissusError_k_TooLarge ?y_NarcissusError_s_TooLarge ?y_NarcissusError_q ?y_TooLarge ?y_TooLarge_x ?y_TooLarge_k ?y_TooLarge_b ?y_TooLarge_t ?y_TooLarge_ga ?y_TooLarge_gt ?y_TooLarge_hd ?y_TooLarge_ca ?y_TooLarge_sg ?y_TooLarge_ta ?y_TooLarge_mr ?y_TooLarge_k_NarcissusError ?y_TooLarge_s_NarcissusError ?y_TooLarge_k_TooLarge ?y_TooLarge_s_TooLarge ?y_TooLarge_q
    (case y_NarcissusError => first | rfl | k_is)
    (case y_TooLarge => first | rfl | k_is)
    (case a0 => first | rfl | k_is)
    (case l0 => first | rfl | k_is)
    (case c0 => first | rfl | k_is)
    (case k0 => first | rfl | k_is)
    (case a1 => first | rfl | k_is)
    (case l1 => first | rfl | k_is)
    (case c1 => first | rfl | k_is)
    (case k1 => first | rfl | k_is)
    (case a2 => first | rfl | k_is)
    (case l2 => first | rfl | k_is)
    (case c2 => first | rfl | k_is)
    (case k2 => first | rfl | k_is)
    (case a3 => first | rfl | k_is)
    (case l3 => first | rfl | k_is)
    (case c3 => first | rfl | k_is)
    (case k3 => first | rfl | k_is)
    (case a4 => first | rfl | k_is)
    (case l4 => first | rfl | k_is)
    (case c4 => first | rfl | k_is)
    (case k4 => first | rfl | k_is)
    (case a5 => first | rfl | k_is)
    (case l5 => first | rfl | k_is)
    (case c5 => first | rfl | k_is)
    (case k5 => first | rfl | k_is)
    (case a6 => first | rfl | k_is)
    (case l6 => first | rfl | k_is)
    (case c6 => first | rfl | k_is)
    (case k6 => first | rfl | k_is)
    (case a7 => first | rfl | k_is)
    (case l7 => first | rfl | k_is)
    (case c7 => first | rfl | k_is)
    (case k7 => first | rfl | k_is)
    (case a8 => first | rfl | k_is)
    (case l8 => first | rfl | k_is)
    (case c8 => first | rfl | k_is)
    (case k8 => first | rfl | k_is)
    (case a9 => first | rfl | k_is)
    (case l9 => first | rfl | k_is)
    (case c9 => first | rfl | k_is)
    (case k9 => first | rfl | k_is)
    (case a10 => first | rfl | k_is)
    (case l10 => first | rfl | k_is)
    (case c10 => first | rfl | k_is)
    (case k10 => first | rfl | k_is)
    (case a11 => first | rfl | k_is)
    (case l11 => first | rfl | k_is)
    (case c11 => first | rfl | k_is)
    (case k11 => first | rfl | k_is)
    (case a12 => first | rfl | k_is)
    (case l12 => first | rfl | k_is)
    (case c12 => first | rfl | k_is)
    (case k12 => first | rfl | k_is)
    (case z_list => first | rfl | k_is)
    (case z_int => first | rfl | k_is)
    (case z_abs => first | rfl | k_is)
    (case z_len => first | rfl | k_is)
    (case z_isinstance => first | rfl | k_is)
    (case z_tuple => first | rfl | k_is)
    (case z_ValueError => first | rfl | k_is)
    (case z_MOST_TREE => first | rfl | k_is)
    (case z_LEAF => first | rfl | k_is)
    (case y_NarcissusError_x => k_exc)
    (case y_NarcissusError_k => first | rfl | k_is)
    (case y_NarcissusError_b => first | rfl | k_is)
    (case y_NarcissusError_t => first | rfl | k_is)
    (case y_NarcissusError_ga => first | rfl | k_is)
    (case y_NarcissusError_gt => first | rfl | k_is)
    (case y_NarcissusError_hd => first | rfl | k_is)
    (case y_NarcissusError_ca => first | rfl | k_is)
    (case y_NarcissusError_sg => first | rfl | k_is)
    (case y_NarcissusError_ta => first | rfl | k_is)
    (case y_NarcissusError_mr => first | rfl | k_is)
    (case y_NarcissusError_k_NarcissusError => first | rfl | k_is)
    (case y_NarcissusError_s_NarcissusError => first | rfl | k_is)
    (case y_NarcissusError_k_TooLarge => first | rfl | k_is)
    (case y_NarcissusError_s_TooLarge => first | rfl | k_is)
    (case y_NarcissusError_q => first | rfl | k_is)
    (case y_TooLarge_x => k_exc)
    (case y_TooLarge_k => first | rfl | k_is)
    (case y_TooLarge_b => first | rfl | k_is)
    (case y_TooLarge_t => first | rfl | k_is)
    (case y_TooLarge_ga => first | rfl | k_is)
    (case y_TooLarge_gt => first | rfl | k_is)
    (case y_TooLarge_hd => first | rfl | k_is)
    (case y_TooLarge_ca => first | rfl | k_is)
    (case y_TooLarge_sg => first | rfl | k_is)
    (case y_TooLarge_ta => first | rfl | k_is)
    (case y_TooLarge_mr => first | rfl | k_is)
    (case y_TooLarge_k_NarcissusError => first | rfl | k_is)
    (case y_TooLarge_s_NarcissusError => first | rfl | k_is)
    (case y_TooLarge_k_TooLarge => first | rfl | k_is)
    (case y_TooLarge_s_TooLarge => first | rfl | k_is)
    (case y_TooLarge_q => first | rfl | k_is)
