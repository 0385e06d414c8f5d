import PyProof.Rows.All
import Wide.All
import OpenK.AllK
import Wide.FinOn
import HandS.ForMost
import HandS.StrMore
import HandS.IsInst
import HandS.TupLe
import HandS.Evl
import HandS.ExcIs
import HandS.TryOnly
import HandS.ExcOwn
import HandS.WordsExc
import HandS.TupAny
import HandS.Deep
import PySem.Challenge.RW_narcissus_k03_numbers
set_option Elab.async false
set_option linter.all false
set_option maxRecDepth 100000
set_option maxHeartbeats 4000000
/-! Trees as signs. -/
namespace Nx
open PySem
inductive Tr where
  | leaf
  | node (l r : Tr)
  deriving DecidableEq
def Tr.sg : Tr → List Nat
  | .leaf => [48]
  | .node l r => 49 :: (l.sg ++ r.sg)
def Tr.pairs : Tr → Nat
  | .leaf => 0
  | .node l r => l.pairs + r.pairs + 1
def Tr.hd : Tr → Tr
  | .leaf => .leaf
  | .node l _ => l
def Tr.tl : Tr → Tr
  | .leaf => .leaf
  | .node _ r => r
def stS (l : List Nat) : Str := ⟨l.toArray⟩
def Tr.str (t : Tr) : Str := stS t.sg
theorem stS_list (l : List Nat) : (stS l).cps.toList = l := rfl
theorem stS_len (l : List Nat) : (stS l).length = l.length := by
  show l.toArray.size = l.length
  simp
theorem stS_of (x : Str) : stS x.cps.toList = x := by
  cases x
  rfl
theorem stS_inj {a b : List Nat} (h : stS a = stS b) : a = b := by
  have := congrArg (fun x : Str => x.cps.toList) h
  exact this
theorem stS_app (a b : List Nat) : stS a ++ stS b = stS (a ++ b) := by
  show (⟨a.toArray ++ b.toArray⟩ : Str) = ⟨(a ++ b).toArray⟩
  simp
theorem Tr.sg_len (t : Tr) : t.sg.length = 2 * t.pairs + 1 := by
  induction t with
  | leaf => rfl
  | node l r h1 h2 =>
    show (l.sg ++ r.sg).length + 1 = 2 * (l.pairs + r.pairs + 1) + 1
    rw [List.length_append, h1, h2]
    omega
def all01 (l : List Nat) : Prop := ∀ c ∈ l, c = 48 ∨ c = 49
theorem all01_append {a b : List Nat} : all01 (a ++ b) ↔ all01 a ∧ all01 b := by
  unfold all01
  constructor
  · intro h
    exact ⟨fun c hc => h c (List.mem_append.mpr (.inl hc)), fun c hc => h c (List.mem_append.mpr (.inr hc))⟩
  · rintro ⟨h1, h2⟩ c hc
    rcases List.mem_append.mp hc with h | h
    · exact h1 c h
    · exact h2 c h
theorem Tr.sg_01 (t : Tr) : all01 t.sg := by
  induction t with
  | leaf =>
    intro c hc
    simp [Tr.sg] at hc
    exact .inl hc
  | node l r h1 h2 =>
    intro c hc
    rcases List.mem_cons.mp hc with h | h
    · exact .inr h
    · exact (all01_append.mpr ⟨h1, h2⟩) c h
/-- how many signs the first w trees of a row take; beyond it one for each tree that lacks -/
def fin : Nat → List Nat → Nat
  | 0, _ => 0
  | w + 1, [] => w + 1
  | w + 1, c :: r => 1 + fin (if c = 49 then w + 2 else w) r
theorem fin_zero (l : List Nat) : fin 0 l = 0 := by
  cases l <;> rfl
theorem fin_nil (w : Nat) : fin w [] = w := by
  cases w <;> rfl
theorem fin_app : ∀ (a b : List Nat) (w : Nat), a.length ≤ w → fin w (a ++ b) = a.length + fin (w - a.length + 2 * a.count 49) b
  | [], b, w, _ => by simp
  | c :: a, b, 0, h => by simp at h
  | c :: a, b, w + 1, h => by
    have h1 : a.length ≤ w := by simpa using h
    show 1 + fin (if c = 49 then w + 2 else w) (a ++ b) = _
    by_cases e : c = 49
    · subst e
      rw [if_pos rfl, fin_app a b (w + 2) (by omega), List.count_cons_self, List.length_cons]
      rw [show w + 2 - a.length + 2 * a.count 49 = w + 1 - (a.length + 1) + 2 * (a.count 49 + 1) by omega]
      omega
    · rw [if_neg e, fin_app a b w h1, List.count_cons_of_ne (fun q => e q), List.length_cons]
      rw [show w - a.length + 2 * a.count 49 = w + 1 - (a.length + 1) + 2 * a.count 49 by omega]
      omega
theorem fin_short {a : List Nat} {w : Nat} (h : a.length ≤ w) : fin w a = w + 2 * a.count 49 := by
  have e := fin_app a [] w h
  rw [List.append_nil, fin_nil] at e
  omega
theorem fin_tree : ∀ (t : Tr) (r : List Nat) (w : Nat), fin (w + 1) (t.sg ++ r) = t.sg.length + fin w r
  | .leaf, r, w => by
    show 1 + fin (if 48 = 49 then w + 2 else w) r = 1 + fin w r
    rfl
  | .node a b, r, w => by
    show 1 + fin (if 49 = 49 then w + 2 else w) ((a.sg ++ b.sg) ++ r) = ((a.sg ++ b.sg).length + 1) + fin w r
    rw [if_pos rfl, List.append_assoc, fin_tree a _ (w + 1), fin_tree b r w, List.length_append]
    omega
theorem fin_one (t : Tr) (r : List Nat) : fin 1 (t.sg ++ r) = t.sg.length := by
  rw [fin_tree t r 0, fin_zero, Nat.add_zero]
theorem fin_pos {w : Nat} (h : 0 < w) : ∀ l : List Nat, 0 < fin w l := fun l => by
  cases w with
  | zero => omega
  | succ w =>
    cases l with
    | nil =>
      rw [fin_nil]
      omega
    | cons c r =>
      show 0 < 1 + _
      omega
theorem parse_of : ∀ (n : Nat) (l : List Nat) (w : Nat), l.length ≤ n → all01 l → fin (w + 1) l ≤ l.length → ∃ (t : Tr) (r : List Nat), l = t.sg ++ r
  | n, [], w, _, _, h => by
    rw [fin_nil] at h
    simp at h
  | 0, c :: l, w, hn, _, _ => by simp at hn
  | n + 1, c :: l, w, hn, ha, h => by
    have hl : l.length ≤ n := by simpa using hn
    have ha' : all01 l := fun d hd => ha d (List.mem_cons_of_mem _ hd)
    rcases ha c (List.mem_cons_self ..) with e | e
    · subst e
      exact ⟨.leaf, l, rfl⟩
    · subst e
      have h' : 1 + fin (w + 1 + 1) l ≤ l.length + 1 := h
      obtain ⟨t1, r1, e1⟩ := parse_of n l (w + 1) hl ha' (by omega)
      rw [e1, fin_tree t1 r1 (w + 1)] at h'
      have z : l.length = t1.sg.length + r1.length := by rw [e1, List.length_append]
      have h2 : fin (w + 1) r1 ≤ r1.length := by
        rw [List.length_append] at h'
        omega
      have h3 : all01 r1 := (all01_append.mp (e1 ▸ ha')).2
      obtain ⟨t2, r2, e2⟩ := parse_of n r1 w (by omega) h3 h2
      refine ⟨.node t1 t2, r2, ?_⟩
      show 49 :: l = 49 :: ((t1.sg ++ t2.sg) ++ r2)
      rw [e1, e2, List.append_assoc]
theorem isT_iff (l : List Nat) : (all01 l ∧ fin 1 l = l.length) ↔ ∃ t : Tr, l = t.sg := by
  constructor
  · rintro ⟨ha, h⟩
    obtain ⟨t, r, e⟩ := parse_of l.length l 0 (Nat.le_refl _) ha (by show fin 1 l ≤ l.length; omega)
    have e2 : fin 1 l = t.sg.length := by rw [e, fin_one]
    have e3 : l.length = t.sg.length + r.length := by rw [e, List.length_append]
    have e4 : r = [] := List.length_eq_zero_iff.mp (by omega)
    exact ⟨t, by rw [e, e4, List.append_nil]⟩
  · rintro ⟨t, rfl⟩
    refine ⟨t.sg_01, ?_⟩
    have := fin_one t []
    rw [List.append_nil] at this
    exact this
theorem Tr.count_1 (t : Tr) : t.sg.count 49 = t.pairs := by
  induction t with
  | leaf => rfl
  | node l r h1 h2 =>
    show (49 :: (l.sg ++ r.sg)).count 49 = l.pairs + r.pairs + 1
    rw [List.count_cons_self, List.count_append, h1, h2]
/-- l is a beginning of a tree in which m trees are still wanted -/
def Opn (l : List Nat) (m : Nat) : Prop := all01 l ∧ (∀ r, fin 1 (l ++ r) = l.length + fin m r) ∧ l.length + m = 2 * l.count 49 + 1
theorem Opn.nil : Opn [] 1 := ⟨fun _ h => (by cases h), fun r => (by show fin 1 r = 0 + fin 1 r; omega), rfl⟩
theorem Opn.one {l : List Nat} {m : Nat} (h : Opn l (m + 1)) : Opn (l ++ [49]) (m + 2) := by
  obtain ⟨h1, h2, h3⟩ := h
  refine ⟨all01_append.mpr ⟨h1, fun c hc => by simp at hc; exact .inr hc⟩, fun r => ?_, ?_⟩
  · rw [List.append_assoc, h2, List.length_append]
    show l.length + (1 + fin (if 49 = 49 then m + 2 else m) r) = l.length + 1 + fin (m + 2) r
    rw [if_pos rfl]
    omega
  · rw [List.length_append, List.count_append]
    show l.length + 1 + (m + 2) = 2 * (l.count 49 + 1) + 1
    omega
theorem Opn.zero {l : List Nat} {m : Nat} (h : Opn l (m + 1)) : Opn (l ++ [48]) m := by
  obtain ⟨h1, h2, h3⟩ := h
  refine ⟨all01_append.mpr ⟨h1, fun c hc => by simp at hc; exact .inl hc⟩, fun r => ?_, ?_⟩
  · rw [List.append_assoc, h2, List.length_append]
    show l.length + (1 + fin (if 48 = 49 then m + 2 else m) r) = l.length + 1 + fin m r
    rw [if_neg (by decide)]
    omega
  · rw [List.length_append, List.count_append]
    show l.length + 1 + m = 2 * (l.count 49 + 0) + 1
    omega
theorem Opn.done {l : List Nat} (h : Opn l 0) : ∃ t : Tr, l = t.sg := by
  obtain ⟨h1, h2, h3⟩ := h
  refine (isT_iff l).mp ⟨h1, ?_⟩
  have := h2 []
  rw [List.append_nil, fin_zero] at this
  exact this
def repL (n : Nat) (l : List Nat) : List Nat := (List.replicate n l).flatten
theorem repL_len (n : Nat) (l : List Nat) : (repL n l).length = n * l.length := by
  unfold repL
  induction n with
  | zero => simp
  | succ n ih =>
    rw [List.replicate_succ, List.flatten_cons, List.length_append, ih, Nat.succ_mul]
    omega
theorem leaf_or {t : Tr} : (t = .leaf ∧ t.hd = .leaf ∧ t.tl = .leaf) ∨ ∃ a b, t = .node a b := by
  cases t with
  | leaf => exact .inl ⟨rfl, rfl, rfl⟩
  | node a b => exact .inr ⟨a, b, rfl⟩
theorem node_hd (a b : Tr) : ((Tr.node a b).sg.drop 1).take (1 + fin 1 ((Tr.node a b).sg.drop 1) - 1) = a.sg := by
  show (a.sg ++ b.sg).take (1 + fin 1 (a.sg ++ b.sg) - 1) = a.sg
  rw [fin_one, Nat.add_sub_cancel_left, List.take_left']
  rfl
theorem node_tl (a b : Tr) : (Tr.node a b).sg.drop (1 + fin 1 ((Tr.node a b).sg.drop 1)) = b.sg := by
  show (49 :: (a.sg ++ b.sg)).drop (1 + fin 1 (a.sg ++ b.sg)) = b.sg
  rw [fin_one, Nat.add_comm, List.drop_succ_cons, List.drop_left']
  rfl
theorem node_fin (a b : Tr) : fin 1 ((Tr.node a b).sg.drop 1) ≤ ((Tr.node a b).sg.drop 1).length := by
  show fin 1 (a.sg ++ b.sg) ≤ (a.sg ++ b.sg).length
  rw [fin_one, List.length_append]
  omega
theorem node_ne (a b : Tr) : (Tr.node a b).str ≠ stS [48] := fun h => by
  have := (List.cons.inj (stS_inj h)).1
  omega
/-- the number n as a tree -/
def numT : Nat → Tr
  | 0 => .leaf
  | n + 1 => .node .leaf (numT n)
theorem numT_sg (n : Nat) : (numT n).sg = repL n [49, 48] ++ [48] := by
  induction n with
  | zero => rfl
  | succ n ih =>
    show 49 :: ([48] ++ (numT n).sg) = _
    unfold repL at ih ⊢
    rw [ih, List.replicate_succ, List.flatten_cons]
    rfl
theorem numT_len (n : Nat) : (numT n).sg.length = 2 * n + 1 := by
  rw [numT_sg, List.length_append, repL_len]
  show n * 2 + 1 = 2 * n + 1
  omega
/-- n pairs with the leaf as their heads, and t behind them -/
def numOn : Nat → Tr → Tr
  | 0, t => t
  | n + 1, t => .node .leaf (numOn n t)
theorem numOn_sg (n : Nat) (t : Tr) : (numOn n t).sg = repL n [49, 48] ++ t.sg := by
  induction n with
  | zero => rfl
  | succ n ih =>
    show 49 :: ([48] ++ (numOn n t).sg) = _
    unfold repL at ih ⊢
    rw [ih, List.replicate_succ, List.flatten_cons]
    rfl
theorem numOn_ne : ∀ (n k : Nat) (a b c : Tr), numOn n (.node (.node a b) c) ≠ numT k
  | 0, 0, _, _, _, h => by cases h
  | 0, k + 1, a, b, c, h => by
    have := (Tr.node.inj h).1
    cases this
  | n + 1, 0, _, _, _, h => by cases h
  | n + 1, k + 1, a, b, c, h => numOn_ne n k a b c (Tr.node.inj h).2
theorem numT_inj {a b : Nat} (h : numT a = numT b) : a = b := by
  have := congrArg (fun t : Tr => t.sg.length) h
  simp only [numT_len] at this
  omega
/-- nested in the heads -/
def chT : Nat → Tr
  | 0 => .leaf
  | n + 1 => .node (chT n) .leaf
theorem chT_sg (n : Nat) : (chT n).sg = List.replicate n 49 ++ List.replicate (n + 1) 48 := by
  induction n with
  | zero => rfl
  | succ n ih =>
    show 49 :: ((chT n).sg ++ [48]) = _
    rw [ih, List.replicate_succ, List.append_assoc, List.replicate_succ' (n := n + 1)]
    rfl
theorem repL_one (n c : Nat) : repL n [c] = List.replicate n c := by
  unfold repL
  induction n with
  | zero => rfl
  | succ n ih =>
    rw [List.replicate_succ, List.flatten_cons, ih, List.replicate_succ]
    rfl
/-- reading sign by sign: how many trees are wanted behind l, none where it can't go on -/
def scan : Nat → List Nat → Option Nat
  | m, [] => some m
  | m, c :: r => if m = 0 ∨ ¬ (c = 48 ∨ c = 49) then none else scan (if c = 48 then m - 1 else m + 1) r
theorem scan_iff : ∀ (l : List Nat) (m : Nat), scan m l = some 0 ↔ (all01 l ∧ fin m l = l.length)
  | [], m => by
    show some m = some 0 ↔ _
    rw [fin_nil]
    constructor
    · intro h
      exact ⟨fun c hc => (by cases hc), Option.some.inj h⟩
    · intro h
      rw [h.2]
      rfl
  | c :: r, m => by
    show (if m = 0 ∨ ¬ (c = 48 ∨ c = 49) then none else scan (if c = 48 then m - 1 else m + 1) r) = some 0 ↔ _
    by_cases hm : m = 0
    · rw [if_pos (.inl hm), hm, fin_zero]
      constructor
      · intro h
        cases h
      · intro h
        have := h.2
        simp at this
    · by_cases hc : c = 48 ∨ c = 49
      · rw [if_neg (by rintro (h | h); exact hm h; exact h hc), scan_iff r]
        obtain ⟨k, rfl⟩ : ∃ k, m = k + 1 := ⟨m - 1, by omega⟩
        have ha : all01 (c :: r) ↔ all01 r := by
          constructor
          · intro h d hd
            exact h d (List.mem_cons_of_mem _ hd)
          · intro h d hd
            rcases List.mem_cons.mp hd with e | e
            · rw [e]
              exact hc
            · exact h d e
        rw [ha]
        show _ ↔ all01 r ∧ 1 + fin (if c = 49 then k + 2 else k) r = r.length + 1
        rcases hc with e | e
        · subst e
          rw [if_pos rfl, if_neg (by decide), Nat.add_sub_cancel]
          constructor
          · intro h
            exact ⟨h.1, by omega⟩
          · intro h
            exact ⟨h.1, by omega⟩
        · subst e
          rw [if_neg (by decide), if_pos rfl]
          constructor
          · intro h
            exact ⟨h.1, by have := h.2; show 1 + fin (k + 1 + 1) r = r.length + 1; omega⟩
          · intro h
            exact ⟨h.1, by have : 1 + fin (k + 1 + 1) r = r.length + 1 := h.2; omega⟩
      · rw [if_pos (.inr hc)]
        constructor
        · intro h
          cases h
        · intro h
          exact absurd (h.1 c (List.mem_cons_self ..)) hc
theorem count_01 : ∀ l : List Nat, l.count 48 + l.count 49 = l.length ↔ all01 l
  | [] => by
    constructor
    · intro _ c hc
      cases hc
    · intro _
      rfl
  | c :: r => by
    have ih := count_01 r
    have h1 : r.count 48 + r.count 49 ≤ r.length := count_le r
    by_cases e : c = 48
    · subst e
      rw [List.count_cons_self, List.count_cons_of_ne (by decide), List.length_cons]
      constructor
      · intro h d hd
        rcases List.mem_cons.mp hd with z | z
        · exact .inl z
        · exact ih.mp (by omega) d z
      · intro h
        have := ih.mpr fun d hd => h d (List.mem_cons_of_mem _ hd)
        omega
    · by_cases e2 : c = 49
      · subst e2
        rw [List.count_cons_self, List.count_cons_of_ne (by decide), List.length_cons]
        constructor
        · intro h d hd
          rcases List.mem_cons.mp hd with z | z
          · exact .inr z
          · exact ih.mp (by omega) d z
        · intro h
          have := ih.mpr fun d hd => h d (List.mem_cons_of_mem _ hd)
          omega
      · rw [List.count_cons_of_ne (fun z => e z), List.count_cons_of_ne (fun z => e2 z), List.length_cons]
        constructor
        · intro h
          omega
        · intro h
          rcases h c (List.mem_cons_self ..) with z | z
          · exact absurd z e
          · exact absurd z e2
where
  count_le : ∀ r : List Nat, r.count 48 + r.count 49 ≤ r.length
    | [] => Nat.le_refl _
    | c :: r => by
      have := count_le r
      by_cases e : c = 48
      · subst e
        rw [List.count_cons_self, List.count_cons_of_ne (by decide), List.length_cons]
        omega
      · by_cases e2 : c = 49
        · subst e2
          rw [List.count_cons_self, List.count_cons_of_ne (by decide), List.length_cons]
          omega
        · rw [List.count_cons_of_ne (fun z => e z), List.count_cons_of_ne (fun z => e2 z), List.length_cons]
          omega
/-- whether signs are those of a tree -/
def isT (l : List Nat) : Bool := (l.all fun c => c == 48 || c == 49) && (fin 1 l == l.length)
theorem all01_iff (l : List Nat) : (l.all fun c => c == 48 || c == 49) = true ↔ all01 l := by
  rw [List.all_eq_true]
  unfold all01
  constructor
  · intro h c hc
    have := h c hc
    simpa using this
  · intro h c hc
    have := h c hc
    simpa using this
theorem isT_true (l : List Nat) : isT l = true ↔ ∃ t : Tr, l = t.sg := by
  rw [← isT_iff]
  unfold isT
  rw [Bool.and_eq_true, all01_iff, beq_iff_eq]
theorem isT_scan (l : List Nat) : isT l = decide (scan 1 l = some 0) := by
  rw [Bool.eq_iff_iff, isT_true, decide_eq_true_eq, scan_iff, isT_iff]
theorem isT_sg (t : Tr) : isT t.sg = true := (isT_true _).mpr ⟨t, rfl⟩
theorem scan_none : ∀ (a b : List Nat) (m : Nat), scan m a = none → scan m (a ++ b) = none
  | [], b, m, h => by cases h
  | c :: a, b, m, h => by
    show (if m = 0 ∨ ¬ (c = 48 ∨ c = 49) then none else scan (if c = 48 then m - 1 else m + 1) (a ++ b)) = none
    have h' : (if m = 0 ∨ ¬ (c = 48 ∨ c = 49) then none else scan (if c = 48 then m - 1 else m + 1) a) = none := h
    by_cases hc : m = 0 ∨ ¬ (c = 48 ∨ c = 49)
    · rw [if_pos hc]
    · rw [if_neg hc] at h' ⊢
      exact scan_none a b _ h'
theorem scan_app : ∀ (a b : List Nat) (m k : Nat), scan m a = some k → scan m (a ++ b) = scan k b
  | [], b, m, k, h => by
    have : m = k := Option.some.inj h
    rw [this]
    rfl
  | c :: a, b, m, k, h => by
    show (if m = 0 ∨ ¬ (c = 48 ∨ c = 49) then none else scan (if c = 48 then m - 1 else m + 1) (a ++ b)) = _
    have h' : (if m = 0 ∨ ¬ (c = 48 ∨ c = 49) then none else scan (if c = 48 then m - 1 else m + 1) a) = some k := h
    by_cases hc : m = 0 ∨ ¬ (c = 48 ∨ c = 49)
    · rw [if_pos hc] at h'
      cases h'
    · rw [if_neg hc] at h' ⊢
      exact scan_app a b _ k h'
theorem sg_inj : ∀ {t u : Tr} {r s : List Nat}, t.sg ++ r = u.sg ++ s → t = u ∧ r = s
  | .leaf, .leaf, r, s, h => ⟨rfl, (List.cons.inj h).2⟩
  | .leaf, .node a b, r, s, h => by
    have := (List.cons.inj h).1
    omega
  | .node a b, .leaf, r, s, h => by
    have := (List.cons.inj h).1
    omega
  | .node a b, .node c d, r, s, h => by
    have h1 : (a.sg ++ b.sg) ++ r = (c.sg ++ d.sg) ++ s := (List.cons.inj h).2
    rw [List.append_assoc, List.append_assoc] at h1
    obtain ⟨e1, h2⟩ := sg_inj h1
    obtain ⟨e2, h3⟩ := sg_inj h2
    rw [e1, e2]
    exact ⟨rfl, h3⟩
theorem Tr.sg_inj {t u : Tr} (h : t.sg = u.sg) : t = u := by
  have := Nx.sg_inj (t := t) (u := u) (r := []) (s := []) (by rw [List.append_nil, List.append_nil]; exact h)
  exact this.1
theorem Tr.str_inj {t u : Tr} (h : t.str = u.str) : t = u := Tr.sg_inj (stS_inj h)
theorem Tr.str_len (t : Tr) : t.str.length = t.sg.length := stS_len _
end Nx

/-! Further rules, and what they say of signs. -/
namespace Nx
open PySem PySem.Spec PyProof.Rows L2
theorem foldl_app {α : Type} : ∀ (ls : List (Array α)) (a : Array α), (ls.foldl (· ++ ·) a).toList = a.toList ++ (ls.map (·.toList)).flatten
  | [], a => by simp
  | x :: r, a => by
    rw [List.foldl_cons, foldl_app r (a ++ x)]
    simp
theorem mul_rep (x : Str) (n : Int) : Txt.mul x n = stS (repL n.toNat x.cps.toList) := by
  unfold Txt.mul repL
  by_cases h1 : n < 1
  · rw [if_pos h1, show n.toNat = 0 by omega]
    rfl
  · rw [if_neg h1]
    by_cases h2 : (n == 1 || x.length == 0) = true
    · rw [if_pos h2]
      have h3 : n = 1 ∨ x.length = 0 := by simpa using h2
      rcases h3 with h3 | h3
      · subst h3
        show x = stS (List.replicate 1 x.cps.toList).flatten
        rw [List.replicate_one, List.flatten_singleton, stS_of]
      · have h4 : x.cps.toList = [] := by
          have : x.cps.size = 0 := h3
          exact List.length_eq_zero_iff.mp (by rw [Array.length_toList]; exact this)
        rw [h4]
        have h5 : (List.replicate n.toNat ([] : List Nat)).flatten = [] := by simp
        rw [h5]
        have := stS_of x
        rw [h4] at this
        exact this.symm
    · rw [if_neg h2]
      have e : (⟨(List.replicate n.toNat x.cps).foldl (· ++ ·) #[]⟩ : Str) = stS ((List.replicate n.toNat x.cps).foldl (· ++ ·) #[]).toList := (stS_of _).symm
      rw [e, foldl_app, List.map_replicate]
      rfl
/-- a def that stands at a name and keeps a promise -/
structure Has (P : Program) (w : World) (K : PySem.W.Frag) (mg : Str → Option Value) (base : Heap) (CX : CXT) (k : Nat) (x : Str) (ps : List Str) (sp : Sp) : Prop where
  ex : ∃ f fd, FnOk P w K mg base CX k f fd ps sp ∧ mg x = some (.ref f) ∧ PySem.W.keepIn K (.ref f) = true ∧ Binds K fd ps []
section
variable {X : Cx}
/-- a test, an expression, with a word behind it: what follows is shown once, from the word -/
def tMid (t : TT) : TT := fun σ H Q => ∃ M : Bool → Hp → Prop, t σ H M ∧ ∀ b H', M b H' → Q b H'
def eMid (t : TE) : TE := fun σ H Q => ∃ M : V → Hp → Prop, t σ H M ∧ ∀ v H', M v H' → Q v H'
theorem pt_mid {e : Expr} {t : TT} (h : PT X e t) : PT X e (tMid t) := ⟨fun pins s σ H Q I ⟨M, hm, k⟩ => thn (h.run pins s σ H M I hm) fun b s1 ⟨H1, I1, q⟩ => ⟨H1, I1, k b H1 q⟩⟩
theorem pe_mid {e : Expr} {t : TE} (h : PE X e t) : PE X e (eMid t) := ⟨fun pins s σ H Q I ⟨M, hm, k⟩ => thn (h.run pins s σ H M I hm) fun u s1 ⟨v, H1, I1, r, q⟩ => ⟨v, H1, I1, r, k v H1 q⟩⟩
theorem op_mulS : OpR X (binaryOp .Mult) (fun x y H Q => ∃ (z : Str) (n : Int), x = .str z ∧ y = .int n ∧ -(2 ^ 62) ≤ n ∧ n < 2 ^ 62 ∧ z.length * n.toNat ≤ sizeLine ∧ Q (.str (stS (repL n.toNat z.cps.toList))) H) := by
  intro pins s σ H x y v u Q I rx ry h
  obtain ⟨z, n, rfl, rfl, h1, h2, hz, q⟩ := h
  obtain ⟨t, rfl⟩ := rx
  obtain ⟨t', rfl⟩ := ry
  rw [← mul_rep] at q
  refine PySem.SB.mul ⟨?_, ?_, ?_⟩ fun t' k => ⟨.str (Txt.mul z n), H, I.tok _, ⟨_, rfl⟩, q⟩
  · rw [decide_eq_false (by omega), decide_eq_false (by omega)]
    rfl
  · intro n1 n2 n3
    have h3 : 1 ≤ n := by omega
    have h4 : (n.toNat : Int) = n := by omega
    have h5 : ((z.length * n.toNat : Nat) : Int) ≤ (sizeLine : Int) := by exact_mod_cast hz
    rw [Int.natCast_mul, h4] at h5
    have h6 : (sizeLine : Int) ≤ 2 ^ 62 := by decide
    have h7 : (z.length : Int) * n ≤ 2 ^ 63 - 1 := by omega
    have h8 : (z.length : Int) ≤ (2 ^ 63 - 1) / n := (Int.le_ediv_iff_mul_le (by omega)).mpr h7
    omega
  · intro _ _
    show decide (z.length * n.toNat > sizeLine) = false
    exact decide_eq_false (by omega)
end
/-- a loop over a text's signs: what is done, what is left -/
theorem for_str {x : Str} {g : TG} {tb : TS} {D : Ends} {σ : L2.St} {H : Hp} (Pv : List Nat → List Nat → L2.St → Hp → Prop) (h0 : Pv [] x.cps.toList σ H)
    (hs : ∀ a c r σ H, a ++ c :: r = x.cps.toList → Pv a (c :: r) σ H → g (.str (stS [c])) σ H fun σ2 H2 => tb { D with nx := Pv (a ++ [c]) r, ct := Pv (a ++ [c]) r, bk := D.nx } σ2 H2)
    (hd : ∀ σ H, Pv x.cps.toList [] σ H → D.nx σ H) :
    ∃ W : Nat → Nat → L2.St → Hp → Prop, (∃ m, W 0 m σ H) ∧ ∀ i m σ H, W i m σ H →
      ((Its x).stop i H ∧ D.nx σ H) ∨ ((Its x).go i H ∧ ∃ N : L2.St → Hp → Prop, (∀ σ' H', N σ' H' → ∃ m', m' < m ∧ W (i + 1) m' σ' H') ∧ ∀ v H', (Its x).yld i H v H' → g v σ H' fun σ2 H2 => tb { D with nx := N, ct := N, bk := D.nx } σ2 H2) := by
  have hz : x.cps.toList.length = x.cps.size := Array.length_toList
  refine ⟨fun i m σ H => m = x.cps.size - i ∧ i ≤ x.cps.size ∧ Pv (x.cps.toList.take i) (x.cps.toList.drop i) σ H, ⟨_, rfl, Nat.zero_le _, h0⟩, ?_⟩
  rintro i m σ H ⟨rfl, hi, p⟩
  by_cases hlt : i < x.cps.size
  · have hl : i < x.cps.toList.length := by omega
    have e1 := List.drop_eq_getElem_cons hl
    have e2 : x.cps.toList.take i ++ [x.cps.toList[i]] = x.cps.toList.take (i + 1) := by
      rw [List.take_add_one, List.getElem?_eq_getElem hl]
      rfl
    refine .inr ⟨hlt, Pv (x.cps.toList.take (i + 1)) (x.cps.toList.drop (i + 1)), fun σ' H' p' => ⟨x.cps.size - (i + 1), by omega, rfl, hlt, p'⟩, fun v H' y => ?_⟩
    obtain ⟨e, c, hc, y⟩ := y
    have ec : c = x.cps.toList[i] := by
      have : x.cps[i]? = some x.cps.toList[i] := by
        rw [← Array.getElem?_toList]
        exact List.getElem?_eq_getElem hl
      rw [hc] at this
      exact Option.some.inj this
    subst e y
    rw [ec]
    rw [e1] at p
    have := hs (x.cps.toList.take i) x.cps.toList[i] (x.cps.toList.drop (i + 1)) σ _ (by rw [← e1, List.take_append_drop]) p
    rw [e2] at this
    exact this
  · have e : i = x.cps.size := by omega
    subst e
    rw [← hz, List.take_length, List.drop_length] at p
    exact .inl ⟨Nat.le_refl _, hd σ H p⟩
/-! ### cuts -/
theorem cut_both (l : List Nat) (i j : Nat) : cutS (stS l) (some (i : Int)) (some (j : Int)) = stS ((l.drop i).take (j - i)) := by
  show stS ((l.drop (HT.sIx (stS l).length 0 (some (i : Int)))).take (HT.sIx (stS l).length (stS l).length (some (j : Int)) - HT.sIx (stS l).length 0 (some (i : Int)))) = _
  rw [HT.sIx_nat, HT.sIx_nat, stS_len]
  congr 1
  by_cases h1 : i ≤ l.length
  · rw [Nat.min_eq_left h1]
    by_cases h2 : j ≤ l.length
    · rw [Nat.min_eq_left h2]
    · rw [Nat.min_eq_right (by omega), List.take_of_length_le (by rw [List.length_drop]; omega), List.take_of_length_le (by rw [List.length_drop]; omega)]
  · rw [show min i l.length = l.length by omega, List.drop_eq_nil_of_le (Nat.le_refl _), List.drop_eq_nil_of_le (by omega), List.take_nil, List.take_nil]
theorem cut_to (l : List Nat) (j : Nat) : cutS (stS l) none (some (j : Int)) = stS (l.take j) := by
  show stS ((l.drop 0).take (HT.sIx (stS l).length (stS l).length (some (j : Int)) - 0)) = _
  rw [HT.sIx_nat, stS_len, List.drop_zero, Nat.sub_zero]
  congr 1
  by_cases h2 : j ≤ l.length
  · rw [Nat.min_eq_left h2]
  · rw [Nat.min_eq_right (by omega), List.take_of_length_le (Nat.le_refl _), List.take_of_length_le (by omega)]
theorem cut_from (l : List Nat) (i : Nat) : cutS (stS l) (some (i : Int)) none = stS (l.drop i) := by
  show stS ((l.drop (HT.sIx (stS l).length 0 (some (i : Int)))).take ((stS l).length - HT.sIx (stS l).length 0 (some (i : Int)))) = _
  rw [HT.sIx_nat, stS_len]
  congr 1
  by_cases h1 : i ≤ l.length
  · rw [Nat.min_eq_left h1, List.take_of_length_le (by rw [List.length_drop]; omega)]
  · rw [show min i l.length = l.length by omega, List.drop_eq_nil_of_le (Nat.le_refl _), List.drop_eq_nil_of_le (by omega), List.take_nil]
/-! ### signs counted -/
theorem occ_one (x : Str) (c hi lim : Nat) (hh : hi ≤ x.length) : ∀ (n a : Nat) (st : Array Nat × Nat), st.2 ≤ a → st.1.size + n ≤ lim → a + n = hi + 1 →
    (forIn (List.range' a n) st (StrLaws.occBody x ⟨#[c]⟩ hi lim)).run.fst.size = st.1.size + ((x.cps.toList.drop a).take (hi - a)).count c
  | 0, a, st, _, _, e => by
    have : hi - a = 0 := by omega
    rw [this]
    simp
  | n + 1, a, st, h1, h2, e => by
    rw [List.range'_succ, List.forIn_cons]
    unfold StrLaws.occBody
    by_cases ha : a < hi
    · have hx : a < x.cps.toList.length := by
        rw [Array.length_toList]
        show a < x.length
        omega
      have ed : (x.cps.toList.drop a).take (hi - a) = x.cps.toList[a] :: (x.cps.toList.drop (a + 1)).take (hi - (a + 1)) := by
        rw [List.drop_eq_getElem_cons hx, show hi - a = (hi - (a + 1)) + 1 by omega, List.take_succ_cons]
      have key := StrLaws.subAt_one x c a
      by_cases hc : x.cps.toList[a] = c
      · have h3 : (st.1.size < lim ∧ st.2 ≤ a) ∧ a + (⟨#[c]⟩ : Str).length ≤ hi := ⟨⟨by omega, h1⟩, by show a + 1 ≤ hi; omega⟩
        have h4 := (key.mpr (by rw [List.getElem?_eq_getElem hx, hc])).2
        rw [if_pos ⟨h3, h4⟩]
        have ih := occ_one x c hi lim hh n (a + 1) (st.1.push a, a + (⟨#[c]⟩ : Str).length) (Nat.le_refl _) (by rw [Array.size_push]; omega) (by omega)
        unfold StrLaws.occBody at ih
        refine Eq.trans ih ?_
        rw [Array.size_push, ed, hc, List.count_cons_self]
        omega
      · have h4 : ¬ (((st.1.size < lim ∧ st.2 ≤ a) ∧ a + (⟨#[c]⟩ : Str).length ≤ hi) ∧ Builtin.Str.subAt x ⟨#[c]⟩ a = true) := by
          rintro ⟨⟨_, z1⟩, z2⟩
          have := key.mp ⟨by omega, z2⟩
          rw [List.getElem?_eq_getElem hx] at this
          exact hc (Option.some.inj this)
        rw [if_neg h4]
        have ih := occ_one x c hi lim hh n (a + 1) (st.1, st.2) (by show st.2 ≤ a + 1; omega) (by show st.1.size + n ≤ lim; omega) (by omega)
        unfold StrLaws.occBody at ih
        refine Eq.trans ih ?_
        rw [ed, List.count_cons_of_ne (fun q => hc q)]
    · have h4 : ¬ (((st.1.size < lim ∧ st.2 ≤ a) ∧ a + (⟨#[c]⟩ : Str).length ≤ hi) ∧ Builtin.Str.subAt x ⟨#[c]⟩ a = true) := by
        rintro ⟨⟨_, z1⟩, _⟩
        have : a + 1 ≤ hi := z1
        omega
      rw [if_neg h4]
      have ih := occ_one x c hi lim hh n (a + 1) (st.1, st.2) (by show st.2 ≤ a + 1; omega) (by show st.1.size + n ≤ lim; omega) (by omega)
      unfold StrLaws.occBody at ih
      refine Eq.trans ih ?_
      rw [show hi - (a + 1) = 0 by omega, show hi - a = 0 by omega]
      simp
theorem count_one (x : Str) (c : Nat) : Txt.count x ⟨#[c]⟩ = (x.cps.toList.count c : Nat) := by
  show (((Builtin.Str.occurrences x ⟨#[c]⟩ 0 x.length (x.length + 1)).length : Nat) : Int) = _
  rw [StrLaws.occ_eq, Array.length_toList, occ_one x c x.length (x.length + 1) (Nat.le_refl _) (x.length + 1 - 0) 0 (#[], 0) (Nat.le_refl _) (by show 0 + (x.length + 1 - 0) ≤ _; omega) (by omega)]
  have : ((x.cps.toList.drop 0).take (x.length - 0)) = x.cps.toList := by
    rw [List.drop_zero]
    exact List.take_of_length_le (by rw [Array.length_toList]; exact Nat.le_refl _)
  rw [this]
  show ((0 + _ : Nat) : Int) = _
  rw [Nat.zero_add]
theorem count_in (x : Str) (c : Nat) (i j : Nat) (h : i ≤ j) : Txt.countIn x ⟨#[c]⟩ (i : Int) (j : Int) = (((x.cps.toList.drop i).take (j - i)).count c : Nat) := by
  show (((Builtin.Str.occurrences x ⟨#[c]⟩ (fromIndex x.length (i : Int)) (toIndexW x.length (j : Int)) (x.length + 1)).length : Nat) : Int) = _
  have e2 : toIndexW x.length (j : Int) = min j x.length := by
    unfold toIndexW
    rw [if_neg (by omega)]
    congr 1
  have e1 : fromIndex x.length (i : Int) = i := by
    unfold fromIndex
    rw [if_neg (by omega)]
    omega
  rw [e1, e2, StrLaws.occ_eq, Array.length_toList]
  have hl : x.cps.toList.length = x.length := Array.length_toList
  by_cases hi : i ≤ x.length
  · by_cases hj : i ≤ min j x.length
    · rw [occ_one x c (min j x.length) (x.length + 1) (Nat.min_le_right _ _) (min j x.length + 1 - i) i (#[], i) (Nat.le_refl _) (by show 0 + _ ≤ _; omega) (by omega)]
      have : (x.cps.toList.drop i).take (min j x.length - i) = (x.cps.toList.drop i).take (j - i) := by
        by_cases hjx : j ≤ x.length
        · rw [Nat.min_eq_left hjx]
        · rw [List.take_of_length_le (by rw [List.length_drop]; omega), List.take_of_length_le (by rw [List.length_drop]; omega)]
      rw [this]
      show ((0 + _ : Nat) : Int) = _
      rw [Nat.zero_add]
    · omega
  · have h0 : min j x.length + 1 - i = 0 := by omega
    rw [h0, List.drop_eq_nil_of_le (by omega)]
    simp
end Nx

/-! What the laws' own helpers leave: the row of drawn numbers at one address. -/
namespace Nx
open PySem PySem.Spec PyProof.Rows L2
section
variable {X : Cx}
theorem _root_.L2.Room.units2 {k : Nat} {A : Around} (r : Room k A) : A.units + 65 < cLine := by have := r.un; omega
/-- a block that is only asked where p holds -/
theorem pss_guard {p : Prop} {b : List Stmt} {t : TS} (h : p → PSs X b t) : PSs X b (fun D σ H => p ∧ t D σ H) := ⟨fun pins s σ H D I q => (h q.1).run pins s σ H D I q.2⟩
def rInDT (K : PySem.W.Frag) : R2 := fun x y H Q => ∃ d ds, Dp K H x d ∧ Dp K H y (.tuple ds) ∧ SeqAt.shaped d = true ∧ SeqAt.shaped (.tuple ds) = true ∧ Q (.bl (ds.any fun z => PyData.eqv z d)) H
theorem op_inDT (hu : X.A.units + 65 < cLine) : OpR X (compareOp .In) (rInDT X.K) := by
  intro pins s σ H x y v u Q I rx ry h
  obtain ⟨d, ds, hd, he, sd, se, q⟩ := h
  obtain ⟨as, r1⟩ := Dp.reads I d x v hd rx
  obtain ⟨bs, r2⟩ := Dp.reads I (.tuple ds) y u he ry
  exact SeqAt.in_tuple_reads r2 r1 (SeqAt.canLay_of_shaped se) (SeqAt.canLay_of_shaped sd) (room_in_shaped sd hu) ⟨.bl _, H, I, rfl, q⟩
end
/-- the program's own classes -/
inductive Cn where
  | NarcissusError | TooLarge | BadText | NoCode | Ended | OutOfSteps | TooWide | BadClaim | Machine
/-- what the top says of an error's class -/
structure ExcK (K : PySem.W.Frag) (C : Addr) : Prop where
  x : PySem.W.excIn K C [.type "ValueError", .type "Exception", .type "BaseException", .type "object"] "ValueError.__new__" = true
  k : PySem.W.keepIn K (.ref C) = true
  b : PySem.W.subIn K (.ref C) (.type "BaseException") = some true
  t : PySem.W.typeIn K (.ref C) = some (.type "type")
  c : ExcC K C
/-- at st stands a row from which numbers are drawn -/
def Strm (H : Hp) (st : Addr) : Prop := ∃ (l : Addr) (ns : List Int) (c i m : Int), H st = some (.lst [.ref l, .int c, .int i, .int m]) ∧ H l = some (.lst (ns.map V.int)) ∧ 0 ≤ c ∧ 0 ≤ i ∧ 0 ≤ m ∧ m < 2147483647
/-- all that was tracked but what stands at st is as it was -/
def ExS (st : Addr) (H H' : Hp) : Prop := ∀ a o, a ≠ st → H a = some o → H' a = some o
theorem ExS.refl {st : Addr} {H : Hp} : ExS st H H := fun _ _ _ h => h
theorem ExS.trans {st : Addr} {H H1 H2 : Hp} (a : ExS st H H1) (b : ExS st H1 H2) : ExS st H H2 := fun c o n h => b c o n (a c o n h)
theorem ExS.upd {st : Addr} {H : Hp} {o : HO} : ExS st H (upd H st o) := fun a u n h => by
  rw [upd_ne n]
  exact h
theorem _root_.L2.Same.exs {st : Addr} {H H' : Hp} (h : Same H H') : ExS st H H' := fun a o _ e => h a o e
theorem _root_.L2.Same.upd {H : Hp} {p : Addr} {o : HO} (h : H p = none) : Same H (upd H p o) := fun b x e => by
  rw [upd_ne (ne_of_none e h)]
  exact e
theorem _root_.L2.Same.strm {H H' : Hp} {st : Addr} (e : Same H H') (h : Strm H st) : Strm H' st := by
  obtain ⟨l, ns, c, i, m, h1, h2, h3⟩ := h
  exact ⟨l, ns, c, i, m, e _ _ h1, e _ _ h2, h3⟩
theorem _root_.L2.Same.seqT {K : PySem.W.Frag} {H H' : Hp} {a : Addr} {xs : List V} (e : Same H H') (h : SqT K H a xs) : SqT K H' a xs := by
  rcases h with (h | ⟨o, h⟩) | h
  · exact .inl (.inl (e _ _ h))
  · exact .inl (.inr ⟨o, e _ _ h⟩)
  · exact .inr h
theorem Strm.has {H : Hp} {st : Addr} (h : Strm H st) : H st ≠ none := by
  obtain ⟨l, ns, c, i, m, h1, _⟩ := h
  rw [h1]
  intro z
  cases z
theorem Strm.ne {H : Hp} {st p : Addr} (h : Strm H st) (hp : H p = none) : p ≠ st := fun z => h.has (by rw [← z]; exact hp)
theorem map_int {ns : List Int} {j : Nat} {v : V} (h : (ns.map V.int)[j]? = some v) : ∃ n, ns[j]? = some n ∧ v = .int n := by
  rw [List.getElem?_map] at h
  cases e : ns[j]? with
  | none =>
    rw [e] at h
    cases h
  | some n =>
    rw [e] at h
    exact ⟨n, rfl, (Option.some.inj h).symm⟩
def treeV : V → Bool
  | .str s => decide (s.length ≤ 200000) && isT s.cps.toList
  | _ => false
/-- a value that is a text, or surely is none -/
def StrOr (K : PySem.W.Frag) (H : Hp) (x : V) : Prop := (∃ s, x = .str s ∧ s.length ≤ sizeLine) ∨ ∃ t, TyX K H x t ∧ PySem.W.kitOne K t (.type "str") = some false ∧ ∀ s, x ≠ .str s
theorem treeV_no {x : V} (h : ∀ s, x ≠ .str s) : treeV x = false := by
  cases x with
  | str s => exact absurd rfl (h s)
  | _ => rfl
theorem treeV_sg (t : Tr) (h : t.sg.length ≤ 200000) : treeV (.str t.str) = true := by
  show (decide (t.str.length ≤ 200000) && isT t.sg) = true
  rw [t.str_len, decide_eq_true h, isT_sg]
  rfl
theorem _root_.L2.TyX.same {K : PySem.W.Frag} {H H' : Hp} {x : V} {t : Value} (h : TyX K H x t) (e : Same H H') : TyX K H' x t := by
  cases h with
  | base b =>
    cases b with
    | non => exact .base .non
    | bl y => exact .base (.bl y)
    | int i => exact .base (.int i)
    | str y => exact .base (.str y)
    | flt y => exact .base (.flt y)
    | lst ea => exact .base (.lst (e _ _ ea))
    | frz ea => exact .base (.frz (e _ _ ea))
    | tup ea => exact .base (.tup (e _ _ ea))
    | dK ea => exact .base (.dK (e _ _ ea))
    | dT ea => exact .base (.dT (e _ _ ea))
    | ins ea cl ha hn htk hm => exact .base (.ins (e _ _ ea) cl ha hn htk hm)
  | byt b => exact .byt b
  | set ea => exact .set (e _ _ ea)
  | kList ea c => exact .kList ea c
  | kTuple ea c => exact .kTuple ea c
  | kDict ea c => exact .kDict ea c
  | fTuple ea => exact .fTuple (e _ _ ea)
  | fDict ea => exact .fDict (e _ _ ea)
theorem StrOr.same {K : PySem.W.Frag} {H H' : Hp} {x : V} (h : StrOr K H x) (e : Same H H') : StrOr K H' x := by
  rcases h with h | ⟨t, h1, h2⟩
  · exact .inl h
  · exact .inr ⟨t, h1.same e, h2⟩
def notTold (d : PyData) : Prop := SeqAt.shaped (.tuple [d]) = true ∧ PyData.eqv (.str "refused") d = false ∧ PyData.eqv (.str "large") d = false ∧ PyData.eqv (.str "wide") d = false
mutual
theorem Dp.same {K : PySem.W.Frag} {H H' : Hp} (e : Same H H') : ∀ {v : V} {d : PyData}, Dp K H v d → Dp K H' v d
  | _, _, .non => .non
  | _, _, .bl b => .bl b
  | _, _, .int i => .int i
  | _, _, .str x => .str x
  | _, _, .lst hs ha => .lst (e.seq hs) (DpAll.same e ha)
  | _, _, .tup hs ha => .tup (Same.seqT e hs) (DpAll.same e ha)
theorem DpAll.same {K : PySem.W.Frag} {H H' : Hp} (e : Same H H') : ∀ {vs : List V} {ds : List PyData}, DpAll K H vs ds → DpAll K H' vs ds
  | _, _, .nil => .nil
  | _, _, .cons h r => .cons (Dp.same e h) (DpAll.same e r)
end
theorem _root_.L2.Dp.same {K : PySem.W.Frag} {H H' : Hp} {v : V} {d : PyData} (h : Dp K H v d) (e : Same H H') : Dp K H' v d := Nx.Dp.same e h
theorem _root_.L2.DpAll.same {K : PySem.W.Frag} {H H' : Hp} {v : List V} {d : List PyData} (h : DpAll K H v d) (e : Same H H') : DpAll K H' v d := Nx.DpAll.same e h
/-- values that are texts of at most n signs -/
def strsB (n : Nat) (xs : List V) : Bool := xs.all fun v => match v with | .str z => decide (z.length ≤ n) | _ => false
theorem atI_some {α : Type} {xs : List α} {d : Nat} (h : d < xs.length) : ∃ v, atI xs (d : Int) = some v ∧ v ∈ xs := ⟨xs[d], atI_nat (List.getElem?_eq_getElem h), List.getElem_mem h⟩
/-- an item of a written list at an open place -/
theorem ixL_any {K : PySem.W.Frag} {H : Hp} {p : Addr} {xs : List V} {d : Nat} {Q : VK} (hp : H p = some (.lst xs)) (hd : d < xs.length) (q : ∀ v ∈ xs, Q v H) : rIxL K (.ref p) (.int d) H Q := by
  obtain ⟨v, h1, h2⟩ := atI_some hd
  exact ⟨p, xs, d, v, rfl, rfl, SqL.of hp, h1, q v h2⟩
theorem ixL_menu {K : PySem.W.Frag} {H : Hp} {p : Addr} {xs : List V} {d : Nat} {Q : VK} (n : Nat) (hp : H p = some (.lst xs)) (hs : strsB n xs = true) (hd : d < xs.length) (q : ∀ z : Str, z.length ≤ n → Q (.str z) H) : rIxL K (.ref p) (.int d) H Q := by
  refine ixL_any hp hd fun v hv => ?_
  have := List.all_eq_true.mp hs v hv
  cases v with
  | str z => exact q z (of_decide_eq_true this)
  | _ => cases this
theorem ixS_any {H : Hp} {z : Str} {d : Nat} {Q : VK} (n : Nat) (hz : z.length = n) (hn : n ≤ sizeLine) (hd : d < n) (q : ∀ c : Nat, Q (.str (stS [c])) H) : rIxS (.str z) (.int d) H Q := by
  have hl : z.cps.toList.length = z.length := Array.length_toList
  obtain ⟨c, h1, _⟩ := atI_some (xs := z.cps.toList) (d := d) (by omega)
  exact ⟨z, d, c, rfl, rfl, by omega, h1, q c⟩
theorem iteS {c A B : Prop} [Decidable c] (hc : c) (h : A) : if decide c = true then A else B := by
  rw [decide_eq_true hc]
  exact iteT h
theorem iteNo {c A B : Prop} [Decidable c] (hc : ¬ c) (h : B) : if decide c = true then A else B := by
  rw [decide_eq_false hc]
  exact iteF h
/-- the integer whose number a text is, or None -/
def valV (x : Str) : V := if x = (numT (x.length / 2)).str then .int ((x.length / 2 : Nat) : Int) else .non
theorem valV_num (n : Nat) : valV (numT n).str = .int n := by
  have h : (numT n).str.length / 2 = n := by
    rw [Tr.str_len, numT_len]
    omega
  unfold valV
  rw [h, if_pos rfl]
theorem valV_no {t : Tr} (h : ∀ k, t ≠ numT k) : valV t.str = .non := by
  unfold valV
  rw [if_neg fun z => h _ (Tr.str_inj z)]
theorem valV_or (t : Tr) : (∃ k, t = numT k ∧ valV t.str = .int k) ∨ ((∀ k, t ≠ numT k) ∧ valV t.str = .non) := by
  by_cases h : ∃ k, t = numT k
  · obtain ⟨k, rfl⟩ := h
    exact .inl ⟨k, rfl, valV_num k⟩
  · have h' : ∀ k, t ≠ numT k := fun k e => h ⟨k, e⟩
    exact .inr ⟨h', valV_no h'⟩
theorem s0 : (Str.ofString "0") = stS [48] := by decide +kernel
theorem s1 : (Str.ofString "1") = stS [49] := by decide +kernel
theorem strOk_01 {l : List Nat} (h : all01 l) : PyData.strOk (stS l) = true := by
  unfold PyData.strOk
  rw [Array.all_eq_true']
  intro c hc
  have hc' : c ∈ l := List.mem_toArray.mp hc
  rcases h c hc' with e | e
  · rw [e]
    decide
  · rw [e]
    decide
theorem shaped_01 {l : List Nat} (h : all01 l) : SeqAt.shaped (.str (stS l)) = true := by
  show (PyData.strOk (stS l) && decide (0 ≤ 64)) = true
  rw [strOk_01 h]
  rfl
theorem eqv_str (x : Str) : PyData.eqv (.str x) (.str x) = true := by
  show (x == x) = true
  exact beq_self_eq_true x
theorem cons_str (a b : Tr) : stS (49 :: (a.str.cps.toList ++ b.str.cps.toList)) = (Tr.node a b).str := rfl
theorem str_cons (a b : Tr) : Str.ofString "1" ++ a.str ++ b.str = (Tr.node a b).str := by
  rw [s1]
  show stS [49] ++ stS a.sg ++ stS b.sg = stS (49 :: (a.sg ++ b.sg))
  rw [stS_app, stS_app]
  rfl
/-- the text of a number as the laws write it -/
theorem num_str (n : Nat) : stS (repL n (Str.ofString "10").cps.toList) ++ Str.ofString "0" = (numT n).str := by
  rw [s0, stS_app, show (Str.ofString "10").cps.toList = [49, 48] by decide +kernel]
  show _ = stS _
  rw [numT_sg]
theorem len10 (n : Nat) : (stS (repL n (Str.ofString "10").cps.toList)).length = 2 * n := by
  rw [stS_len, repL_len, show (Str.ofString "10").cps.toList.length = 2 by decide +kernel]
  omega
theorem len1 (n : Nat) : (stS (repL n (Str.ofString "1").cps.toList)).length = n := by
  rw [stS_len, repL_len, show (Str.ofString "1").cps.toList.length = 1 by decide +kernel]
  omega
theorem len0 (n : Nat) : (stS (repL n (Str.ofString "0").cps.toList)).length = n := by
  rw [stS_len, repL_len, show (Str.ofString "0").cps.toList.length = 1 by decide +kernel]
  omega
theorem ch_str (n : Nat) : stS (repL n (Str.ofString "1").cps.toList) ++ stS (repL (n + 1) (Str.ofString "0").cps.toList) = (chT n).str := by
  rw [s0, s1, stS_app]
  show stS (repL n [49] ++ repL (n + 1) [48]) = stS _
  rw [chT_sg, repL_one, repL_one]
theorem chT_len (n : Nat) : (chT n).sg.length = 2 * n + 1 := by
  rw [chT_sg, List.length_append, List.length_replicate, List.length_replicate]
  omega
theorem in01 (c : Nat) : inV (.str (stS [c])) [.str "0", .str "1"] = decide (c = 48 ∨ c = 49) := by
  have h : ∀ d : Nat, eqV (.str (stS [d])) (.str (stS [c])) = decide (c = d) := fun d => by
    show (stS [d] == stS [c]) = _
    rw [Bool.eq_iff_iff, beq_iff_eq, decide_eq_true_eq]
    constructor
    · intro z
      exact (List.cons.inj (stS_inj z)).1.symm
    · intro z
      rw [z]
  show (eqV (.str "0") (.str (stS [c])) || (eqV (.str "1") (.str (stS [c])) || false)) = _
  rw [s0, s1, h, h, Bool.or_false, Bool.decide_or]
theorem sig01 (c : Nat) : decide (V.str (stS [c]) = V.str "0") = decide (c = 48) := by
  rw [s0, Bool.eq_iff_iff, decide_eq_true_eq, decide_eq_true_eq]
  constructor
  · intro z
    have := stS_inj (V.str.inj z)
    exact (List.cons.inj this).1
  · intro z
    rw [z]
end Nx

namespace Nx
open PySem PySem.Spec PyProof.Rows L2
def topS (i : Nat) : Stmt := PySem.Challenge.pw_narcissus_k03_numbers.main.body.getD i (.Pass ⟨0, 0, 0, 0⟩)
/-- the top's built-ins and constants -/
structure Txt (K : PySem.W.Frag) (mg : Str → Option Value) (cl : Cn → Addr) : Prop where
  m_list : mg "list" = none
  m_int : mg "int" = none
  m_abs : mg "abs" = none
  m_len : mg "len" = none
  m_isinstance : mg "isinstance" = none
  m_tuple : mg "tuple" = none
  m_range : mg "range" = none
  m_bool : mg "bool" = none
  m_MOST_TREE : ∃ t, mg "MOST_TREE" = some (.int 200000 t)
  m_LEAF : ∃ t, mg "LEAF" = some (.str "0" t)
  e_TooLarge : mg "TooLarge" = some (.ref (cl .TooLarge)) ∧ ExcK K (cl .TooLarge)
  p_TooLarge_TooLarge : PySem.W.kitOne K (.ref (cl .TooLarge)) (.ref (cl .TooLarge)) = some true ∧ PySem.W.subIn K (.ref (cl .TooLarge)) (.ref (cl .TooLarge)) = some true
section
variable {P : Program} {w : World} {K : PySem.W.Frag} {mg : Str → Option Value} {base : Heap} {cl : Cn → Addr}
abbrev s_law_stream : Stmt := topS 9
abbrev nm_law_stream : List Str := ["script", "mixed", "cell"]
theorem sc_law_stream : FnScope nm_law_stream ["script"] (defScope s_law_stream) := ⟨rfl, rfl, rfl, by decide +kernel, rfl, by decide +kernel, by decide +kernel⟩
def sp_law_stream (K : PySem.W.Frag) (cl : Cn → Addr) : Sp := fun vs H Q _ => ∃ (a : Addr) (ns : List Int), vs = [.ref a] ∧ SqL K H a (ns.map V.int) ∧ ns.length ≤ 63 ∧ ∀ st H', Same H H' → H st = none → Strm H' st → Q (.ref st) H'
theorem ok_law_stream (T : Txt K mg cl) {f : Addr} {fd : FuncData} (F : Fun K "_law_stream" "_law_stream" s_law_stream f fd) : FnOk P w K mg base CX0 1 f fd ["script"] (sp_law_stream K cl) := by
  have m_list := T.m_list
  have m_int := T.m_int
  refine F.ok sc_law_stream (fun vs H Q E h => ?_) (fun cdv A outer s H vs Q E hr h => ?_)
  · obtain ⟨x, i, rfl, _⟩ := h
    rfl
  · obtain ⟨a, ns, rfl, hS, hlen, q⟩ := h
    refine ⟨_, (pss_cons (ps_set (i := 1) sc_law_stream.nd rfl (Or.inl rfl) pe_int)
      (pss_cons (ps_for PassesOwn.never rfl (pi_list (pv 0)) (pg_name (i := 2) sc_law_stream.nd rfl (Or.inl rfl)) (pss_one (ps_set (i := 1) sc_law_stream.nd rfl (Or.inl rfl) (pe_op op_mod (pe_callTy call_int1 (by rfl) m_int (by decide +kernel) (pa_cons (pe_op op_add (pe_op op_add (pe_op op_mul (pv 1) pe_int) (pe_op op_mod (pe_callTy call_int1 (by rfl) m_int (by decide +kernel) (pa_cons (pv 2) pa_nil)) pe_int)) pe_int) pa_nil)) pe_int))))
      (pss_one (ps_ret (pe_lst (pa_cons (pe_callTy call_list_of (by rfl) m_list (by decide +kernel) (pa_cons (pv 0) pa_nil)) (pa_cons pe_int (pa_cons pe_int (pa_cons (pv 1) pa_nil))))))))), ?_⟩
    refine ⟨_, rfl, a, rfl, ⟨_, hS⟩, for_list (K := K) (a := a) (xs := ns.map V.int) (fun i σ H' => ∃ (m : Int) (v : Option V), σ = [some (.ref a), some (.int m), v] ∧ H = H' ∧ 0 ≤ m ∧ m < 2147483647)
      ⟨17, none, rfl, rfl, by decide, by decide⟩ (fun i σ H' _ ⟨_, _, _, e, _⟩ => e ▸ hS) ?_ ?_⟩
    · rintro i y σ H' hi ⟨m, v, rfl, rfl, h1, h2⟩
      obtain ⟨u, _, rfl⟩ := map_int hi
      refine ⟨_, rfl, _, _, rfl, rfl, .inl ⟨by omega, by omega⟩, _, rfl, .inl ⟨_, rfl, _, _, rfl, rfl, (by show (0 : Int) < 65521; omega), _, _, rfl, rfl, _, _, rfl, rfl, .inl ⟨_, rfl, _, _, rfl, rfl, (by show (0 : Int) < 2147483647; omega), ?_⟩⟩⟩
      exact ⟨_, _, rfl, rfl, Int.emod_nonneg _ (by decide), Int.emod_lt_of_pos _ (by decide)⟩
    · rintro σ H' ⟨m, v, rfl, rfl, h1, h2⟩
      refine ⟨_, rfl, _, _, rfl, .inl hS, fun p np => ⟨_, rfl, (by show 4 ≤ sizeLine; decide), fun st nst => ?_⟩⟩
      have n1 : p ≠ st := fun z => by
        rw [z, upd_same] at nst
        cases nst
      refine q st _ (fun b o e => ?_) ?_ ⟨p, ns, 0, 0, m, upd_same, ?_, by decide, by decide, h1, h2⟩
      · rw [upd_ne (fun z => ?_), upd_ne (ne_of_none e np)]
        · exact e
        · rw [z] at e
          rw [upd_ne n1.symm, e] at nst
          cases nst
      · rw [upd_ne n1.symm] at nst
        exact nst
      · rw [upd_ne n1, upd_same]
abbrev s_law_draw : Stmt := topS 10
abbrev nm_law_draw : List Str := ["stream", "many", "value"]
theorem sc_law_draw : FnScope nm_law_draw ["stream", "many"] (defScope s_law_draw) := ⟨rfl, rfl, rfl, by decide +kernel, rfl, by decide +kernel, by decide +kernel⟩
def sp_law_draw (K : PySem.W.Frag) (cl : Cn → Addr) : Sp := fun vs H Q _ => ∃ (st : Addr) (n : Int), vs = [.ref st, .int n] ∧ 0 < n ∧ n < 1073741824 ∧ Strm H st ∧ ∀ (k : Nat) H', (k : Int) < n → ExS st H H' → Strm H' st → Q (.int k) H'
theorem draw_go {st : Addr} {H : Hp} {n : Int} {Q : VK} (hn : 0 < n) (q : ∀ (k : Nat) H', (k : Int) < n → ExS st H H' → Strm H' st → Q (.int k) H') {H' : Hp} (x : Int) (e : ExS st H H') (s : Strm H' st) : Q (.int (x % n)) H' := by
  have h1 : 0 ≤ x % n := Int.emod_nonneg _ (by omega)
  have h2 := Int.emod_lt_of_pos x hn
  have := q (x % n).toNat H' (by omega) e s
  rw [show (((x % n).toNat : Nat) : Int) = x % n by omega] at this
  exact this
theorem ok_law_draw (T : Txt K mg cl) {f : Addr} {fd : FuncData} (F : Fun K "_law_draw" "_law_draw" s_law_draw f fd) : FnOk P w K mg base CX0 1 f fd ["stream", "many"] (sp_law_draw K cl) := by
  have m_abs := T.m_abs
  have m_int := T.m_int
  have m_len := T.m_len
  refine F.ok sc_law_draw (fun vs H Q E h => ?_) (fun cdv A outer s H vs Q E hr h => ?_)
  · obtain ⟨x, i, rfl, _⟩ := h
    rfl
  · obtain ⟨st, n, rfl, hn, hn2, ⟨l, ns, c, i, m, hst, hl, c0, i0, m0, m1⟩, q⟩ := h
    have nl : l ≠ st := ne_of hl hst (fun z => by
      have := HO.lst.inj z
      cases ns with
      | nil => cases this
      | cons a r => cases (List.cons.inj this).1)
    have hL : SqL K H st [.ref l, .int c, .int i, .int m] := SqL.of hst
    refine ⟨_, (Evl.pss_cut (ps_if (PW.pt (pw_and (pt_cmpR op_eq (pe_ix ix_list (pv 0) pe_int (fun _ _ => rfl)) pe_int (nomark _)) (pw_and1 (pt_cmpR op_lt (pe_ix ix_list (pv 0) pe_int (fun _ _ => rfl)) (pe_callB call_len_seq (by rfl) m_len (by decide +kernel) (pa_cons (pe_ix ix_list (pv 0) pe_int (fun _ _ => rfl)) pa_nil)) (nomark _))))) (pss_cons (ps_asg (pe_callB call_abs (by rfl) m_abs (by decide +kernel) (pa_cons (pe_callTy call_int1 (by rfl) m_int (by decide +kernel) (pa_cons (pe_ix ix_list (pe_ix ix_list (pv 0) pe_int (fun _ _ => rfl)) (pe_ix ix_list (pv 0) pe_int (fun _ _ => rfl)) (fun _ _ => rfl)) pa_nil)) pa_nil)) (pg_sub (pv 0) pe_int set_list))
      (pss_one (ps_asg (pe_op op_add (pe_ix ix_list (pv 0) pe_int (fun _ _ => rfl)) pe_int) (pg_sub (pv 0) pe_int set_list)))) pss_nil)
      (pss_cons (ps_if (pt_cmpR op_eq (pe_ix ix_list (pv 0) pe_int (fun _ _ => rfl)) pe_int (nomark _)) (pss_cons (ps_asg (pe_op op_mod (pe_callTy call_int1 (by rfl) m_int (by decide +kernel) (pa_cons (pe_op op_add (pe_op op_mul (pe_ix ix_list (pv 0) pe_int (fun _ _ => rfl)) pe_int) pe_int) pa_nil)) pe_int) (pg_sub (pv 0) pe_int set_list))
      (pss_one (ps_ret (pe_op op_mod (pe_callTy call_int1 (by rfl) m_int (by decide +kernel) (pa_cons (pe_op op_fdiv (pe_ix ix_list (pv 0) pe_int (fun _ _ => rfl)) pe_int) pa_nil)) (pv 1))))) pss_nil)
      (pss_cons (ps_set (i := 2) sc_law_draw.nd rfl (Or.inl rfl) (pe_op op_mod (pe_callTy call_int1 (by rfl) m_int (by decide +kernel) (pa_cons (pe_ix ix_list (pv 0) pe_int (fun _ _ => rfl)) pa_nil)) (pv 1)))
      (pss_cons (ps_asg (pe_op op_fdiv (pe_ix ix_list (pv 0) pe_int (fun _ _ => rfl)) (pv 1)) (pg_sub (pv 0) pe_int set_list))
      (pss_one (ps_ret (pv 2))))))), ?_⟩
    -- the first part leaves a row again
    refine ⟨fun σ H' => ∃ (c i : Int), σ = [some (.ref st), some (.int n), none] ∧ 0 ≤ c ∧ 0 ≤ i ∧ ExS st H H' ∧ H' st = some (.lst [.ref l, .int c, .int i, .int m]) ∧ H' l = some (.lst (ns.map V.int)), ?_, ?_⟩
    · refine ⟨_, rfl, _, _, _, _, rfl, rfl, hL, rfl, rfl, _, rfl, ?_⟩
      by_cases hc : c = 0
      · subst hc
        rw [decide_eq_true rfl]
        refine iteT ?_
        refine ⟨_, rfl, _, _, _, _, rfl, rfl, hL, rfl, _, rfl, _, _, _, _, rfl, rfl, hL, rfl, _, _, rfl, .inl (SqL.of hl), _, _, rfl, rfl, _, rfl, ?_⟩
        by_cases hi : i < (((ns.map V.int).length : Nat) : Int)
        · rw [decide_eq_true hi]
          refine iteT ?_
          obtain ⟨j, rfl⟩ : ∃ j : Nat, i = j := ⟨i.toNat, by omega⟩
          have hj : j < ns.length := by
            rw [List.length_map] at hi
            omega
          have ha : atI (ns.map V.int) (j : Int) = some (.int ns[j]) := atI_nat (by rw [List.getElem?_map, List.getElem?_eq_getElem hj]; rfl)
          refine ⟨_, rfl, _, _, _, _, rfl, rfl, hL, rfl, _, rfl, _, _, _, _, rfl, rfl, hL, rfl, _, _, _, _, rfl, rfl, SqL.of hl, ha, .inl ⟨_, rfl, _, rfl, ?_⟩⟩
          refine ⟨_, rfl, _, _, _, 1, rfl, rfl, hst, rfl, ?_⟩
          refine ⟨_, rfl, _, _, _, _, rfl, rfl, SqL.of upd_same, rfl, _, _, rfl, rfl, ?_⟩
          refine ⟨_, rfl, _, _, _, 2, rfl, rfl, upd_same, rfl, ?_⟩
          refine ⟨_, _, rfl, ?_, ?_, ?_, upd_same, ?_⟩
          · split <;> omega
          · omega
          · rw [upd_upd]
            exact ExS.upd
          · rw [upd_upd, upd_ne nl]
            exact hl
        · rw [decide_eq_false hi]
          refine iteF ?_
          exact ⟨_, _, rfl, c0, i0, .refl, hst, hl⟩
      · rw [decide_eq_false (fun z => hc (V.int.inj z))]
        refine iteF (iteF ?_)
        exact ⟨_, _, rfl, c0, i0, .refl, hst, hl⟩
    · rintro σ H1 ⟨c, i, rfl, c0, i0, ex, hst, hl⟩
      have hL : SqL K H1 st [.ref l, .int c, .int i, .int m] := SqL.of hst
      refine ⟨_, rfl, _, _, _, _, rfl, rfl, hL, rfl, rfl, _, rfl, ?_⟩
      refine ite2 (fun e => ?_) (fun e => ?_)
      · refine ⟨_, rfl, _, _, _, _, rfl, rfl, hL, rfl, _, _, rfl, rfl, .inl ⟨by omega, by omega⟩, _, _, rfl, rfl, .inl ⟨_, rfl, _, _, rfl, rfl, (by show (0 : Int) < 2147483647; omega), ?_⟩⟩
        refine ⟨_, rfl, _, _, _, 3, rfl, rfl, hst, rfl, ?_⟩
        refine ⟨_, rfl, _, _, _, _, rfl, rfl, SqL.of upd_same, rfl, _, _, rfl, rfl, ⟨by show (0 : Int) < 97; omega, by show (97 : Int) < 1073741824; omega⟩, .inl ⟨_, rfl, _, rfl, _, _, rfl, rfl, hn, ?_⟩⟩
        refine draw_go hn q _ (ex.trans ExS.upd) ⟨l, ns, _, _, _, upd_same, ?_, c0, i0, Int.emod_nonneg _ (by decide), Int.emod_lt_of_pos _ (by decide)⟩
        rw [upd_ne nl]
        exact hl
      · refine ⟨_, rfl, _, _, _, _, rfl, rfl, hL, rfl, .inl ⟨_, rfl, _, rfl, _, _, rfl, rfl, hn, ?_⟩⟩
        refine ⟨_, rfl, _, _, _, _, rfl, rfl, hL, rfl, _, rfl, _, _, rfl, rfl, ⟨hn, hn2⟩, ?_⟩
        refine ⟨_, rfl, _, _, _, 1, rfl, rfl, hst, rfl, ?_⟩
        refine ⟨_, rfl, ?_⟩
        refine draw_go hn q _ (ex.trans ExS.upd) ⟨l, ns, _, _, _, upd_same, ?_, Int.ediv_nonneg c0 (by omega), i0, m0, m1⟩
        rw [upd_ne nl]
        exact hl
abbrev s_law_tree : Stmt := topS 11
abbrev nm_law_tree : List Str := ["stream", "pairs", "signs", "missing"]
theorem sc_law_tree : FnScope nm_law_tree ["stream", "pairs"] (defScope s_law_tree) := ⟨rfl, rfl, rfl, by decide +kernel, rfl, by decide +kernel, by decide +kernel⟩
def sp_law_tree (K : PySem.W.Frag) (cl : Cn → Addr) : Sp := fun vs H Q _ => ∃ (st : Addr) (n : Nat), vs = [.ref st, .int n] ∧ n ≤ 100000 ∧ Strm H st ∧ ∀ (t : Tr) H', t.pairs ≤ n → ExS st H H' → Strm H' st → Q (.str t.str) H'
theorem ok_law_tree (T : Txt K mg cl) (H_law_draw : Has P w K mg base CX0 1 "_law_draw" ["stream", "many"] (sp_law_draw K cl)) {f : Addr} {fd : FuncData} (F : Fun K "_law_tree" "_law_tree" s_law_tree f fd) : FnOk P w K mg base CX0 2 f fd ["stream", "pairs"] (sp_law_tree K cl) := by
  obtain ⟨f_law_draw, d_law_draw, G_law_draw, g_law_draw, k_law_draw, b_law_draw⟩ := H_law_draw.ex
  refine F.ok sc_law_tree (fun vs H Q E h => ?_) (fun cdv A outer s H vs Q E hr h => ?_)
  · obtain ⟨x, i, rfl, _⟩ := h
    rfl
  · obtain ⟨st, n, rfl, hn, sm, q⟩ := h
    refine ⟨_, (pss_cons (ps_set (i := 2) sc_law_tree.nd rfl (Or.inl rfl) pe_str)
      (pss_cons (ps_set (i := 3) sc_law_tree.nd rfl (Or.inl rfl) pe_int)
      (pss_cons (ps_while PassesOwn.never (pt_cmpR op_gt (pv 3) pe_int (nomark _)) (pss_one (ps_if (pt_mid (PW.pt (pw_or (PW.pt (pw_and (pt_cmpR op_gt (pv 1) pe_int (nomark _)) (pw_and1 (pt_cmpR op_lt (pe_call G_law_draw (hr.mono (by decide)) (by rfl) g_law_draw k_law_draw b_law_draw .nil pass0 (pa_cons (pv 0) (pa_cons (pe_op op_add (pv 3) pe_int) pa_nil))) (pv 3) (nomark _))))) (pw_or1 (PW.pt (pw_and (pt_cmpR op_gt (pv 1) pe_int (nomark _)) (pw_and (pt_cmpR op_eq (pv 3) pe_int (nomark _)) (pw_and1 (pt_cmpR op_gt (pe_call G_law_draw (hr.mono (by decide)) (by rfl) g_law_draw k_law_draw b_law_draw .nil pass0 (pa_cons (pv 0) (pa_cons pe_int pa_nil))) pe_int (nomark _)))))))))) (pss_cons (ps_set (i := 2) sc_law_tree.nd rfl (Or.inl rfl) (pe_op op_add_str (pv 2) pe_str))
      (pss_cons (ps_set (i := 3) sc_law_tree.nd rfl (Or.inl rfl) (pe_op op_add (pv 3) pe_int))
      (pss_one (ps_set (i := 1) sc_law_tree.nd rfl (Or.inl rfl) (pe_op op_sub (pv 1) pe_int))))) (pss_cons (ps_set (i := 2) sc_law_tree.nd rfl (Or.inl rfl) (pe_op op_add_str (pv 2) pe_str))
      (pss_one (ps_set (i := 3) sc_law_tree.nd rfl (Or.inl rfl) (pe_op op_sub (pv 3) pe_int)))))))
      (pss_one (ps_ret (pv 2)))))), ?_⟩
    refine ⟨fun m σ H' => ∃ (l : List Nat) (k p : Nat), σ = [some (.ref st), some (.int p), some (.str (stS l)), some (.int k)] ∧ Opn l k ∧ l.count 49 + p = n ∧ m = 2 * p + k ∧ ExS st H H' ∧ Strm H' st, ⟨_, [], 1, n, rfl, .nil, Nat.zero_add n, rfl, .refl, sm⟩, ?_⟩
    rintro m σ H1 ⟨l, k, p, rfl, ho, hp, rfl, ex, sm1⟩
    refine ⟨_, rfl, _, _, rfl, rfl, _, rfl, ?_⟩
    cases k with
    | zero =>
      rw [decide_eq_false (by omega)]
      refine iteF ⟨_, rfl, ?_⟩
      obtain ⟨t, e⟩ := ho.done
      rw [e]
      refine q t H1 ?_ ex sm1
      rw [← t.count_1, ← e]
      omega
    | succ k =>
      rw [decide_eq_true (by omega)]
      refine iteT ⟨_, fun σ' H' h => h, ?_⟩
      have hlen : l.length ≤ 200001 ∧ k ≤ 200001 := by
        have := ho.2.2
        omega
      obtain ⟨hlen, hk⟩ := hlen
      refine ⟨fun b H' => (b = true → 0 < p) ∧ ExS st H H' ∧ Strm H' st, ?_, fun b H2 hb => ?_⟩
      · refine ⟨_, rfl, _, _, rfl, rfl, _, rfl, ?_⟩
        by_cases h0 : (0 : Int) < p
        · rw [decide_eq_true h0]
          refine iteT ⟨_, rfl, _, rfl, _, _, rfl, rfl, ?_⟩
          refine ⟨st, _, rfl, by omega, by omega, sm1, fun d H2 _ ex2 sm2 => ?_⟩
          refine ⟨_, rfl, _, _, rfl, rfl, _, rfl, ?_⟩
          refine ite2 (fun c => ⟨fun _ => by omega, ex.trans ex2, sm2⟩) (fun c => ?_)
          refine ⟨_, rfl, _, _, rfl, rfl, _, rfl, ?_⟩
          rw [decide_eq_true h0]
          refine iteT ⟨_, rfl, rfl, _, rfl, ?_⟩
          refine ite2 (fun c2 => ?_) (fun c2 => ⟨fun z => (by cases z), ex.trans ex2, sm2⟩)
          refine ⟨_, rfl, ?_⟩
          refine ⟨st, _, rfl, by omega, by omega, sm2, fun d3 H3 _ ex3 sm3 => ?_⟩
          refine ⟨_, _, rfl, rfl, _, rfl, ?_⟩
          exact ⟨fun _ => by omega, (ex.trans ex2).trans ex3, sm3⟩
        · rw [decide_eq_false h0]
          refine iteF (iteF ?_)
          refine ⟨_, rfl, _, _, rfl, rfl, _, rfl, ?_⟩
          rw [decide_eq_false h0]
          exact iteF ⟨fun z => (by cases z), ex, sm1⟩
      · obtain ⟨hb1, ex2, sm2⟩ := hb
        cases b with
        | true =>
          have hp0 := hb1 rfl
          refine iteT ?_
          refine ⟨_, rfl, _, _, rfl, rfl, (by rw [stS_len]; exact Nat.le_trans (Nat.add_le_add_right hlen _) (by decide)), ?_⟩
          refine ⟨_, rfl, _, _, rfl, rfl, ?_⟩
          refine ⟨_, rfl, _, _, rfl, rfl, ?_⟩
          refine ⟨2 * (p - 1) + (k + 2), by omega, l ++ [49], k + 2, p - 1, ?_, ho.one, ?_, rfl, ex2, sm2⟩
          · rw [show (Str.ofString "1") = stS [49] by decide +kernel, stS_app, show (((p - 1 : Nat)) : Int) = (p : Int) - 1 by omega]
            rfl
          · rw [List.count_append]
            show l.count 49 + 1 + (p - 1) = n
            omega
        | false =>
          refine iteF ?_
          refine ⟨_, rfl, _, _, rfl, rfl, (by rw [stS_len]; exact Nat.le_trans (Nat.add_le_add_right hlen _) (by decide)), ?_⟩
          refine ⟨_, rfl, _, _, rfl, rfl, ?_⟩
          refine ⟨2 * p + k, by omega, l ++ [48], k, p, ?_, ho.zero, ?_, rfl, ex2, sm2⟩
          · rw [show (Str.ofString "0") = stS [48] by decide +kernel, stS_app]
            simp
          · rw [List.count_append]
            show l.count 49 + 0 + p = n
            omega
abbrev s_law_given : Stmt := topS 15
abbrev nm_law_given : List Str := ["told"]
theorem sc_law_given : FnScope nm_law_given ["told"] (defScope s_law_given) := ⟨rfl, rfl, rfl, by decide +kernel, rfl, by decide +kernel, by decide +kernel⟩
def sp_law_given (K : PySem.W.Frag) (cl : Cn → Addr) : Sp := fun vs H Q _ => ∃ x, vs = [x] ∧ x ≠ .non ∧
  ((∃ t, TyX K H x t ∧ PySem.W.kitOne K t (.type "tuple") = some false) ∨ ∃ a y ys d, x = .ref a ∧ H a = some (.tup (y :: ys)) ∧ Dp K H y d ∧ notTold d) ∧ ∀ H', Same H H' → Q x H'
theorem ok_law_given (T : Txt K mg cl) {f : Addr} {fd : FuncData} (F : Fun K "_law_given" "_law_given" s_law_given f fd) : FnOk P w K mg base CX0 1 f fd ["told"] (sp_law_given K cl) := by
  have m_isinstance := T.m_isinstance
  have m_tuple := T.m_tuple
  refine F.ok sc_law_given (fun vs H Q E h => ?_) (fun cdv A outer s H vs Q E hr h => ?_)
  · obtain ⟨x, rfl, _⟩ := h
    rfl
  · obtain ⟨x, rfl, hx, hk, q⟩ := h
    refine ⟨_, (pss_cons (ps_if (PW.pt (pw_or (pt_cmpR op_isN (pv 0) pe_non (nomark _)) (pw_or1 (PW.pt (pw_and (pt_val (pe_callB call_isi (by rfl) m_isinstance (by decide +kernel) (pa_cons (pv 0) (pa_cons (pe_bltn (v := .ty "tuple") (by rfl) m_tuple (by decide +kernel) rfl) pa_nil)))) (pw_and1 (pt_cmpR (op_inDT hr.units2) (pe_mid (pe_slice sl_tupA (pv 0) po_none (po_some pe_int))) (pe_tup (pa_cons (pe_tup (pa_cons pe_str pa_nil)) (pa_cons (pe_tup (pa_cons pe_str pa_nil)) (pa_cons (pe_tup (pa_cons pe_str pa_nil)) pa_nil)))) (by rfl)))))))) (pss_one (ps_ret (pe_lst (pa_cons pe_str pa_nil)))) pss_nil)
      (pss_one (ps_ret (pv 0)))), ?_⟩
    refine ⟨_, rfl, rfl, _, rfl, ?_⟩
    rw [decide_eq_false hx]
    refine iteF ?_
    rcases hk with ⟨t, ty, kt⟩ | ⟨a, y, ys, d, rfl, ha, hd, nt⟩
    · refine ⟨_, rfl, _, _, _, _, false, rfl, .ty _, ty, kt, _, rfl, iteF (iteF ?_)⟩
      exact ⟨_, rfl, q _ (.refl _)⟩
    · refine ⟨_, rfl, _, _, _, _, true, rfl, .ty _, .base (.tup ha), kit_ty (by decide +kernel), _, rfl, iteT ?_⟩
      refine ⟨fun v H1 => ∃ p, v = .ref p ∧ Same H H1 ∧ H1 p = some (.tup [y]), ⟨_, rfl, 1, rfl, a, _, rfl, SqT.of ha, fun hw => ?_, fun hw p np => ?_⟩, ?_⟩
      · have : ys = [] := by
          have h2 : min 1 (y :: ys).length = (y :: ys).length := by
            have := hw.2
            rw [show HT.sIx (y :: ys).length (y :: ys).length (some 1) = min 1 (y :: ys).length from HT.sIx_nat _ _ 1] at this
            exact this
          cases ys with
          | nil => rfl
          | cons b r =>
            simp at h2
        subst this
        exact ⟨a, rfl, .refl _, ha⟩
      · refine ⟨p, rfl, Same.upd np, ?_⟩
        rw [upd_same]
        congr 2
      · rintro v H1 ⟨p, rfl, sm, hp⟩
        refine ⟨(by show 1 ≤ sizeLine; decide), fun p1 n1 => ⟨(by show 1 ≤ sizeLine; decide), fun p2 n2 => ⟨(by show 1 ≤ sizeLine; decide), fun p3 n3 => ⟨(by show 3 ≤ sizeLine; decide), fun p4 n4 => ?_⟩⟩⟩⟩
        have u1 := Same.upd (o := .tup [.str "refused"]) n1
        have u2 := Same.upd (o := .tup [.str "large"]) n2
        have u3 := Same.upd (o := .tup [.str "wide"]) n3
        have u4 := Same.upd (o := .tup [.ref p1, .ref p2, .ref p3]) n4
        have a1 := (u2.trans (u3.trans u4)) _ _ (upd_same (o := .tup [.str "refused"]))
        have a2 := (u3.trans u4) _ _ (upd_same (o := .tup [.str "large"]))
        have a3 := u4 _ _ (upd_same (o := .tup [.str "wide"]))
        have all := (u1.trans u2).trans (u3.trans u4)
        refine ⟨.tuple [d], [.tuple [.str "refused"], .tuple [.str "large"], .tuple [.str "wide"]], .tup (SqT.of (all _ _ hp)) (.cons (hd.same (sm.trans all)) .nil),
          .tup (SqT.of upd_same) (.cons (.tup (SqT.of a1) (.cons (.str _) .nil)) (.cons (.tup (SqT.of a2) (.cons (.str _) .nil)) (.cons (.tup (SqT.of a3) (.cons (.str _) .nil)) .nil))), nt.1, (by decide +kernel), ?_⟩
        obtain ⟨_, e1, e2, e3⟩ := nt
        have eb : ([PyData.tuple [.str "refused"], .tuple [.str "large"], .tuple [.str "wide"]].any fun z => PyData.eqv z (.tuple [d])) = false := by
          show ((PyData.eqv (.str "refused") d && true) || ((PyData.eqv (.str "large") d && true) || ((PyData.eqv (.str "wide") d && true) || false))) = false
          rw [e1, e2, e3]
          rfl
        rw [eb]
        refine ⟨_, rfl, iteF ?_⟩
        exact ⟨_, rfl, q _ (sm.trans all)⟩
abbrev s_number : Stmt := topS 6
abbrev nm_number : List Str := ["value"]
theorem sc_number : FnScope nm_number ["value"] (defScope s_number) := ⟨rfl, rfl, rfl, by decide +kernel, rfl, by decide +kernel, by decide +kernel⟩
def sp_number (K : PySem.W.Frag) (cl : Cn → Addr) : Sp := fun vs H Q E => ∃ n : Nat, vs = [.int n] ∧ (2 * n + 1 ≤ 200000 → Q (.str (numT n).str) H) ∧ (200000 < 2 * n + 1 → E (.ref (cl .TooLarge)) none H)
theorem ok_number (T : Txt K mg cl) {f : Addr} {fd : FuncData} (F : Fun K "number" "number" s_number f fd) : FnOk P w K mg base (L2.CX P w) 1 f fd ["value"] (sp_number K cl) := by
  obtain ⟨t_MOST_TREE, m_MOST_TREE⟩ := T.m_MOST_TREE
  obtain ⟨t_LEAF, m_LEAF⟩ := T.m_LEAF
  obtain ⟨g_TooLarge, x_TooLarge⟩ := T.e_TooLarge
  refine F.okX sc_number (fun vs H Q E h => ?_) (fun cdv A outer s H vs Q E hr h => ?_)
  · obtain ⟨n, rfl, _⟩ := h
    rfl
  · obtain ⟨n, rfl, q, e⟩ := h
    have hz : sizeLine = 16777216 := rfl
    refine ⟨_, (pss_cons (ps_if (pt_cmpR op_gt (pe_op op_add (pe_op op_mul pe_int (pv 0)) pe_int) (pe_glob (v := .int 200000) (by rfl) m_MOST_TREE ⟨_, rfl⟩) (nomark _)) (pss_one (ps_raise rfl (takes_of rfl rfl rfl rfl) (pmk_own PySem.F.excBase_ValueError x_TooLarge.x g_TooLarge x_TooLarge.k (raises_own x_TooLarge.b x_TooLarge.t) (by exact rfl)))) pss_nil)
      (pss_one (ps_ret (pe_op op_add_str (pe_op op_mulS pe_str (pv 0)) (pe_glob (v := .str "0") (by rfl) m_LEAF ⟨_, rfl⟩))))), ?_⟩
    refine ⟨_, rfl, _, _, rfl, rfl, .inl (by decide), _, _, rfl, rfl, _, _, rfl, rfl, _, rfl, ?_⟩
    refine ite2 (fun c => ?_) (fun c => ?_)
    · have := of_decide_eq_true c
      exact e (by omega)
    · have h2 : ¬ (200000 : Int) < 2 * (n : Int) + 1 := fun z => c (decide_eq_true z)
      have w1 : (Str.ofString "10").cps.toList.length = 2 := by decide +kernel
      refine ⟨_, rfl, _, _, rfl, rfl, (by omega), (by omega), (by show 2 * _ ≤ _; omega), _, _, rfl, rfl, (by rw [stS_len, repL_len, w1]; show _ + 1 ≤ _; omega), ?_⟩
      rw [show (n : Int).toNat = n by omega, num_str]
      exact q (by omega)
abbrev s_law_told : Stmt := topS 16
abbrev nm_law_told : List Str := ["value"]
theorem sc_law_told : FnScope nm_law_told ["value"] (defScope s_law_told) := ⟨rfl, rfl, rfl, by decide +kernel, rfl, by decide +kernel, by decide +kernel⟩
def sp_law_told (K : PySem.W.Frag) (cl : Cn → Addr) : Sp := fun vs H Q _ => ∃ n : Nat, vs = [.int n] ∧
  (2 * n + 1 ≤ 200000 → ∀ H', Same H H' → Q (.str (numT n).str) H') ∧ (200000 < 2 * n + 1 → ∀ p H', Same H H' → H' p = some (.tup [.str "refused", .str "large"]) → Q (.ref p) H')
theorem ok_law_told (T : Txt K mg cl) (H_law_given : Has P w K mg base CX0 1 "_law_given" ["told"] (sp_law_given K cl)) (H_number : Has P w K mg base (L2.CX P w) 1 "number" ["value"] (sp_number K cl)) {f : Addr} {fd : FuncData} (F : Fun K "_law_told" "_law_told" s_law_told f fd) : FnOk P w K mg base CX0 2 f fd ["value"] (sp_law_told K cl) := by
  obtain ⟨g_TooLarge, x_TooLarge⟩ := T.e_TooLarge
  obtain ⟨f_law_given, d_law_given, G_law_given, g_law_given, k_law_given, b_law_given⟩ := H_law_given.ex
  obtain ⟨f_number, d_number, G_number, g_number, k_number, b_number⟩ := H_number.ex
  refine F.ok sc_law_told (fun vs H Q E h => ?_) (fun cdv A outer s H vs Q E hr h => ?_)
  · obtain ⟨x, rfl, _⟩ := h
    rfl
  · obtain ⟨n, rfl, q1, q2⟩ := h
    refine ⟨_, (pss_one (ps_try_only rfl rfl ⟨rfl, by decide, .inl g_TooLarge⟩ takes0 (fun W pn xe tk po => (pss_one (ps_ret (pe_call G_law_given (hr.mono (by decide)) (by rfl) g_law_given k_law_given b_law_given .nil pass0 (pa_cons (pe_callS G_number (hr.mono (by decide)) (by rfl) g_number k_number b_number (fun σ => passAt tk σ) (pa_cons (pv 0) pa_nil)) pa_nil)))))
      (fun a oe cls d pn hz hf => (pss_one (ps_ret (pe_tup (pa_cons pe_str (pa_cons pe_str pa_nil)))))))), ?_⟩
    refine ⟨_, rfl, n, rfl, fun c => ?_, fun c => ?_⟩
    · refine ⟨_, rfl, (fun z => by cases z), .inl ⟨_, .base (.str _), kit_ty (by decide +kernel)⟩, fun H' sm => ?_⟩
      exact q1 c H' sm
    · refine ⟨true, PySem.W.exm_ref x_TooLarge.b x_TooLarge.c.hd x_TooLarge.t (T.p_TooLarge_TooLarge.2), fun _ a na => ?_, fun z => by cases z⟩
      refine ⟨(by show 2 ≤ sizeLine; decide), fun p np => ?_⟩
      exact q2 c p _ (Same.upd np) upd_same
abbrev s_value_of : Stmt := topS 7
abbrev nm_value_of : List Str := ["tree", "value"]
theorem sc_value_of : FnScope nm_value_of ["tree"] (defScope s_value_of) := ⟨rfl, rfl, rfl, by decide +kernel, rfl, by decide +kernel, by decide +kernel⟩
def sp_value_of (K : PySem.W.Frag) (cl : Cn → Addr) : Sp := fun vs H Q _ => ∃ x : Str, vs = [.str x] ∧ x.length ≤ 1000000 ∧ Q (valV x) H
theorem ok_value_of (T : Txt K mg cl) {f : Addr} {fd : FuncData} (F : Fun K "value_of" "value_of" s_value_of f fd) : FnOk P w K mg base CX0 1 f fd ["tree"] (sp_value_of K cl) := by
  have m_len := T.m_len
  obtain ⟨t_LEAF, m_LEAF⟩ := T.m_LEAF
  refine F.ok sc_value_of (fun vs H Q E h => ?_) (fun cdv A outer s H vs Q E hr h => ?_)
  · obtain ⟨n, rfl, _⟩ := h
    rfl
  · obtain ⟨x, rfl, hx, q⟩ := h
    have hz : sizeLine = 16777216 := rfl
    refine ⟨_, (pss_cons (ps_set (i := 1) sc_value_of.nd rfl (Or.inl rfl) (pe_op op_fdiv (pe_callB call_len_str (by rfl) m_len (by decide +kernel) (pa_cons (pv 0) pa_nil)) pe_int))
      (pss_cons (ps_if (pt_cmpR op_eq (pv 0) (pe_op op_add_str (pe_op op_mulS pe_str (pv 1)) (pe_glob (v := .str "0") (by rfl) m_LEAF ⟨_, rfl⟩)) (nomark _)) (pss_one (ps_ret (pv 1))) pss_nil)
      (pss_one (ps_ret pe_non)))), ?_⟩
    refine ⟨_, rfl, _, rfl, (by omega), _, _, rfl, rfl, ⟨by show (0 : Int) < 2; omega, by show (2 : Int) < 1073741824; omega⟩, ?_⟩
    have e0 : ((x.length : Nat) : Int) / 2 = ((x.length / 2 : Nat) : Int) := by omega
    dsimp only
    rw [e0]
    have w1 : (Str.ofString "10").cps.toList.length = 2 := by decide +kernel
    refine ⟨_, rfl, _, rfl, _, _, rfl, rfl, (by omega), (by omega), (by show 2 * _ ≤ _; omega), _, _, rfl, rfl, (by rw [stS_len, repL_len, w1]; show _ + 1 ≤ _; omega), rfl, _, rfl, ?_⟩
    rw [show ((x.length / 2 : Nat) : Int).toNat = x.length / 2 by omega, num_str]
    unfold valV at q
    by_cases c : x = (numT (x.length / 2)).str
    · rw [if_pos c] at q
      exact iteS (congrArg V.str c) ⟨_, rfl, q⟩
    · rw [if_neg c] at q
      exact iteNo (fun z => c (V.str.inj z)) q
abbrev s_law : Stmt := topS 17
abbrev nm_law : List Str := ["script", "stream", "value", "due", "tree", "wanted", "k", "many", "inner", "other"]
theorem sc_law : FnScope nm_law ["script"] (defScope s_law) := ⟨rfl, rfl, rfl, by decide +kernel, rfl, by decide +kernel, by decide +kernel⟩
def sp_law (K : PySem.W.Frag) (cl : Cn → Addr) : Sp := fun vs H Q _ => ∃ (a : Addr) (ns : List Int), vs = [.ref a] ∧ SqL K H a (ns.map V.int) ∧ ns.length ≤ 63 ∧ ∀ H', Q (.bl true) H'
theorem other_str (n : Nat) (a b c : Tr) : stS (repL n (Str.ofString "10").cps.toList) ++ Str.ofString "1" ++ (Str.ofString "1" ++ a.str ++ b.str) ++ c.str = (numOn n (.node (.node a b) c)).str := by
  rw [str_cons, s1, show (Str.ofString "10").cps.toList = [49, 48] by decide +kernel]
  show stS _ ++ stS [49] ++ stS (Tr.node a b).sg ++ stS c.sg = stS _
  rw [stS_app, stS_app, stS_app, numOn_sg]
  show stS _ = stS (_ ++ 49 :: ((Tr.node a b).sg ++ c.sg))
  simp
theorem ok_law (T : Txt K mg cl) (H_law_stream : Has P w K mg base CX0 1 "_law_stream" ["script"] (sp_law_stream K cl)) (H_law_draw : Has P w K mg base CX0 1 "_law_draw" ["stream", "many"] (sp_law_draw K cl)) (H_law_tree : Has P w K mg base CX0 2 "_law_tree" ["stream", "pairs"] (sp_law_tree K cl)) (H_law_told : Has P w K mg base CX0 2 "_law_told" ["value"] (sp_law_told K cl)) (H_value_of : Has P w K mg base CX0 1 "value_of" ["tree"] (sp_value_of K cl)) {f : Addr} {fd : FuncData} (F : Fun K "law" "law" s_law f fd) : FnOk P w K mg base CX0 3 f fd ["script"] (sp_law K cl) := by
  have m_range := T.m_range
  have m_len := T.m_len
  have m_isinstance := T.m_isinstance
  have m_bool := T.m_bool
  obtain ⟨f_law_stream, d_law_stream, G_law_stream, g_law_stream, k_law_stream, b_law_stream⟩ := H_law_stream.ex
  obtain ⟨f_law_draw, d_law_draw, G_law_draw, g_law_draw, k_law_draw, b_law_draw⟩ := H_law_draw.ex
  obtain ⟨f_law_tree, d_law_tree, G_law_tree, g_law_tree, k_law_tree, b_law_tree⟩ := H_law_tree.ex
  obtain ⟨f_law_told, d_law_told, G_law_told, g_law_told, k_law_told, b_law_told⟩ := H_law_told.ex
  obtain ⟨f_value_of, d_value_of, G_value_of, g_value_of, k_value_of, b_value_of⟩ := H_value_of.ex
  refine F.ok sc_law (fun vs H Q E h => ?_) (fun cdv A outer s H vs Q E hr h => ?_)
  · obtain ⟨x, i, rfl, _⟩ := h
    rfl
  · obtain ⟨a, ns, rfl, hS, hlen, q⟩ := h
    have hz : sizeLine = 16777216 := rfl
    refine ⟨_, (pss_cons (ps_set (i := 1) sc_law.nd rfl (Or.inl rfl) (pe_call G_law_stream (hr.mono (by decide)) (by rfl) g_law_stream k_law_stream b_law_stream .nil pass0 (pa_cons (pv 0) pa_nil)))
      (pss_cons (ps_set (i := 2) sc_law.nd rfl (Or.inl rfl) (pe_call G_law_draw (hr.mono (by decide)) (by rfl) g_law_draw k_law_draw b_law_draw .nil pass0 (pa_cons (pv 1) (pa_cons pe_int pa_nil))))
      (Evl.pss_cut (ps_if (pt_cmpR op_eq (pe_call G_law_draw (hr.mono (by decide)) (by rfl) g_law_draw k_law_draw b_law_draw .nil pass0 (pa_cons (pv 1) (pa_cons pe_int pa_nil))) pe_int (nomark _)) (pss_one (ps_set (i := 2) sc_law.nd rfl (Or.inl rfl) (pe_op op_add pe_int (pe_call G_law_draw (hr.mono (by decide)) (by rfl) g_law_draw k_law_draw b_law_draw .nil pass0 (pa_cons (pv 1) (pa_cons pe_int pa_nil)))))) pss_nil)
      (pss_cons (ps_set (i := 3) sc_law.nd rfl (Or.inl rfl) (pe_op op_add_str (pe_op op_mulS pe_str (pv 2)) pe_str))
      (pss_cons (ps_if (pt_cmpR op_gt (pe_callB call_len_str (by rfl) m_len (by decide +kernel) (pa_cons (pv 3) pa_nil)) pe_int (nomark _)) (pss_one (ps_ret (pe_cmpR (op_eqD hr.units) (pe_call G_law_told (hr.mono (by decide)) (by rfl) g_law_told k_law_told b_law_told .nil pass0 (pa_cons (pv 2) pa_nil)) (pe_tup (pa_cons pe_str (pa_cons pe_str pa_nil))) (nomark _)))) pss_nil)
      (pss_cons (ps_if (PW.pt (pw_or (pt_cmpR (op_neD hr.units) (pe_call G_law_told (hr.mono (by decide)) (by rfl) g_law_told k_law_told b_law_told .nil pass0 (pa_cons (pv 2) pa_nil)) (pv 3) (nomark _)) (pw_or (pt_cmpR op_ne (pe_call G_value_of (hr.mono (by decide)) (by rfl) g_value_of k_value_of b_value_of .nil pass0 (pa_cons (pv 3) pa_nil)) (pv 2) (nomark _)) (pw_or1 (pt_val (pe_callB call_isi (by rfl) m_isinstance (by decide +kernel) (pa_cons (pe_call G_value_of (hr.mono (by decide)) (by rfl) g_value_of k_value_of b_value_of .nil pass0 (pa_cons (pv 3) pa_nil)) (pa_cons (pe_bltn (v := .ty "bool") (by rfl) m_bool (by decide +kernel) rfl) pa_nil)))))))) (pss_one (ps_ret pe_bl)) pss_nil)
      (pss_cons (ps_set (i := 4) sc_law.nd rfl (Or.inl rfl) (pe_call G_law_tree (hr.mono (by decide)) (by rfl) g_law_tree k_law_tree b_law_tree .nil pass0 (pa_cons (pv 1) (pa_cons (pe_call G_law_draw (hr.mono (by decide)) (by rfl) g_law_draw k_law_draw b_law_draw .nil pass0 (pa_cons (pv 1) (pa_cons pe_int pa_nil))) pa_nil))))
      (pss_cons (ps_set (i := 5) sc_law.nd rfl (Or.inl rfl) pe_non)
      (pss_cons (ps_for PassesOwn.never rfl (pi_range1 (by rfl) m_range (pa_cons pe_int pa_nil)) (pg_name (i := 6) sc_law.nd rfl (Or.inl rfl)) (pss_one (ps_if (pt_cmpR op_eq (pv 4) (pe_op op_add_str (pe_op op_mulS pe_str (pv 6)) pe_str) (nomark _)) (pss_one (ps_set (i := 5) sc_law.nd rfl (Or.inl rfl) (pv 6))) pss_nil)))
      (pss_cons (ps_set (i := 7) sc_law.nd rfl (Or.inl rfl) (pe_call G_law_draw (hr.mono (by decide)) (by rfl) g_law_draw k_law_draw b_law_draw .nil pass0 (pa_cons (pv 1) (pa_cons pe_int pa_nil))))
      (pss_cons (ps_set (i := 8) sc_law.nd rfl (Or.inl rfl) (pe_op op_add_str (pe_op op_add_str pe_str (pe_call G_law_tree (hr.mono (by decide)) (by rfl) g_law_tree k_law_tree b_law_tree .nil pass0 (pa_cons (pv 1) (pa_cons (pe_call G_law_draw (hr.mono (by decide)) (by rfl) g_law_draw k_law_draw b_law_draw .nil pass0 (pa_cons (pv 1) (pa_cons pe_int pa_nil))) pa_nil)))) (pe_call G_law_tree (hr.mono (by decide)) (by rfl) g_law_tree k_law_tree b_law_tree .nil pass0 (pa_cons (pv 1) (pa_cons (pe_call G_law_draw (hr.mono (by decide)) (by rfl) g_law_draw k_law_draw b_law_draw .nil pass0 (pa_cons (pv 1) (pa_cons pe_int pa_nil))) pa_nil)))))
      (pss_cons (ps_set (i := 9) sc_law.nd rfl (Or.inl rfl) (pe_op op_add_str (pe_op op_add_str (pe_op op_add_str (pe_op op_mulS pe_str (pv 7)) pe_str) (pv 8)) (pe_call G_law_tree (hr.mono (by decide)) (by rfl) g_law_tree k_law_tree b_law_tree .nil pass0 (pa_cons (pv 1) (pa_cons (pe_call G_law_draw (hr.mono (by decide)) (by rfl) g_law_draw k_law_draw b_law_draw .nil pass0 (pa_cons (pv 1) (pa_cons pe_int pa_nil))) pa_nil)))))
      (pss_one (ps_ret (pe_and (pe_cmpR op_eq (pe_call G_value_of (hr.mono (by decide)) (by rfl) g_value_of k_value_of b_value_of .nil pass0 (pa_cons (pv 4) pa_nil)) (pv 5) (nomark _)) (pe_and (pe_cmpR op_isN (pe_call G_value_of (hr.mono (by decide)) (by rfl) g_value_of k_value_of b_value_of .nil pass0 (pa_cons (pv 9) pa_nil)) pe_non (nomark _)) (pe_one (pe_cmpR op_eq (pe_call G_value_of (hr.mono (by decide)) (by rfl) g_value_of k_value_of b_value_of .nil pass0 (pa_cons (pe_op op_add_str (pe_op op_mulS pe_str (pv 7)) pe_str) pa_nil)) (pv 7) (nomark _))))))))))))))))))), ?_⟩
    refine ⟨_, rfl, a, ns, rfl, hS, hlen, fun st H1 sm n0 st1 => ?_⟩
    refine ⟨_, rfl, st, _, rfl, by decide, by decide, st1, fun k H2 hk ex2 st2 => ?_⟩
    refine ⟨fun σ H' => ∃ n : Nat, n ≤ 200000 ∧ σ = [some (.ref a), some (.ref st), some (.int n), none, none, none, none, none, none, none] ∧ Strm H' st, ?_, ?_⟩
    · refine ⟨_, rfl, st, _, rfl, by decide, by decide, st2, fun d1 H3 hd1 ex3 st3 => ?_⟩
      refine ⟨rfl, _, rfl, ?_⟩
      refine ite2 (fun c => ?_) (fun c => ⟨k, by omega, rfl, st3⟩)
      refine ⟨_, rfl, st, _, rfl, by decide, by decide, st3, fun d2 H4 hd2 ex4 st4 => ?_⟩
      refine ⟨_, _, rfl, rfl, ?_⟩
      exact ⟨99995 + d2, by omega, rfl, st4⟩
    · rintro σ H3 ⟨n, hn, rfl, st3⟩
      have z1 := len10 n
      have z2 := (numT n).str_len
      have z3 := numT_len n
      refine ⟨_, rfl, _, _, rfl, rfl, (by omega), (by omega), (by show 2 * _ ≤ _; omega), _, _, rfl, rfl, (by rw [show (n : Int).toNat = n by omega, z1]; show _ + 1 ≤ _; omega), ?_⟩
      rw [show (n : Int).toNat = n by omega, num_str]
      refine ⟨_, rfl, _, rfl, (by omega), _, _, rfl, rfl, _, rfl, ?_⟩
      refine ite2 (fun c => ?_) (fun c => ?_)
      · have := of_decide_eq_true c
        refine ⟨_, rfl, n, rfl, fun c2 => by omega, fun c2 p H4 sm4 hp => ?_⟩
        refine ⟨(by show 2 ≤ sizeLine; decide), fun p2 np2 => ⟨.tuple [.str "refused", .str "large"], .tuple [.str "refused", .str "large"], .tup (SqT.of (Same.upd np2 _ _ hp)) (.cons (.str _) (.cons (.str _) .nil)), .tup (SqT.of upd_same) (.cons (.str _) (.cons (.str _) .nil)), (by decide +kernel), (by decide +kernel), ?_⟩⟩
        rw [show PyData.eqv (.tuple [.str "refused", .str "large"]) (.tuple [.str "refused", .str "large"]) = true by decide +kernel]
        exact q _
      · have c' : ¬ (200000 : Int) < (((numT n).str.length : Nat) : Int) := fun z => c (decide_eq_true z)
        refine ⟨_, rfl, n, rfl, fun c2 H4 sm4 => ?_, fun c2 => by omega⟩
        have st4 := sm4.strm st3
        refine ⟨_, rfl, _, _, .str _, .str _, shaped_01 (Tr.sg_01 _), shaped_01 (Tr.sg_01 _), _, rfl, ?_⟩
        rw [eqv_str]
        refine iteF ⟨_, rfl, _, rfl, by omega, ?_⟩
        rw [valV_num]
        refine ⟨_, rfl, rfl, _, rfl, iteNS rfl ?_⟩
        refine ⟨_, rfl, _, rfl, by omega, ?_⟩
        rw [valV_num]
        refine ⟨_, _, _, _, false, rfl, .ty _, .base (.int _), kit_ty (by decide +kernel), _, rfl, iteF ?_⟩
        refine ⟨_, rfl, _, rfl, st, _, rfl, by decide, by decide, st4, fun d5 H5 hd5 ex5 st5 => ?_⟩
        refine ⟨st, d5, rfl, by omega, st5, fun t H6 ht ex6 st6 => ?_⟩
        have lt1 := t.str_len
        have lt2 := t.sg_len
        -- the least number whose text it is
        refine ⟨9, rfl, by decide, by decide, ?_⟩
        refine for_range (lo := 0) (n := 9) (fun i σ H' => ∃ wv kv, σ = [some (.ref a), some (.ref st), some (.int n), some (.str (numT n).str), some (.str t.str), some wv, kv, none, none, none] ∧ H6 = H' ∧
            ((∃ k, k < i ∧ t = numT k ∧ wv = .int k) ∨ ((∀ k, k < i → t ≠ numT k) ∧ wv = .non))) ⟨.non, none, rfl, rfl, .inr ⟨fun k hk => by omega, rfl⟩⟩ ?_ ?_
        · rintro i σ H' hi ⟨wv, kv, rfl, rfl, hw⟩
          have y1 := len10 i
          refine ⟨_, rfl, _, rfl, _, _, rfl, rfl, (by omega), (by omega), (by show 2 * _ ≤ _; omega), _, _, rfl, rfl, (by rw [show ((0 : Int) + (i : Int)).toNat = i by omega, y1]; show _ + 1 ≤ _; omega), rfl, _, rfl, ?_⟩
          rw [show ((0 : Int) + (i : Int)).toNat = i by omega, num_str]
          by_cases c : t = numT i
          · refine iteS (by rw [c]) ⟨_, rfl, ?_⟩
            refine ⟨.int i, some (.int i), ?_, rfl, .inl ⟨i, by omega, c, rfl⟩⟩
            rw [show (0 : Int) + (i : Int) = i by omega]
            rfl
          · refine iteNo (fun z => c (Tr.str_inj (V.str.inj z))) ?_
            refine ⟨wv, _, rfl, rfl, ?_⟩
            rcases hw with ⟨k, hk, e1, e2⟩ | ⟨h1, e2⟩
            · exact .inl ⟨k, by omega, e1, e2⟩
            · refine .inr ⟨fun k hk => ?_, e2⟩
              by_cases e : k = i
              · rw [e]
                exact c
              · exact h1 k (by omega)
        · rintro σ H' ⟨wv, kv, rfl, rfl, hw⟩
          have hv : valV t.str = wv := by
            rcases hw with ⟨k, hk, e1, e2⟩ | ⟨h1, e2⟩
            · rw [e1, e2, valV_num]
            · rw [e2]
              refine valV_no fun k e => ?_
              by_cases hk : k < 9
              · exact h1 k hk e
              · have := congrArg (fun t : Tr => t.sg.length) e
                simp only [numT_len] at this
                omega
          refine ⟨_, rfl, st, _, rfl, by decide, by decide, st6, fun m H7 hm ex7 st7 => ?_⟩
          refine ⟨_, rfl, _, rfl, st, _, rfl, by decide, by decide, st7, fun e1 H8 he1 ex8 st8 => ?_⟩
          refine ⟨st, e1, rfl, by omega, st8, fun u1 H9 hu1 ex9 st9 => ?_⟩
          have lu1 := u1.str_len
          have lu2 := u1.sg_len
          refine ⟨_, _, rfl, rfl, (by show 1 + u1.str.length ≤ _; omega), _, rfl, _, rfl, st, _, rfl, by decide, by decide, st9, fun e2 H10 he2 ex10 st10 => ?_⟩
          refine ⟨st, e2, rfl, by omega, st10, fun u2 H11 hu2 ex11 st11 => ?_⟩
          have lv1 := u2.str_len
          have lv2 := u2.sg_len
          have x1 : (Str.ofString "1" ++ u1.str).length = 1 + u1.str.length := by rw [Str.length_append]; rfl
          refine ⟨_, _, rfl, rfl, (by omega), ?_⟩
          have x2 : (Str.ofString "1" ++ u1.str ++ u2.str).length = 1 + u1.str.length + u2.str.length := by rw [Str.length_append, x1]
          have y1 := len10 m
          have x3 : (stS (repL m (Str.ofString "10").cps.toList) ++ Str.ofString "1").length = 2 * m + 1 := by rw [Str.length_append, y1]; rfl
          refine ⟨_, rfl, _, _, rfl, rfl, (by omega), (by omega), (by show 2 * _ ≤ _; omega), _, _, rfl, rfl, (by rw [show (m : Int).toNat = m by omega, y1]; show _ + 1 ≤ _; omega), _, rfl, _, _, rfl, rfl, (by rw [show (m : Int).toNat = m by omega, x3, x2]; omega), _, rfl, _, rfl, st, _, rfl, by decide, by decide, st11, fun e3 H12 he3 ex12 st12 => ?_⟩
          refine ⟨st, e3, rfl, by omega, st12, fun u3 H13 hu3 ex13 st13 => ?_⟩
          have lw1 := u3.str_len
          have lw2 := u3.sg_len
          refine ⟨_, _, rfl, rfl, (by rw [show (m : Int).toNat = m by omega, Str.length_append, x3, x2]; omega), ?_⟩
          rw [show (m : Int).toNat = m by omega, other_str]
          have lo : (numOn m (.node (.node u1 u2) u3)).str.length ≤ 1000 := by
            rw [← other_str, Str.length_append, Str.length_append, x3, x2]
            omega
          refine ⟨_, rfl, _, rfl, by omega, _, rfl, ?_⟩
          rw [hv]
          have sc : scal wv wv = true := by
            rcases hw with ⟨k, _, _, e⟩ | ⟨_, e⟩
            · rw [e]
              rfl
            · rw [e]
              rfl
          refine ⟨sc, _, rfl, iteS rfl ?_⟩
          refine ⟨_, rfl, _, rfl, by omega, ?_⟩
          rw [valV_no (fun k => numOn_ne m k u1 u2 u3)]
          refine ⟨rfl, _, rfl, iteS rfl ?_⟩
          refine ⟨_, rfl, _, _, rfl, rfl, (by omega), (by omega), (by show 2 * _ ≤ _; omega), _, _, rfl, rfl, (by rw [show (m : Int).toNat = m by omega, y1]; show _ + 1 ≤ _; omega), ?_⟩
          rw [show (m : Int).toNat = m by omega, num_str]
          have ln := (numT m).str_len
          have ln2 := numT_len m
          refine ⟨_, rfl, by omega, ?_⟩
          rw [valV_num]
          refine ⟨_, rfl, rfl, ?_⟩
          rw [decide_eq_true rfl]
          exact q _
end
theorem all_mk {l : PySem.W.OpenLaw} {w : World} {K : PySem.W.Frag} {h : Heap} {mg : Str → Option Value} {fa f0 f1 f2 f3 f4 f5 f6 f7 A_TooLarge : Addr} (X : K.In h) (G : h.Ns mainGlobals mg) (hfa : mg "law" = some (.ref fa))
    {od0 an0 od1 an1 od2 an2 od3 an3 od4 an4 od5 an5 od6 an6 od7 an7 : Option Addr} {sl0 sl1 sl2 sl3 sl4 sl5 sl6 sl7 : Array (Option Value)} {oc0 kV0 dc0 pm0 cd0 ct0 oc1 kV1 dc1 pm1 cd1 ct1 oc2 kV2 dc2 pm2 cd2 ct2 oc3 kV3 dc3 pm3 cd3 ct3 oc4 kV4 dc4 pm4 cd4 ct4 oc5 kV5 dc5 pm5 cd5 ct5 oc6 kV6 dc6 pm6 cd6 ct6 oc7 kV7 dc7 pm7 cd7 ct7 : Value} {tk_MOST_TREE tk_LEAF : Tok}
    (a0 : PySem.W.nsIn K mainGlobals "_law_stream" = some (some (.ref f0))) (l0 : K.lookup f0 = some ⟨oc0, od0, .func (PySem.W.fnOf "_law_stream" "_law_stream" (defArgs s_law_stream) (defBody s_law_stream) (defScope s_law_stream) .none kV0 dc0 pm0 an0 cd0 ct0), sl0⟩) (c0 : PySem.W.codeIn K cd0 "_law_stream" = true) (k0 : PySem.W.keepIn K (.ref f0) = true)
    (a1 : PySem.W.nsIn K mainGlobals "_law_draw" = some (some (.ref f1))) (l1 : K.lookup f1 = some ⟨oc1, od1, .func (PySem.W.fnOf "_law_draw" "_law_draw" (defArgs s_law_draw) (defBody s_law_draw) (defScope s_law_draw) .none kV1 dc1 pm1 an1 cd1 ct1), sl1⟩) (c1 : PySem.W.codeIn K cd1 "_law_draw" = true) (k1 : PySem.W.keepIn K (.ref f1) = true)
    (a2 : PySem.W.nsIn K mainGlobals "_law_tree" = some (some (.ref f2))) (l2 : K.lookup f2 = some ⟨oc2, od2, .func (PySem.W.fnOf "_law_tree" "_law_tree" (defArgs s_law_tree) (defBody s_law_tree) (defScope s_law_tree) .none kV2 dc2 pm2 an2 cd2 ct2), sl2⟩) (c2 : PySem.W.codeIn K cd2 "_law_tree" = true) (k2 : PySem.W.keepIn K (.ref f2) = true)
    (a3 : PySem.W.nsIn K mainGlobals "_law_given" = some (some (.ref f3))) (l3 : K.lookup f3 = some ⟨oc3, od3, .func (PySem.W.fnOf "_law_given" "_law_given" (defArgs s_law_given) (defBody s_law_given) (defScope s_law_given) .none kV3 dc3 pm3 an3 cd3 ct3), sl3⟩) (c3 : PySem.W.codeIn K cd3 "_law_given" = true) (k3 : PySem.W.keepIn K (.ref f3) = true)
    (a4 : PySem.W.nsIn K mainGlobals "number" = some (some (.ref f4))) (l4 : K.lookup f4 = some ⟨oc4, od4, .func (PySem.W.fnOf "number" "number" (defArgs s_number) (defBody s_number) (defScope s_number) .none kV4 dc4 pm4 an4 cd4 ct4), sl4⟩) (c4 : PySem.W.codeIn K cd4 "number" = true) (k4 : PySem.W.keepIn K (.ref f4) = true)
    (a5 : PySem.W.nsIn K mainGlobals "_law_told" = some (some (.ref f5))) (l5 : K.lookup f5 = some ⟨oc5, od5, .func (PySem.W.fnOf "_law_told" "_law_told" (defArgs s_law_told) (defBody s_law_told) (defScope s_law_told) .none kV5 dc5 pm5 an5 cd5 ct5), sl5⟩) (c5 : PySem.W.codeIn K cd5 "_law_told" = true) (k5 : PySem.W.keepIn K (.ref f5) = true)
    (a6 : PySem.W.nsIn K mainGlobals "value_of" = some (some (.ref f6))) (l6 : K.lookup f6 = some ⟨oc6, od6, .func (PySem.W.fnOf "value_of" "value_of" (defArgs s_value_of) (defBody s_value_of) (defScope s_value_of) .none kV6 dc6 pm6 an6 cd6 ct6), sl6⟩) (c6 : PySem.W.codeIn K cd6 "value_of" = true) (k6 : PySem.W.keepIn K (.ref f6) = true)
    (a7 : PySem.W.nsIn K mainGlobals "law" = some (some (.ref f7))) (l7 : K.lookup f7 = some ⟨oc7, od7, .func (PySem.W.fnOf "law" "law" (defArgs s_law) (defBody s_law) (defScope s_law) .none kV7 dc7 pm7 an7 cd7 ct7), sl7⟩) (c7 : PySem.W.codeIn K cd7 "law" = true) (k7 : PySem.W.keepIn K (.ref f7) = true)
    (z_list : PySem.W.nsIn K mainGlobals "list" = some none)
    (z_int : PySem.W.nsIn K mainGlobals "int" = some none)
    (z_abs : PySem.W.nsIn K mainGlobals "abs" = some none)
    (z_len : PySem.W.nsIn K mainGlobals "len" = some none)
    (z_isinstance : PySem.W.nsIn K mainGlobals "isinstance" = some none)
    (z_tuple : PySem.W.nsIn K mainGlobals "tuple" = some none)
    (z_range : PySem.W.nsIn K mainGlobals "range" = some none)
    (z_bool : PySem.W.nsIn K mainGlobals "bool" = some none)
    (z_MOST_TREE : PySem.W.nsIn K mainGlobals "MOST_TREE" = some (some (.int 200000 tk_MOST_TREE)))
    (z_LEAF : PySem.W.nsIn K mainGlobals "LEAF" = some (some (.str "0" tk_LEAF)))
    (y_TooLarge : PySem.W.nsIn K mainGlobals "TooLarge" = some (some (.ref A_TooLarge)))
    (y_TooLarge_x : PySem.W.excIn K A_TooLarge [.type "ValueError", .type "Exception", .type "BaseException", .type "object"] "ValueError.__new__" = true)
    (y_TooLarge_k : PySem.W.keepIn K (.ref A_TooLarge) = true)
    (y_TooLarge_b : PySem.W.subIn K (.ref A_TooLarge) (.type "BaseException") = some true)
    (y_TooLarge_t : PySem.W.typeIn K (.ref A_TooLarge) = some (.type "type"))
    (y_TooLarge_ga : PySem.W.findIn K (.ref A_TooLarge) "__getattribute__" = some (some (.builtin "BaseException.__getattribute__")))
    (y_TooLarge_gt : PySem.W.findIn K (.ref A_TooLarge) "__getattr__" = some none)
    (y_TooLarge_hd : PySem.W.hasDictIn K A_TooLarge = true)
    (y_TooLarge_ca : PySem.W.findIn K (.ref A_TooLarge) "__class__" = some (some (.builtin "object.__class__")))
    (y_TooLarge_sg : PySem.W.specialIn K (.builtin "object.__class__") "__get__" = some (some (.builtin "getset_descriptor.__get__")))
    (y_TooLarge_ta : PySem.W.takesIn K (.builtin "object.__class__") = some true)
    (y_TooLarge_mr : PySem.W.mroIn K A_TooLarge (.type "object") = some true)
    (y_TooLarge_k_TooLarge : PySem.W.kitOne K (.ref A_TooLarge) (.ref A_TooLarge) = some true) (y_TooLarge_s_TooLarge : PySem.W.subIn K (.ref A_TooLarge) (.ref A_TooLarge) = some true)
    : ∃ fd : FuncData, (∀ (s : Shared) (v : Value), BindsTo s fd ⟨[v], []⟩ [("script", v)]) ∧ ∀ base : Heap, K.In base → base.Ns mainGlobals mg → FnOk l.prog w K mg base CX0 3 fa fd ["script"] (sp_law K (fun _ => 0)) := by
  have e := hfa.symm.trans (PySem.W.mg_of X G a7)
  cases e
  let cl : Cn → Addr := fun n => match n with | .NarcissusError => 0 | .TooLarge => A_TooLarge | .BadText => 0 | .NoCode => 0 | .Ended => 0 | .OutOfSteps => 0 | .TooWide => 0 | .BadClaim => 0 | .Machine => 0
  have T : Txt K mg cl := ⟨PySem.W.mg_none_of X G z_list, PySem.W.mg_none_of X G z_int, PySem.W.mg_none_of X G z_abs, PySem.W.mg_none_of X G z_len, PySem.W.mg_none_of X G z_isinstance, PySem.W.mg_none_of X G z_tuple, PySem.W.mg_none_of X G z_range, PySem.W.mg_none_of X G z_bool, ⟨_, PySem.W.mg_of X G z_MOST_TREE⟩, ⟨_, PySem.W.mg_of X G z_LEAF⟩, ⟨PySem.W.mg_of X G y_TooLarge, ⟨y_TooLarge_x, y_TooLarge_k, y_TooLarge_b, y_TooLarge_t, ⟨y_TooLarge_ga, y_TooLarge_gt, y_TooLarge_b, y_TooLarge_hd, y_TooLarge_ca, y_TooLarge_sg, y_TooLarge_ta, y_TooLarge_mr⟩⟩⟩, ⟨y_TooLarge_k_TooLarge, y_TooLarge_s_TooLarge⟩⟩
  refine ⟨PySem.W.fnOf "law" "law" (defArgs s_law) (defBody s_law) (defScope s_law) .none kV7 dc7 pm7 an7 cd7 ct7, fun s v => .of_eq rfl, fun base _ _ => ?_⟩
  have F0 := fun_mk (st := s_law_stream) l0 c0 k0
  have B0 := F0.binds (ps := ["script"]) fun _ _ _ _ _ _ us hl => match us, hl with | [_], _ => rfl
  have H_law_stream : Has l.prog w K mg base CX0 1 "_law_stream" ["script"] (sp_law_stream K cl) := ⟨⟨_, _, ok_law_stream T F0, PySem.W.mg_of X G a0, F0.kp, B0⟩⟩
  have F1 := fun_mk (st := s_law_draw) l1 c1 k1
  have B1 := F1.binds (ps := ["stream", "many"]) fun _ _ _ _ _ _ us hl => match us, hl with | [_, _], _ => rfl
  have H_law_draw : Has l.prog w K mg base CX0 1 "_law_draw" ["stream", "many"] (sp_law_draw K cl) := ⟨⟨_, _, ok_law_draw T F1, PySem.W.mg_of X G a1, F1.kp, B1⟩⟩
  have F2 := fun_mk (st := s_law_tree) l2 c2 k2
  have B2 := F2.binds (ps := ["stream", "pairs"]) fun _ _ _ _ _ _ us hl => match us, hl with | [_, _], _ => rfl
  have H_law_tree : Has l.prog w K mg base CX0 2 "_law_tree" ["stream", "pairs"] (sp_law_tree K cl) := ⟨⟨_, _, ok_law_tree T H_law_draw F2, PySem.W.mg_of X G a2, F2.kp, B2⟩⟩
  have F3 := fun_mk (st := s_law_given) l3 c3 k3
  have B3 := F3.binds (ps := ["told"]) fun _ _ _ _ _ _ us hl => match us, hl with | [_], _ => rfl
  have H_law_given : Has l.prog w K mg base CX0 1 "_law_given" ["told"] (sp_law_given K cl) := ⟨⟨_, _, ok_law_given T F3, PySem.W.mg_of X G a3, F3.kp, B3⟩⟩
  have F4 := fun_mk (st := s_number) l4 c4 k4
  have B4 := F4.binds (ps := ["value"]) fun _ _ _ _ _ _ us hl => match us, hl with | [_], _ => rfl
  have H_number : Has l.prog w K mg base (L2.CX l.prog w) 1 "number" ["value"] (sp_number K cl) := ⟨⟨_, _, ok_number T F4, PySem.W.mg_of X G a4, F4.kp, B4⟩⟩
  have F5 := fun_mk (st := s_law_told) l5 c5 k5
  have B5 := F5.binds (ps := ["value"]) fun _ _ _ _ _ _ us hl => match us, hl with | [_], _ => rfl
  have H_law_told : Has l.prog w K mg base CX0 2 "_law_told" ["value"] (sp_law_told K cl) := ⟨⟨_, _, ok_law_told T H_law_given H_number F5, PySem.W.mg_of X G a5, F5.kp, B5⟩⟩
  have F6 := fun_mk (st := s_value_of) l6 c6 k6
  have B6 := F6.binds (ps := ["tree"]) fun _ _ _ _ _ _ us hl => match us, hl with | [_], _ => rfl
  have H_value_of : Has l.prog w K mg base CX0 1 "value_of" ["tree"] (sp_value_of K cl) := ⟨⟨_, _, ok_value_of T F6, PySem.W.mg_of X G a6, F6.kp, B6⟩⟩
  have F7 := fun_mk (st := s_law) l7 c7 k7
  exact ok_law T H_law_stream H_law_draw H_law_tree H_law_told H_value_of F7
end Nx
open PySem PySem.W PyProof.Rows
set_option maxRecDepth 100000 in
set_option maxHeartbeats 0 in
theorem PySem.Challenge.cw_narcissus_k03_numbers_holds : PySem.Challenge.rw_narcissus_k03_numbers.Holds := by
  w_on; o_law; k_head; (case hw => w_witness2)
  k_fill
  refine L2.walk_of (l := PySem.Challenge.rw_narcissus_k03_numbers) (n := 63) (k := 3) (x := "script") (CX := fun _ => L2.CX0) (sp := fun w => Nx.sp_law _ (fun _ => 0)) rfl (by decide) rfl ⟨rfl, by decide, by decide⟩ (fun w h Y => PySem.W.kIn_of Y) ?F (fun _ _ a ns hl _ hS => ⟨a, ns, rfl, hS, hl, fun _ => rfl⟩) (fun _ _ _ _ _ h => h)
  case F =>
    intro w mg fa h KX G hmg
    refine' Nx.all_mk KX G hmg ?a0 ?l0 ?c0 ?k0 ?a1 ?l1 ?c1 ?k1 ?a2 ?l2 ?c2 ?k2 ?a3 ?l3 ?c3 ?k3 ?a4 ?l4 ?c4 ?k4 ?a5 ?l5 ?c5 ?k5 ?a6 ?l6 ?c6 ?k6 ?a7 ?l7 ?c7 ?k7 ?z_list ?z_int ?z_abs ?z_len ?z_isinstance ?z_tuple ?z_range ?z_bool ?z_MOST_TREE ?z_LEAF ?y_TooLarge ?y_TooLarge_x ?y_TooLarge_k ?y_TooLarge_b ?y_TooLarge_t ?y_TooLarge_ga ?y_TooLarge_gt ?y_TooLarge_hd ?y_TooLarge_ca ?y_TooLarge_sg ?y_TooLarge_ta ?y_TooLarge_mr ?y_TooLarge_k_TooLarge ?y_TooLarge_s_TooLarge
    (case a0 => first | rfl | k_is)
    (case l0 => first | rfl | k_is)
    (case c0 => first | rfl | k_is)
    (case k0 => first | rfl | k_is)
    (case a1 => first | rfl | k_is)
    (case l1 => first | rfl | k_is)
    (case c1 => first | rfl | k_is)
    (case k1 => first | rfl | k_is)
    (case a2 => first | rfl | k_is)
    (case l2 => first | rfl | k_is)
    (case c2 => first | rfl | k_is)
    (case k2 => first | rfl | k_is)
    (case a3 => first | rfl | k_is)
    (case l3 => first | rfl | k_is)
    (case c3 => first | rfl | k_is)
    (case k3 => first | rfl | k_is)
    (case a4 => first | rfl | k_is)
    (case l4 => first | rfl | k_is)
    (case c4 => first | rfl | k_is)
    (case k4 => first | rfl | k_is)
    (case a5 => first | rfl | k_is)
    (case l5 => first | rfl | k_is)
    (case c5 => first | rfl | k_is)
    (case k5 => first | rfl | k_is)
    (case a6 => first | rfl | k_is)
    (case l6 => first | rfl | k_is)
    (case c6 => first | rfl | k_is)
    (case k6 => first | rfl | k_is)
    (case a7 => first | rfl | k_is)
    (case l7 => first | rfl | k_is)
    (case c7 => first | rfl | k_is)
    (case k7 => first | rfl | k_is)
    (case z_list => first | rfl | k_is)
    (case z_int => first | rfl | k_is)
    (case z_abs => first | rfl | k_is)
    (case z_len => first | rfl | k_is)
    (case z_isinstance => first | rfl | k_is)
    (case z_tuple => first | rfl | k_is)
    (case z_range => first | rfl | k_is)
    (case z_bool => first | rfl | k_is)
    (case z_MOST_TREE => first | rfl | k_is)
    (case z_LEAF => first | rfl | k_is)
    (case y_TooLarge => first | rfl | k_is)
    (case y_TooLarge_x => k_exc)
    (case y_TooLarge_k => first | rfl | k_is)
    (case y_TooLarge_b => first | rfl | k_is)
    (case y_TooLarge_t => first | rfl | k_is)
    (case y_TooLarge_ga => first | rfl | k_is)
    (case y_TooLarge_gt => first | rfl | k_is)
    (case y_TooLarge_hd => first | rfl | k_is)
    (case y_TooLarge_ca => first | rfl | k_is)
    (case y_TooLarge_sg => first | rfl | k_is)
    (case y_TooLarge_ta => first | rfl | k_is)
    (case y_TooLarge_mr => first | rfl | k_is)
    (case y_TooLarge_k_TooLarge => first | rfl | k_is)
    (case y_TooLarge_s_TooLarge => first | rfl | k_is)
