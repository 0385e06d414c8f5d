import PyProof.Rows.All
import Wide.All
import OpenK.AllK
import Wide.FinOn
import HandS.ForMost
import HandS.StrMore
import HandS.IsInst
import HandS.TupLe
import HandS.Evl
import HandS.Zip
import HandS.More
import HandS.Strs
import KE.GoesMore
import KE.GoesZip
import KE.GoesEnum
import HandS.Text
import HandS.ExcIs
import HandS.TryOnly
import HandS.ExcOwn
import HandS.WordsExc
import HandS.TupAny
import HandS.Deep
import HandS.Exc
import HandS.Walk
import KE.KIndexOf
import HandS.TupMul
import HandS.Rev
import HandS.TryMany
import PyProof.FactsAll.subtypes_3
import PyProof.FactsAll.str_2
import KE.DataMinMax
import PyProof.Rows.CallKwBuiltin
import HandS.Star
import HandS.Dict
import HandS.Words
import HandS.Flt
import KE.KDictKeyed
import KE.KeyNested
import PySem.Challenge.RW_narcissus_k40_too_wide_everywhere
set_option Elab.async false
set_option linter.all false
set_option maxRecDepth 100000
set_option maxHeartbeats 4000000
/-! Trees as signs. -/
namespace Nx
open PySem
inductive Tr where
  | leaf
  | node (l r : Tr)
  deriving DecidableEq
def Tr.sg : Tr → List Nat
  | .leaf => [48]
  | .node l r => 49 :: (l.sg ++ r.sg)
def Tr.pairs : Tr → Nat
  | .leaf => 0
  | .node l r => l.pairs + r.pairs + 1
def Tr.hd : Tr → Tr
  | .leaf => .leaf
  | .node l _ => l
def Tr.tl : Tr → Tr
  | .leaf => .leaf
  | .node _ r => r
def stS (l : List Nat) : Str := ⟨l.toArray⟩
def Tr.str (t : Tr) : Str := stS t.sg
theorem stS_list (l : List Nat) : (stS l).cps.toList = l := rfl
theorem stS_len (l : List Nat) : (stS l).length = l.length := by
  show l.toArray.size = l.length
  simp
theorem stS_of (x : Str) : stS x.cps.toList = x := by
  cases x
  rfl
theorem stS_inj {a b : List Nat} (h : stS a = stS b) : a = b := by
  have := congrArg (fun x : Str => x.cps.toList) h
  exact this
theorem stS_app (a b : List Nat) : stS a ++ stS b = stS (a ++ b) := by
  show (⟨a.toArray ++ b.toArray⟩ : Str) = ⟨(a ++ b).toArray⟩
  simp
theorem Tr.sg_len (t : Tr) : t.sg.length = 2 * t.pairs + 1 := by
  induction t with
  | leaf => rfl
  | node l r h1 h2 =>
    show (l.sg ++ r.sg).length + 1 = 2 * (l.pairs + r.pairs + 1) + 1
    rw [List.length_append, h1, h2]
    omega
def all01 (l : List Nat) : Prop := ∀ c ∈ l, c = 48 ∨ c = 49
theorem all01_append {a b : List Nat} : all01 (a ++ b) ↔ all01 a ∧ all01 b := by
  unfold all01
  constructor
  · intro h
    exact ⟨fun c hc => h c (List.mem_append.mpr (.inl hc)), fun c hc => h c (List.mem_append.mpr (.inr hc))⟩
  · rintro ⟨h1, h2⟩ c hc
    rcases List.mem_append.mp hc with h | h
    · exact h1 c h
    · exact h2 c h
theorem Tr.sg_01 (t : Tr) : all01 t.sg := by
  induction t with
  | leaf =>
    intro c hc
    simp [Tr.sg] at hc
    exact .inl hc
  | node l r h1 h2 =>
    intro c hc
    rcases List.mem_cons.mp hc with h | h
    · exact .inr h
    · exact (all01_append.mpr ⟨h1, h2⟩) c h
/-- how many signs the first w trees of a row take; beyond it one for each tree that lacks -/
def fin : Nat → List Nat → Nat
  | 0, _ => 0
  | w + 1, [] => w + 1
  | w + 1, c :: r => 1 + fin (if c = 49 then w + 2 else w) r
theorem fin_zero (l : List Nat) : fin 0 l = 0 := by
  cases l <;> rfl
theorem fin_nil (w : Nat) : fin w [] = w := by
  cases w <;> rfl
theorem fin_app : ∀ (a b : List Nat) (w : Nat), a.length ≤ w → fin w (a ++ b) = a.length + fin (w - a.length + 2 * a.count 49) b
  | [], b, w, _ => by simp
  | c :: a, b, 0, h => by simp at h
  | c :: a, b, w + 1, h => by
    have h1 : a.length ≤ w := by simpa using h
    show 1 + fin (if c = 49 then w + 2 else w) (a ++ b) = _
    by_cases e : c = 49
    · subst e
      rw [if_pos rfl, fin_app a b (w + 2) (by omega), List.count_cons_self, List.length_cons]
      rw [show w + 2 - a.length + 2 * a.count 49 = w + 1 - (a.length + 1) + 2 * (a.count 49 + 1) by omega]
      omega
    · rw [if_neg e, fin_app a b w h1, List.count_cons_of_ne (fun q => e q), List.length_cons]
      rw [show w - a.length + 2 * a.count 49 = w + 1 - (a.length + 1) + 2 * a.count 49 by omega]
      omega
theorem fin_short {a : List Nat} {w : Nat} (h : a.length ≤ w) : fin w a = w + 2 * a.count 49 := by
  have e := fin_app a [] w h
  rw [List.append_nil, fin_nil] at e
  omega
theorem fin_tree : ∀ (t : Tr) (r : List Nat) (w : Nat), fin (w + 1) (t.sg ++ r) = t.sg.length + fin w r
  | .leaf, r, w => by
    show 1 + fin (if 48 = 49 then w + 2 else w) r = 1 + fin w r
    rfl
  | .node a b, r, w => by
    show 1 + fin (if 49 = 49 then w + 2 else w) ((a.sg ++ b.sg) ++ r) = ((a.sg ++ b.sg).length + 1) + fin w r
    rw [if_pos rfl, List.append_assoc, fin_tree a _ (w + 1), fin_tree b r w, List.length_append]
    omega
theorem fin_one (t : Tr) (r : List Nat) : fin 1 (t.sg ++ r) = t.sg.length := by
  rw [fin_tree t r 0, fin_zero, Nat.add_zero]
theorem fin_pos {w : Nat} (h : 0 < w) : ∀ l : List Nat, 0 < fin w l := fun l => by
  cases w with
  | zero => omega
  | succ w =>
    cases l with
    | nil =>
      rw [fin_nil]
      omega
    | cons c r =>
      show 0 < 1 + _
      omega
theorem parse_of : ∀ (n : Nat) (l : List Nat) (w : Nat), l.length ≤ n → all01 l → fin (w + 1) l ≤ l.length → ∃ (t : Tr) (r : List Nat), l = t.sg ++ r
  | n, [], w, _, _, h => by
    rw [fin_nil] at h
    simp at h
  | 0, c :: l, w, hn, _, _ => by simp at hn
  | n + 1, c :: l, w, hn, ha, h => by
    have hl : l.length ≤ n := by simpa using hn
    have ha' : all01 l := fun d hd => ha d (List.mem_cons_of_mem _ hd)
    rcases ha c (List.mem_cons_self ..) with e | e
    · subst e
      exact ⟨.leaf, l, rfl⟩
    · subst e
      have h' : 1 + fin (w + 1 + 1) l ≤ l.length + 1 := h
      obtain ⟨t1, r1, e1⟩ := parse_of n l (w + 1) hl ha' (by omega)
      rw [e1, fin_tree t1 r1 (w + 1)] at h'
      have z : l.length = t1.sg.length + r1.length := by rw [e1, List.length_append]
      have h2 : fin (w + 1) r1 ≤ r1.length := by
        rw [List.length_append] at h'
        omega
      have h3 : all01 r1 := (all01_append.mp (e1 ▸ ha')).2
      obtain ⟨t2, r2, e2⟩ := parse_of n r1 w (by omega) h3 h2
      refine ⟨.node t1 t2, r2, ?_⟩
      show 49 :: l = 49 :: ((t1.sg ++ t2.sg) ++ r2)
      rw [e1, e2, List.append_assoc]
theorem isT_iff (l : List Nat) : (all01 l ∧ fin 1 l = l.length) ↔ ∃ t : Tr, l = t.sg := by
  constructor
  · rintro ⟨ha, h⟩
    obtain ⟨t, r, e⟩ := parse_of l.length l 0 (Nat.le_refl _) ha (by show fin 1 l ≤ l.length; omega)
    have e2 : fin 1 l = t.sg.length := by rw [e, fin_one]
    have e3 : l.length = t.sg.length + r.length := by rw [e, List.length_append]
    have e4 : r = [] := List.length_eq_zero_iff.mp (by omega)
    exact ⟨t, by rw [e, e4, List.append_nil]⟩
  · rintro ⟨t, rfl⟩
    refine ⟨t.sg_01, ?_⟩
    have := fin_one t []
    rw [List.append_nil] at this
    exact this
theorem Tr.count_1 (t : Tr) : t.sg.count 49 = t.pairs := by
  induction t with
  | leaf => rfl
  | node l r h1 h2 =>
    show (49 :: (l.sg ++ r.sg)).count 49 = l.pairs + r.pairs + 1
    rw [List.count_cons_self, List.count_append, h1, h2]
/-- l is a beginning of a tree in which m trees are still wanted -/
def Opn (l : List Nat) (m : Nat) : Prop := all01 l ∧ (∀ r, fin 1 (l ++ r) = l.length + fin m r) ∧ l.length + m = 2 * l.count 49 + 1
theorem Opn.nil : Opn [] 1 := ⟨fun _ h => (by cases h), fun r => (by show fin 1 r = 0 + fin 1 r; omega), rfl⟩
theorem Opn.one {l : List Nat} {m : Nat} (h : Opn l (m + 1)) : Opn (l ++ [49]) (m + 2) := by
  obtain ⟨h1, h2, h3⟩ := h
  refine ⟨all01_append.mpr ⟨h1, fun c hc => by simp at hc; exact .inr hc⟩, fun r => ?_, ?_⟩
  · rw [List.append_assoc, h2, List.length_append]
    show l.length + (1 + fin (if 49 = 49 then m + 2 else m) r) = l.length + 1 + fin (m + 2) r
    rw [if_pos rfl]
    omega
  · rw [List.length_append, List.count_append]
    show l.length + 1 + (m + 2) = 2 * (l.count 49 + 1) + 1
    omega
theorem Opn.zero {l : List Nat} {m : Nat} (h : Opn l (m + 1)) : Opn (l ++ [48]) m := by
  obtain ⟨h1, h2, h3⟩ := h
  refine ⟨all01_append.mpr ⟨h1, fun c hc => by simp at hc; exact .inl hc⟩, fun r => ?_, ?_⟩
  · rw [List.append_assoc, h2, List.length_append]
    show l.length + (1 + fin (if 48 = 49 then m + 2 else m) r) = l.length + 1 + fin m r
    rw [if_neg (by decide)]
    omega
  · rw [List.length_append, List.count_append]
    show l.length + 1 + m = 2 * (l.count 49 + 0) + 1
    omega
theorem Opn.done {l : List Nat} (h : Opn l 0) : ∃ t : Tr, l = t.sg := by
  obtain ⟨h1, h2, h3⟩ := h
  refine (isT_iff l).mp ⟨h1, ?_⟩
  have := h2 []
  rw [List.append_nil, fin_zero] at this
  exact this
def repL (n : Nat) (l : List Nat) : List Nat := (List.replicate n l).flatten
theorem repL_len (n : Nat) (l : List Nat) : (repL n l).length = n * l.length := by
  unfold repL
  induction n with
  | zero => simp
  | succ n ih =>
    rw [List.replicate_succ, List.flatten_cons, List.length_append, ih, Nat.succ_mul]
    omega
theorem leaf_or {t : Tr} : (t = .leaf ∧ t.hd = .leaf ∧ t.tl = .leaf) ∨ ∃ a b, t = .node a b := by
  cases t with
  | leaf => exact .inl ⟨rfl, rfl, rfl⟩
  | node a b => exact .inr ⟨a, b, rfl⟩
theorem node_hd (a b : Tr) : ((Tr.node a b).sg.drop 1).take (1 + fin 1 ((Tr.node a b).sg.drop 1) - 1) = a.sg := by
  show (a.sg ++ b.sg).take (1 + fin 1 (a.sg ++ b.sg) - 1) = a.sg
  rw [fin_one, Nat.add_sub_cancel_left, List.take_left']
  rfl
theorem node_tl (a b : Tr) : (Tr.node a b).sg.drop (1 + fin 1 ((Tr.node a b).sg.drop 1)) = b.sg := by
  show (49 :: (a.sg ++ b.sg)).drop (1 + fin 1 (a.sg ++ b.sg)) = b.sg
  rw [fin_one, Nat.add_comm, List.drop_succ_cons, List.drop_left']
  rfl
theorem node_fin (a b : Tr) : fin 1 ((Tr.node a b).sg.drop 1) ≤ ((Tr.node a b).sg.drop 1).length := by
  show fin 1 (a.sg ++ b.sg) ≤ (a.sg ++ b.sg).length
  rw [fin_one, List.length_append]
  omega
theorem node_ne (a b : Tr) : (Tr.node a b).str ≠ stS [48] := fun h => by
  have := (List.cons.inj (stS_inj h)).1
  omega
/-- the number n as a tree -/
def numT : Nat → Tr
  | 0 => .leaf
  | n + 1 => .node .leaf (numT n)
theorem numT_sg (n : Nat) : (numT n).sg = repL n [49, 48] ++ [48] := by
  induction n with
  | zero => rfl
  | succ n ih =>
    show 49 :: ([48] ++ (numT n).sg) = _
    unfold repL at ih ⊢
    rw [ih, List.replicate_succ, List.flatten_cons]
    rfl
theorem numT_len (n : Nat) : (numT n).sg.length = 2 * n + 1 := by
  rw [numT_sg, List.length_append, repL_len]
  show n * 2 + 1 = 2 * n + 1
  omega
/-- n pairs with the leaf as their heads, and t behind them -/
def numOn : Nat → Tr → Tr
  | 0, t => t
  | n + 1, t => .node .leaf (numOn n t)
theorem numOn_sg (n : Nat) (t : Tr) : (numOn n t).sg = repL n [49, 48] ++ t.sg := by
  induction n with
  | zero => rfl
  | succ n ih =>
    show 49 :: ([48] ++ (numOn n t).sg) = _
    unfold repL at ih ⊢
    rw [ih, List.replicate_succ, List.flatten_cons]
    rfl
theorem numOn_ne : ∀ (n k : Nat) (a b c : Tr), numOn n (.node (.node a b) c) ≠ numT k
  | 0, 0, _, _, _, h => by cases h
  | 0, k + 1, a, b, c, h => by
    have := (Tr.node.inj h).1
    cases this
  | n + 1, 0, _, _, _, h => by cases h
  | n + 1, k + 1, a, b, c, h => numOn_ne n k a b c (Tr.node.inj h).2
theorem numT_inj {a b : Nat} (h : numT a = numT b) : a = b := by
  have := congrArg (fun t : Tr => t.sg.length) h
  simp only [numT_len] at this
  omega
/-- the list of some trees -/
def lstT : List Tr → Tr
  | [] => .leaf
  | t :: r => .node t (lstT r)
def Tr.items : Tr → List Tr
  | .leaf => []
  | .node a b => a :: b.items
theorem items_lstT (ts : List Tr) : (lstT ts).items = ts := by
  induction ts with
  | nil => rfl
  | cons t r ih =>
    show t :: (lstT r).items = t :: r
    rw [ih]
theorem lstT_items (t : Tr) : lstT t.items = t := by
  induction t with
  | leaf => rfl
  | node a b _ ih =>
    show Tr.node a (lstT b.items) = .node a b
    rw [ih]
theorem lstT_sg (ts : List Tr) : (lstT ts).sg = (ts.map fun t => 49 :: t.sg).flatten ++ [48] := by
  induction ts with
  | nil => rfl
  | cons t r ih =>
    show 49 :: (t.sg ++ (lstT r).sg) = _
    rw [ih, List.map_cons, List.flatten_cons, List.append_assoc]
    rfl
theorem lstT_len (ts : List Tr) : (lstT ts).sg.length = ts.length + (ts.map fun t => t.sg.length).sum + 1 := by
  induction ts with
  | nil => rfl
  | cons t r ih =>
    show (t.sg ++ (lstT r).sg).length + 1 = _
    rw [List.length_append, ih, List.map_cons, List.sum_cons, List.length_cons]
    omega
theorem items_le (t : Tr) : t.items.length ≤ t.pairs := by
  induction t with
  | leaf => exact Nat.le_refl _
  | node a b _ ih =>
    show b.items.length + 1 ≤ a.pairs + b.pairs + 1
    omega
/-- nested in the heads -/
def chT : Nat → Tr
  | 0 => .leaf
  | n + 1 => .node (chT n) .leaf
theorem chT_sg (n : Nat) : (chT n).sg = List.replicate n 49 ++ List.replicate (n + 1) 48 := by
  induction n with
  | zero => rfl
  | succ n ih =>
    show 49 :: ((chT n).sg ++ [48]) = _
    rw [ih, List.replicate_succ, List.append_assoc, List.replicate_succ' (n := n + 1)]
    rfl
theorem repL_one (n c : Nat) : repL n [c] = List.replicate n c := by
  unfold repL
  induction n with
  | zero => rfl
  | succ n ih =>
    rw [List.replicate_succ, List.flatten_cons, ih, List.replicate_succ]
    rfl
/-- reading sign by sign: how many trees are wanted behind l, none where it can't go on -/
def scan : Nat → List Nat → Option Nat
  | m, [] => some m
  | m, c :: r => if m = 0 ∨ ¬ (c = 48 ∨ c = 49) then none else scan (if c = 48 then m - 1 else m + 1) r
theorem scan_iff : ∀ (l : List Nat) (m : Nat), scan m l = some 0 ↔ (all01 l ∧ fin m l = l.length)
  | [], m => by
    show some m = some 0 ↔ _
    rw [fin_nil]
    constructor
    · intro h
      exact ⟨fun c hc => (by cases hc), Option.some.inj h⟩
    · intro h
      rw [h.2]
      rfl
  | c :: r, m => by
    show (if m = 0 ∨ ¬ (c = 48 ∨ c = 49) then none else scan (if c = 48 then m - 1 else m + 1) r) = some 0 ↔ _
    by_cases hm : m = 0
    · rw [if_pos (.inl hm), hm, fin_zero]
      constructor
      · intro h
        cases h
      · intro h
        have := h.2
        simp at this
    · by_cases hc : c = 48 ∨ c = 49
      · rw [if_neg (by rintro (h | h); exact hm h; exact h hc), scan_iff r]
        obtain ⟨k, rfl⟩ : ∃ k, m = k + 1 := ⟨m - 1, by omega⟩
        have ha : all01 (c :: r) ↔ all01 r := by
          constructor
          · intro h d hd
            exact h d (List.mem_cons_of_mem _ hd)
          · intro h d hd
            rcases List.mem_cons.mp hd with e | e
            · rw [e]
              exact hc
            · exact h d e
        rw [ha]
        show _ ↔ all01 r ∧ 1 + fin (if c = 49 then k + 2 else k) r = r.length + 1
        rcases hc with e | e
        · subst e
          rw [if_pos rfl, if_neg (by decide), Nat.add_sub_cancel]
          constructor
          · intro h
            exact ⟨h.1, by omega⟩
          · intro h
            exact ⟨h.1, by omega⟩
        · subst e
          rw [if_neg (by decide), if_pos rfl]
          constructor
          · intro h
            exact ⟨h.1, by have := h.2; show 1 + fin (k + 1 + 1) r = r.length + 1; omega⟩
          · intro h
            exact ⟨h.1, by have : 1 + fin (k + 1 + 1) r = r.length + 1 := h.2; omega⟩
      · rw [if_pos (.inr hc)]
        constructor
        · intro h
          cases h
        · intro h
          exact absurd (h.1 c (List.mem_cons_self ..)) hc
theorem count_01 : ∀ l : List Nat, l.count 48 + l.count 49 = l.length ↔ all01 l
  | [] => by
    constructor
    · intro _ c hc
      cases hc
    · intro _
      rfl
  | c :: r => by
    have ih := count_01 r
    have h1 : r.count 48 + r.count 49 ≤ r.length := count_le r
    by_cases e : c = 48
    · subst e
      rw [List.count_cons_self, List.count_cons_of_ne (by decide), List.length_cons]
      constructor
      · intro h d hd
        rcases List.mem_cons.mp hd with z | z
        · exact .inl z
        · exact ih.mp (by omega) d z
      · intro h
        have := ih.mpr fun d hd => h d (List.mem_cons_of_mem _ hd)
        omega
    · by_cases e2 : c = 49
      · subst e2
        rw [List.count_cons_self, List.count_cons_of_ne (by decide), List.length_cons]
        constructor
        · intro h d hd
          rcases List.mem_cons.mp hd with z | z
          · exact .inr z
          · exact ih.mp (by omega) d z
        · intro h
          have := ih.mpr fun d hd => h d (List.mem_cons_of_mem _ hd)
          omega
      · rw [List.count_cons_of_ne (fun z => e z), List.count_cons_of_ne (fun z => e2 z), List.length_cons]
        constructor
        · intro h
          omega
        · intro h
          rcases h c (List.mem_cons_self ..) with z | z
          · exact absurd z e
          · exact absurd z e2
where
  count_le : ∀ r : List Nat, r.count 48 + r.count 49 ≤ r.length
    | [] => Nat.le_refl _
    | c :: r => by
      have := count_le r
      by_cases e : c = 48
      · subst e
        rw [List.count_cons_self, List.count_cons_of_ne (by decide), List.length_cons]
        omega
      · by_cases e2 : c = 49
        · subst e2
          rw [List.count_cons_self, List.count_cons_of_ne (by decide), List.length_cons]
          omega
        · rw [List.count_cons_of_ne (fun z => e z), List.count_cons_of_ne (fun z => e2 z), List.length_cons]
          omega
/-- whether signs are those of a tree -/
def isT (l : List Nat) : Bool := (l.all fun c => c == 48 || c == 49) && (fin 1 l == l.length)
theorem all01_iff (l : List Nat) : (l.all fun c => c == 48 || c == 49) = true ↔ all01 l := by
  rw [List.all_eq_true]
  unfold all01
  constructor
  · intro h c hc
    have := h c hc
    simpa using this
  · intro h c hc
    have := h c hc
    simpa using this
theorem isT_true (l : List Nat) : isT l = true ↔ ∃ t : Tr, l = t.sg := by
  rw [← isT_iff]
  unfold isT
  rw [Bool.and_eq_true, all01_iff, beq_iff_eq]
theorem isT_scan (l : List Nat) : isT l = decide (scan 1 l = some 0) := by
  rw [Bool.eq_iff_iff, isT_true, decide_eq_true_eq, scan_iff, isT_iff]
theorem isT_sg (t : Tr) : isT t.sg = true := (isT_true _).mpr ⟨t, rfl⟩
theorem scan_none : ∀ (a b : List Nat) (m : Nat), scan m a = none → scan m (a ++ b) = none
  | [], b, m, h => by cases h
  | c :: a, b, m, h => by
    show (if m = 0 ∨ ¬ (c = 48 ∨ c = 49) then none else scan (if c = 48 then m - 1 else m + 1) (a ++ b)) = none
    have h' : (if m = 0 ∨ ¬ (c = 48 ∨ c = 49) then none else scan (if c = 48 then m - 1 else m + 1) a) = none := h
    by_cases hc : m = 0 ∨ ¬ (c = 48 ∨ c = 49)
    · rw [if_pos hc]
    · rw [if_neg hc] at h' ⊢
      exact scan_none a b _ h'
theorem scan_app : ∀ (a b : List Nat) (m k : Nat), scan m a = some k → scan m (a ++ b) = scan k b
  | [], b, m, k, h => by
    have : m = k := Option.some.inj h
    rw [this]
    rfl
  | c :: a, b, m, k, h => by
    show (if m = 0 ∨ ¬ (c = 48 ∨ c = 49) then none else scan (if c = 48 then m - 1 else m + 1) (a ++ b)) = _
    have h' : (if m = 0 ∨ ¬ (c = 48 ∨ c = 49) then none else scan (if c = 48 then m - 1 else m + 1) a) = some k := h
    by_cases hc : m = 0 ∨ ¬ (c = 48 ∨ c = 49)
    · rw [if_pos hc] at h'
      cases h'
    · rw [if_neg hc] at h' ⊢
      exact scan_app a b _ k h'
theorem sg_inj : ∀ {t u : Tr} {r s : List Nat}, t.sg ++ r = u.sg ++ s → t = u ∧ r = s
  | .leaf, .leaf, r, s, h => ⟨rfl, (List.cons.inj h).2⟩
  | .leaf, .node a b, r, s, h => by
    have := (List.cons.inj h).1
    omega
  | .node a b, .leaf, r, s, h => by
    have := (List.cons.inj h).1
    omega
  | .node a b, .node c d, r, s, h => by
    have h1 : (a.sg ++ b.sg) ++ r = (c.sg ++ d.sg) ++ s := (List.cons.inj h).2
    rw [List.append_assoc, List.append_assoc] at h1
    obtain ⟨e1, h2⟩ := sg_inj h1
    obtain ⟨e2, h3⟩ := sg_inj h2
    rw [e1, e2]
    exact ⟨rfl, h3⟩
theorem Tr.sg_inj {t u : Tr} (h : t.sg = u.sg) : t = u := by
  have := Nx.sg_inj (t := t) (u := u) (r := []) (s := []) (by rw [List.append_nil, List.append_nil]; exact h)
  exact this.1
theorem Tr.str_inj {t u : Tr} (h : t.str = u.str) : t = u := Tr.sg_inj (stS_inj h)
theorem Tr.str_len (t : Tr) : t.str.length = t.sg.length := stS_len _
end Nx

/-! Further rules, and what they say of signs. -/
namespace Nx
open PySem PySem.Spec PyProof.Rows L2 TL
theorem foldl_app {α : Type} : ∀ (ls : List (Array α)) (a : Array α), (ls.foldl (· ++ ·) a).toList = a.toList ++ (ls.map (·.toList)).flatten
  | [], a => by simp
  | x :: r, a => by
    rw [List.foldl_cons, foldl_app r (a ++ x)]
    simp
theorem mul_rep (x : Str) (n : Int) : Txt.mul x n = stS (repL n.toNat x.cps.toList) := by
  unfold Txt.mul repL
  by_cases h1 : n < 1
  · rw [if_pos h1, show n.toNat = 0 by omega]
    rfl
  · rw [if_neg h1]
    by_cases h2 : (n == 1 || x.length == 0) = true
    · rw [if_pos h2]
      have h3 : n = 1 ∨ x.length = 0 := by simpa using h2
      rcases h3 with h3 | h3
      · subst h3
        show x = stS (List.replicate 1 x.cps.toList).flatten
        rw [List.replicate_one, List.flatten_singleton, stS_of]
      · have h4 : x.cps.toList = [] := by
          have : x.cps.size = 0 := h3
          exact List.length_eq_zero_iff.mp (by rw [Array.length_toList]; exact this)
        rw [h4]
        have h5 : (List.replicate n.toNat ([] : List Nat)).flatten = [] := by simp
        rw [h5]
        have := stS_of x
        rw [h4] at this
        exact this.symm
    · rw [if_neg h2]
      have e : (⟨(List.replicate n.toNat x.cps).foldl (· ++ ·) #[]⟩ : Str) = stS ((List.replicate n.toNat x.cps).foldl (· ++ ·) #[]).toList := (stS_of _).symm
      rw [e, foldl_app, List.map_replicate]
      rfl
/-- a def that stands at a name and keeps a promise -/
structure Has (P : Program) (w : World) (K : PySem.W.Frag) (mg : Str → Option Value) (base : Heap) (CX : CXT) (k : Nat) (x : Str) (ps : List Str) (sp : Sp) : Prop where
  ex : ∃ f fd, FnOk P w K mg base CX k f fd ps sp ∧ mg x = some (.ref f) ∧ PySem.W.keepIn K (.ref f) = true ∧ Binds K fd ps []
/-- a method of a class, an __init__ -/
structure HasM (P : Program) (w : World) (K : PySem.W.Frag) (C : Addr) (mg : Str → Option Value) (base : Heap) (CX : CXT) (k : Nat) (m : Str) (ps : List Str) (sp : Sp) : Prop where
  ex : ∃ f fd, FnOk P w K mg base CX k f fd ps sp ∧ Meth K C m f ∧ Binds K fd ps []
structure HasI (P : Program) (w : World) (K : PySem.W.Frag) (C : Addr) (mg : Str → Option Value) (base : Heap) (CX : CXT) (k : Nat) (ps : List Str) (sp : Sp) : Prop where
  ex : ∃ f fd, FnOk P w K mg base CX k f fd ps sp ∧ Mk K C f ∧ Binds K fd ps []
section
variable {X : Cx}
def rLenS (K : PySem.W.Frag) : List V → Hp → VK → Prop := fun xs H Q => ∃ p ys, xs = [.ref p] ∧ (SqL K H p ys ∨ SqT K H p ys) ∧ Q (.int ys.length) H
def rListOf (K : PySem.W.Frag) : List V → Hp → VK → Prop := fun xs H Q => ∃ p ys, xs = [.ref p] ∧ (SqL K H p ys ∨ SqT K H p ys) ∧ ∀ l, H l = none → Q (.ref l) (upd H l (.lst ys))
theorem call_listOf : CallR X (.type "list") (rListOf X.K) := call_list_of
def rTupOf (K : PySem.W.Frag) : List V → Hp → VK → Prop := fun xs H Q => ∃ p ys, xs = [.ref p] ∧ ((SqL K H p ys ∧ ∀ l, H l = none → Q (.ref l) (upd H l (.tup ys))) ∨ (SqT K H p ys ∧ Q (.ref p) H))
theorem call_tupleOf : CallR X (.type "tuple") (rTupOf X.K) := call_tuple_of
theorem call_lenS : CallR X (.builtin "len") (rLenS X.K) := call_len_seq
/-- a test, an expression, with a word behind it: what follows is shown once, from the word -/
def tMid (t : TT) : TT := fun σ H Q => ∃ M : Bool → Hp → Prop, t σ H M ∧ ∀ b H', M b H' → Q b H'
def eMid (t : TE) : TE := fun σ H Q => ∃ M : V → Hp → Prop, t σ H M ∧ ∀ v H', M v H' → Q v H'
theorem pt_mid {e : Expr} {t : TT} (h : PT X e t) : PT X e (tMid t) := ⟨fun pins s σ H Q I ⟨M, hm, k⟩ => thn (h.run pins s σ H M I hm) fun b s1 ⟨H1, I1, q⟩ => ⟨H1, I1, k b H1 q⟩⟩
theorem pe_mid {e : Expr} {t : TE} (h : PE X e t) : PE X e (eMid t) := ⟨fun pins s σ H Q I ⟨M, hm, k⟩ => thn (h.run pins s σ H M I hm) fun u s1 ⟨v, H1, I1, r, q⟩ => ⟨v, H1, I1, r, k v H1 q⟩⟩
theorem op_mulS : OpR X (binaryOp .Mult) (fun x y H Q => ∃ (z : Str) (n : Int), x = .str z ∧ y = .int n ∧ -(2 ^ 62) ≤ n ∧ n < 2 ^ 62 ∧ z.length * n.toNat ≤ sizeLine ∧ Q (.str (stS (repL n.toNat z.cps.toList))) H) := by
  intro pins s σ H x y v u Q I rx ry h
  obtain ⟨z, n, rfl, rfl, h1, h2, hz, q⟩ := h
  obtain ⟨t, rfl⟩ := rx
  obtain ⟨t', rfl⟩ := ry
  rw [← mul_rep] at q
  refine PySem.SB.mul ⟨?_, ?_, ?_⟩ fun t' k => ⟨.str (Txt.mul z n), H, I.tok _, ⟨_, rfl⟩, q⟩
  · rw [decide_eq_false (by omega), decide_eq_false (by omega)]
    rfl
  · intro n1 n2 n3
    have h3 : 1 ≤ n := by omega
    have h4 : (n.toNat : Int) = n := by omega
    have h5 : ((z.length * n.toNat : Nat) : Int) ≤ (sizeLine : Int) := by exact_mod_cast hz
    rw [Int.natCast_mul, h4] at h5
    have h6 : (sizeLine : Int) ≤ 2 ^ 62 := by decide
    have h7 : (z.length : Int) * n ≤ 2 ^ 63 - 1 := by omega
    have h8 : (z.length : Int) ≤ (2 ^ 63 - 1) / n := (Int.le_ediv_iff_mul_le (by omega)).mpr h7
    omega
  · intro _ _
    show decide (z.length * n.toNat > sizeLine) = false
    exact decide_eq_false (by omega)
end
/-- a loop over a text's signs: what is done, what is left -/
theorem for_str {x : Str} {g : TG} {tb : TS} {D : Ends} {σ : L2.St} {H : Hp} (Pv : List Nat → List Nat → L2.St → Hp → Prop) (h0 : Pv [] x.cps.toList σ H)
    (hs : ∀ a c r σ H, a ++ c :: r = x.cps.toList → Pv a (c :: r) σ H → g (.str (stS [c])) σ H fun σ2 H2 => tb { D with nx := Pv (a ++ [c]) r, ct := Pv (a ++ [c]) r, bk := D.nx } σ2 H2)
    (hd : ∀ σ H, Pv x.cps.toList [] σ H → D.nx σ H) :
    ∃ W : Nat → Nat → L2.St → Hp → Prop, (∃ m, W 0 m σ H) ∧ ∀ i m σ H, W i m σ H →
      ((Its x).stop i H ∧ D.nx σ H) ∨ ((Its x).go i H ∧ ∃ N : L2.St → Hp → Prop, (∀ σ' H', N σ' H' → ∃ m', m' < m ∧ W (i + 1) m' σ' H') ∧ ∀ v H', (Its x).yld i H v H' → g v σ H' fun σ2 H2 => tb { D with nx := N, ct := N, bk := D.nx } σ2 H2) := by
  have hz : x.cps.toList.length = x.cps.size := Array.length_toList
  refine ⟨fun i m σ H => m = x.cps.size - i ∧ i ≤ x.cps.size ∧ Pv (x.cps.toList.take i) (x.cps.toList.drop i) σ H, ⟨_, rfl, Nat.zero_le _, h0⟩, ?_⟩
  rintro i m σ H ⟨rfl, hi, p⟩
  by_cases hlt : i < x.cps.size
  · have hl : i < x.cps.toList.length := by omega
    have e1 := List.drop_eq_getElem_cons hl
    have e2 : x.cps.toList.take i ++ [x.cps.toList[i]] = x.cps.toList.take (i + 1) := by
      rw [List.take_add_one, List.getElem?_eq_getElem hl]
      rfl
    refine .inr ⟨hlt, Pv (x.cps.toList.take (i + 1)) (x.cps.toList.drop (i + 1)), fun σ' H' p' => ⟨x.cps.size - (i + 1), by omega, rfl, hlt, p'⟩, fun v H' y => ?_⟩
    obtain ⟨e, c, hc, y⟩ := y
    have ec : c = x.cps.toList[i] := by
      have : x.cps[i]? = some x.cps.toList[i] := by
        rw [← Array.getElem?_toList]
        exact List.getElem?_eq_getElem hl
      rw [hc] at this
      exact Option.some.inj this
    subst e y
    rw [ec]
    rw [e1] at p
    have := hs (x.cps.toList.take i) x.cps.toList[i] (x.cps.toList.drop (i + 1)) σ _ (by rw [← e1, List.take_append_drop]) p
    rw [e2] at this
    exact this
  · have e : i = x.cps.size := by omega
    subst e
    rw [← hz, List.take_length, List.drop_length] at p
    exact .inl ⟨Nat.le_refl _, hd σ H p⟩
/-! ### joined texts -/
theorem joinL_nil : ∀ ls : List (List Nat), joinL [] ls = ls.flatten
  | [] => rfl
  | [p] => by
    show p = p ++ []
    rw [List.append_nil]
  | p :: q :: r => by
    show p ++ ([] ++ joinL [] (q :: r)) = p ++ (q :: r).flatten
    rw [joinL_nil (q :: r), List.nil_append]
theorem join_none (xs : List Str) : Txt.join (Str.ofString "") xs = stS (xs.map fun x : Str => x.cps.toList).flatten := by
  rw [join_eq]
  have h := tl_join (Str.ofString "") xs
  rw [show tl (Str.ofString "") = [] by decide +kernel, joinL_nil] at h
  have e : Str.join (Str.ofString "") xs = stS (tl (Str.join (Str.ofString "") xs)) := (stS_of _).symm
  rw [e, h]
/-! ### comprehensions over a list whose elements change nothing known -/
theorem lc_map {K : PySem.W.Frag} {a : Addr} {xs : List V} {te : TE} {vs : List Nat} {j : Nat} {σ : L2.St} {H1 : Hp} {D : Addr} {Qd : Hp → Prop} (f : V → V) (hD : H1 D = none) (hs : SqL K H1 a xs) (hz : xs.length < sizeLine)
    (hw : ∀ x, wipe ((wipe σ vs).set j (some x)) vs = wipe σ vs) (he : ∀ x H', x ∈ xs → Same H1 H' → ∀ Q : VK, (∀ H2, Same H' H2 → Q (f x) H2) → te ((wipe σ vs).set j (some x)) H' Q)
    (hd : ∀ H', Same H1 H' → H' D = some (.lst (xs.map f)) → Qd H') :
    ∃ W : Nat → Nat → Hp → Prop, (∃ m, W 0 m (upd H1 D (.lst []))) ∧ ∀ i m H, W i m H →
      ((Itl K a).stop i H ∧ Qd H) ∨ ((Itl K a).go i H ∧ ∃ Nx : Hp → Prop, (∀ H', Nx H' → ∃ m', m' < m ∧ W (i + 1) m' H') ∧ ∀ x H', (Itl K a).yld i H x H' → (gName j) x (wipe σ vs) H' fun σ2 H2 => wipe σ2 vs = wipe σ vs ∧ tYes σ2 H2 fun b H3 =>
        if b = true then te σ2 H3 fun y H4 => ∃ acc, H4 D = some (.lst acc) ∧ acc.length < sizeLine ∧ Nx (upd H4 D (.lst (acc ++ [y]))) else Nx H3) := by
  have hu : ∀ {H' : Hp} {o : HO}, Same H1 H' → Same H1 (upd H' D o) := fun {H' o} e b x q => by
    rw [upd_ne (ne_of_none q hD)]
    exact e b x q
  refine lc_list (xs := xs) (fun i H' => Same H1 H' ∧ H' D = some (.lst ((xs.take i).map f))) ⟨hu (.refl _), upd_same⟩ (fun i H' _ p => p.1.seq hs) (fun i x H' hi p => ?_) (fun H' p => ?_)
  · refine ⟨hw x, ?_⟩
    simp only [tYes, ↓reduceIte]
    refine he x H' (List.mem_of_getElem? hi) p.1 _ fun H2 e2 => ⟨_, e2 _ _ p.2, ?_, hu (p.1.trans e2), ?_⟩
    · rw [List.length_map, List.length_take]
      omega
    · rw [upd_same, List.take_add_one, hi, List.map_append]
      rfl
  · have e := p.2
    rw [List.take_length] at e
    exact hd H' p.1 e
theorem lc_mapT {K : PySem.W.Frag} {a : Addr} {xs : List V} {te : TE} {vs : List Nat} {j : Nat} {σ : L2.St} {H1 : Hp} {D : Addr} {Qd : Hp → Prop} (f : V → V) (hD : H1 D = none) (hs : SqT K H1 a xs) (hst : ∀ H', Same H1 H' → SqT K H' a xs) (hz : xs.length < sizeLine)
    (hw : ∀ x, wipe ((wipe σ vs).set j (some x)) vs = wipe σ vs) (he : ∀ x H', x ∈ xs → Same H1 H' → ∀ Q : VK, (∀ H2, Same H' H2 → Q (f x) H2) → te ((wipe σ vs).set j (some x)) H' Q)
    (hd : ∀ H', Same H1 H' → H' D = some (.lst (xs.map f)) → Qd H') :
    ∃ W : Nat → Nat → Hp → Prop, (∃ m, W 0 m (upd H1 D (.lst []))) ∧ ∀ i m H, W i m H →
      ((Itt K a).stop i H ∧ Qd H) ∨ ((Itt K a).go i H ∧ ∃ Nx : Hp → Prop, (∀ H', Nx H' → ∃ m', m' < m ∧ W (i + 1) m' H') ∧ ∀ x H', (Itt K a).yld i H x H' → (gName j) x (wipe σ vs) H' fun σ2 H2 => wipe σ2 vs = wipe σ vs ∧ tYes σ2 H2 fun b H3 =>
        if b = true then te σ2 H3 fun y H4 => ∃ acc, H4 D = some (.lst acc) ∧ acc.length < sizeLine ∧ Nx (upd H4 D (.lst (acc ++ [y]))) else Nx H3) := by
  have hu : ∀ {H' : Hp} {o : HO}, Same H1 H' → Same H1 (upd H' D o) := fun {H' o} e b x q => by
    rw [upd_ne (ne_of_none q hD)]
    exact e b x q
  refine lc_tup (xs := xs) (fun i H' => Same H1 H' ∧ H' D = some (.lst ((xs.take i).map f))) ⟨hu (.refl _), upd_same⟩ (fun i H' _ p => hst _ p.1) (fun i x H' hi p => ?_) (fun H' p => ?_)
  · refine ⟨hw x, ?_⟩
    simp only [tYes, ↓reduceIte]
    refine he x H' (List.mem_of_getElem? hi) p.1 _ fun H2 e2 => ⟨_, e2 _ _ p.2, ?_, hu (p.1.trans e2), ?_⟩
    · rw [List.length_map, List.length_take]
      omega
    · rw [upd_same, List.take_add_one, hi, List.map_append]
      rfl
  · have e := p.2
    rw [List.take_length] at e
    exact hd H' p.1 e
/-! ### cuts -/
theorem cut_both (l : List Nat) (i j : Nat) : cutS (stS l) (some (i : Int)) (some (j : Int)) = stS ((l.drop i).take (j - i)) := by
  show stS ((l.drop (HT.sIx (stS l).length 0 (some (i : Int)))).take (HT.sIx (stS l).length (stS l).length (some (j : Int)) - HT.sIx (stS l).length 0 (some (i : Int)))) = _
  rw [HT.sIx_nat, HT.sIx_nat, stS_len]
  congr 1
  by_cases h1 : i ≤ l.length
  · rw [Nat.min_eq_left h1]
    by_cases h2 : j ≤ l.length
    · rw [Nat.min_eq_left h2]
    · rw [Nat.min_eq_right (by omega), List.take_of_length_le (by rw [List.length_drop]; omega), List.take_of_length_le (by rw [List.length_drop]; omega)]
  · rw [show min i l.length = l.length by omega, List.drop_eq_nil_of_le (Nat.le_refl _), List.drop_eq_nil_of_le (by omega), List.take_nil, List.take_nil]
theorem cut_to (l : List Nat) (j : Nat) : cutS (stS l) none (some (j : Int)) = stS (l.take j) := by
  show stS ((l.drop 0).take (HT.sIx (stS l).length (stS l).length (some (j : Int)) - 0)) = _
  rw [HT.sIx_nat, stS_len, List.drop_zero, Nat.sub_zero]
  congr 1
  by_cases h2 : j ≤ l.length
  · rw [Nat.min_eq_left h2]
  · rw [Nat.min_eq_right (by omega), List.take_of_length_le (Nat.le_refl _), List.take_of_length_le (by omega)]
theorem cut_from (l : List Nat) (i : Nat) : cutS (stS l) (some (i : Int)) none = stS (l.drop i) := by
  show stS ((l.drop (HT.sIx (stS l).length 0 (some (i : Int)))).take ((stS l).length - HT.sIx (stS l).length 0 (some (i : Int)))) = _
  rw [HT.sIx_nat, stS_len]
  congr 1
  by_cases h1 : i ≤ l.length
  · rw [Nat.min_eq_left h1, List.take_of_length_le (by rw [List.length_drop]; omega)]
  · rw [show min i l.length = l.length by omega, List.drop_eq_nil_of_le (Nat.le_refl _), List.drop_eq_nil_of_le (by omega), List.take_nil]
/-! ### signs counted -/
theorem occ_one (x : Str) (c hi lim : Nat) (hh : hi ≤ x.length) : ∀ (n a : Nat) (st : Array Nat × Nat), st.2 ≤ a → st.1.size + n ≤ lim → a + n = hi + 1 →
    (forIn (List.range' a n) st (StrLaws.occBody x ⟨#[c]⟩ hi lim)).run.fst.size = st.1.size + ((x.cps.toList.drop a).take (hi - a)).count c
  | 0, a, st, _, _, e => by
    have : hi - a = 0 := by omega
    rw [this]
    simp
  | n + 1, a, st, h1, h2, e => by
    rw [List.range'_succ, List.forIn_cons]
    unfold StrLaws.occBody
    by_cases ha : a < hi
    · have hx : a < x.cps.toList.length := by
        rw [Array.length_toList]
        show a < x.length
        omega
      have ed : (x.cps.toList.drop a).take (hi - a) = x.cps.toList[a] :: (x.cps.toList.drop (a + 1)).take (hi - (a + 1)) := by
        rw [List.drop_eq_getElem_cons hx, show hi - a = (hi - (a + 1)) + 1 by omega, List.take_succ_cons]
      have key := StrLaws.subAt_one x c a
      by_cases hc : x.cps.toList[a] = c
      · have h3 : (st.1.size < lim ∧ st.2 ≤ a) ∧ a + (⟨#[c]⟩ : Str).length ≤ hi := ⟨⟨by omega, h1⟩, by show a + 1 ≤ hi; omega⟩
        have h4 := (key.mpr (by rw [List.getElem?_eq_getElem hx, hc])).2
        rw [if_pos ⟨h3, h4⟩]
        have ih := occ_one x c hi lim hh n (a + 1) (st.1.push a, a + (⟨#[c]⟩ : Str).length) (Nat.le_refl _) (by rw [Array.size_push]; omega) (by omega)
        unfold StrLaws.occBody at ih
        refine Eq.trans ih ?_
        rw [Array.size_push, ed, hc, List.count_cons_self]
        omega
      · have h4 : ¬ (((st.1.size < lim ∧ st.2 ≤ a) ∧ a + (⟨#[c]⟩ : Str).length ≤ hi) ∧ Builtin.Str.subAt x ⟨#[c]⟩ a = true) := by
          rintro ⟨⟨_, z1⟩, z2⟩
          have := key.mp ⟨by omega, z2⟩
          rw [List.getElem?_eq_getElem hx] at this
          exact hc (Option.some.inj this)
        rw [if_neg h4]
        have ih := occ_one x c hi lim hh n (a + 1) (st.1, st.2) (by show st.2 ≤ a + 1; omega) (by show st.1.size + n ≤ lim; omega) (by omega)
        unfold StrLaws.occBody at ih
        refine Eq.trans ih ?_
        rw [ed, List.count_cons_of_ne (fun q => hc q)]
    · have h4 : ¬ (((st.1.size < lim ∧ st.2 ≤ a) ∧ a + (⟨#[c]⟩ : Str).length ≤ hi) ∧ Builtin.Str.subAt x ⟨#[c]⟩ a = true) := by
        rintro ⟨⟨_, z1⟩, _⟩
        have : a + 1 ≤ hi := z1
        omega
      rw [if_neg h4]
      have ih := occ_one x c hi lim hh n (a + 1) (st.1, st.2) (by show st.2 ≤ a + 1; omega) (by show st.1.size + n ≤ lim; omega) (by omega)
      unfold StrLaws.occBody at ih
      refine Eq.trans ih ?_
      rw [show hi - (a + 1) = 0 by omega, show hi - a = 0 by omega]
      simp
theorem count_one (x : Str) (c : Nat) : Txt.count x ⟨#[c]⟩ = (x.cps.toList.count c : Nat) := by
  show (((Builtin.Str.occurrences x ⟨#[c]⟩ 0 x.length (x.length + 1)).length : Nat) : Int) = _
  rw [StrLaws.occ_eq, Array.length_toList, occ_one x c x.length (x.length + 1) (Nat.le_refl _) (x.length + 1 - 0) 0 (#[], 0) (Nat.le_refl _) (by show 0 + (x.length + 1 - 0) ≤ _; omega) (by omega)]
  have : ((x.cps.toList.drop 0).take (x.length - 0)) = x.cps.toList := by
    rw [List.drop_zero]
    exact List.take_of_length_le (by rw [Array.length_toList]; exact Nat.le_refl _)
  rw [this]
  show ((0 + _ : Nat) : Int) = _
  rw [Nat.zero_add]
theorem count_in (x : Str) (c : Nat) (i j : Nat) (h : i ≤ j) : Txt.countIn x ⟨#[c]⟩ (i : Int) (j : Int) = (((x.cps.toList.drop i).take (j - i)).count c : Nat) := by
  show (((Builtin.Str.occurrences x ⟨#[c]⟩ (fromIndex x.length (i : Int)) (toIndexW x.length (j : Int)) (x.length + 1)).length : Nat) : Int) = _
  have e2 : toIndexW x.length (j : Int) = min j x.length := by
    unfold toIndexW
    rw [if_neg (by omega)]
    congr 1
  have e1 : fromIndex x.length (i : Int) = i := by
    unfold fromIndex
    rw [if_neg (by omega)]
    omega
  rw [e1, e2, StrLaws.occ_eq, Array.length_toList]
  have hl : x.cps.toList.length = x.length := Array.length_toList
  by_cases hi : i ≤ x.length
  · by_cases hj : i ≤ min j x.length
    · rw [occ_one x c (min j x.length) (x.length + 1) (Nat.min_le_right _ _) (min j x.length + 1 - i) i (#[], i) (Nat.le_refl _) (by show 0 + _ ≤ _; omega) (by omega)]
      have : (x.cps.toList.drop i).take (min j x.length - i) = (x.cps.toList.drop i).take (j - i) := by
        by_cases hjx : j ≤ x.length
        · rw [Nat.min_eq_left hjx]
        · rw [List.take_of_length_le (by rw [List.length_drop]; omega), List.take_of_length_le (by rw [List.length_drop]; omega)]
      rw [this]
      show ((0 + _ : Nat) : Int) = _
      rw [Nat.zero_add]
    · omega
  · have h0 : min j x.length + 1 - i = 0 := by omega
    rw [h0, List.drop_eq_nil_of_le (by omega)]
    simp
end Nx

/-! What the laws' own helpers leave: the row of drawn numbers at one address. -/
namespace Nx
open PySem PySem.Spec PyProof.Rows L2
section
variable {X : Cx}
theorem _root_.L2.Room.units2 {k : Nat} {A : Around} (r : Room k A) : A.units + 65 < cLine := by have := r.un; omega
/-- a block that is only asked where p holds -/
theorem pss_guard {p : Prop} {b : List Stmt} {t : TS} (h : p → PSs X b t) : PSs X b (fun D σ H => p ∧ t D σ H) := ⟨fun pins s σ H D I q => (h q.1).run pins s σ H D I q.2⟩
def rInDT (K : PySem.W.Frag) : R2 := fun x y H Q => ∃ d ds, Dp K H x d ∧ Dp K H y (.tuple ds) ∧ SeqAt.shaped d = true ∧ SeqAt.shaped (.tuple ds) = true ∧ Q (.bl (ds.any fun z => PyData.eqv z d)) H
theorem op_inDT (hu : X.A.units + 65 < cLine) : OpR X (compareOp .In) (rInDT X.K) := by
  intro pins s σ H x y v u Q I rx ry h
  obtain ⟨d, ds, hd, he, sd, se, q⟩ := h
  obtain ⟨as, r1⟩ := Dp.reads I d x v hd rx
  obtain ⟨bs, r2⟩ := Dp.reads I (.tuple ds) y u he ry
  exact SeqAt.in_tuple_reads r2 r1 (SeqAt.canLay_of_shaped se) (SeqAt.canLay_of_shaped sd) (room_in_shaped sd hu) ⟨.bl _, H, I, rfl, q⟩
end
/-- the program's own classes -/
inductive Cn where
  | NarcissusError | TooLarge | BadText | NoCode | Ended | OutOfSteps | TooWide | BadClaim | Machine | SHAPES | WORDS | CODE_OF_FIRST | JOINING | FORMS | ITEMS | CHECKS
/-- what the top says of an error's class -/
structure ExcK (K : PySem.W.Frag) (C : Addr) : Prop where
  x : PySem.W.excIn K C [.type "ValueError", .type "Exception", .type "BaseException", .type "object"] "ValueError.__new__" = true
  k : PySem.W.keepIn K (.ref C) = true
  b : PySem.W.subIn K (.ref C) (.type "BaseException") = some true
  t : PySem.W.typeIn K (.ref C) = some (.type "type")
  c : ExcC K C
/-- at st stands a row from which numbers are drawn -/
def Strm (H : Hp) (st : Addr) : Prop := ∃ (l : Addr) (ns : List Int) (c i m : Int), H st = some (.lst [.ref l, .int c, .int i, .int m]) ∧ H l = some (.lst (ns.map V.int)) ∧ 0 ≤ c ∧ 0 ≤ i ∧ 0 ≤ m ∧ m < 2147483647
/-- all that was tracked but what stands at st is as it was; st's first item too -/
structure ExS (st : Addr) (H H' : Hp) : Prop where
  k : ∀ a o, a ≠ st → H a = some o → H' a = some o
  hd : ∀ l r, H st = some (.lst (.ref l :: r)) → ∃ r', H' st = some (.lst (.ref l :: r'))
instance {st : Addr} {H H' : Hp} : CoeFun (ExS st H H') (fun _ => ∀ a o, a ≠ st → H a = some o → H' a = some o) := ⟨ExS.k⟩
theorem ExS.refl {st : Addr} {H : Hp} : ExS st H H := ⟨fun _ _ _ h => h, fun _ r h => ⟨r, h⟩⟩
theorem ExS.trans {st : Addr} {H H1 H2 : Hp} (a : ExS st H H1) (b : ExS st H1 H2) : ExS st H H2 := ⟨fun c o n h => b c o n (a c o n h), fun l r h => by
  obtain ⟨r', h'⟩ := a.hd l r h
  exact b.hd l r' h'⟩
theorem ExS.put {st l : Addr} {H : Hp} {r r' : List V} (hst : H st = some (.lst (.ref l :: r))) : ExS st H (upd H st (.lst (.ref l :: r'))) := ⟨fun a u n h => by
  rw [upd_ne n]
  exact h, fun l2 r2 h => by
  rw [hst] at h
  have : l = l2 := V.ref.inj (List.cons.inj (HO.lst.inj (Option.some.inj h))).1
  rw [← this]
  exact ⟨r', upd_same⟩⟩
theorem _root_.L2.Same.exs {st : Addr} {H H' : Hp} (h : Same H H') : ExS st H H' := ⟨fun a o _ e => h a o e, fun l r e => ⟨r, h _ _ e⟩⟩
theorem _root_.L2.Same.upd {H : Hp} {p : Addr} {o : HO} (h : H p = none) : Same H (upd H p o) := fun b x e => by
  rw [upd_ne (ne_of_none e h)]
  exact e
theorem _root_.L2.Same.strm {H H' : Hp} {st : Addr} (e : Same H H') (h : Strm H st) : Strm H' st := by
  obtain ⟨l, ns, c, i, m, h1, h2, h3⟩ := h
  exact ⟨l, ns, c, i, m, e _ _ h1, e _ _ h2, h3⟩
theorem _root_.L2.Same.seqT {K : PySem.W.Frag} {H H' : Hp} {a : Addr} {xs : List V} (e : Same H H') (h : SqT K H a xs) : SqT K H' a xs := by
  rcases h with (h | ⟨o, h⟩) | h
  · exact .inl (.inl (e _ _ h))
  · exact .inl (.inr ⟨o, e _ _ h⟩)
  · exact .inr h
theorem Strm.has {H : Hp} {st : Addr} (h : Strm H st) : H st ≠ none := by
  obtain ⟨l, ns, c, i, m, h1, _⟩ := h
  rw [h1]
  intro z
  cases z
theorem Strm.ne {H : Hp} {st p : Addr} (h : Strm H st) (hp : H p = none) : p ≠ st := fun z => h.has (by rw [← z]; exact hp)
theorem map_int {ns : List Int} {j : Nat} {v : V} (h : (ns.map V.int)[j]? = some v) : ∃ n, ns[j]? = some n ∧ v = .int n := by
  rw [List.getElem?_map] at h
  cases e : ns[j]? with
  | none =>
    rw [e] at h
    cases h
  | some n =>
    rw [e] at h
    exact ⟨n, rfl, (Option.some.inj h).symm⟩
def treeV : V → Bool
  | .str s => decide (s.length ≤ 200000) && isT s.cps.toList
  | _ => false
/-- a value that is a text, or surely is none -/
def StrOr (K : PySem.W.Frag) (H : Hp) (x : V) : Prop := (∃ s, x = .str s ∧ s.length ≤ sizeLine) ∨ ∃ t, TyX K H x t ∧ PySem.W.kitOne K t (.type "str") = some false ∧ ∀ s, x ≠ .str s
theorem treeV_no {x : V} (h : ∀ s, x ≠ .str s) : treeV x = false := by
  cases x with
  | str s => exact absurd rfl (h s)
  | _ => rfl
theorem treeV_sg (t : Tr) (h : t.sg.length ≤ 200000) : treeV (.str t.str) = true := by
  show (decide (t.str.length ≤ 200000) && isT t.sg) = true
  rw [t.str_len, decide_eq_true h, isT_sg]
  rfl
theorem _root_.L2.TyX.same {K : PySem.W.Frag} {H H' : Hp} {x : V} {t : Value} (h : TyX K H x t) (e : Same H H') : TyX K H' x t := by
  cases h with
  | base b =>
    cases b with
    | non => exact .base .non
    | bl y => exact .base (.bl y)
    | int i => exact .base (.int i)
    | str y => exact .base (.str y)
    | flt y => exact .base (.flt y)
    | lst ea => exact .base (.lst (e _ _ ea))
    | frz ea => exact .base (.frz (e _ _ ea))
    | tup ea => exact .base (.tup (e _ _ ea))
    | dK ea => exact .base (.dK (e _ _ ea))
    | dT ea => exact .base (.dT (e _ _ ea))
    | ins ea cl ha hn htk hm => exact .base (.ins (e _ _ ea) cl ha hn htk hm)
  | byt b => exact .byt b
  | set ea => exact .set (e _ _ ea)
  | kList ea c => exact .kList ea c
  | kTuple ea c => exact .kTuple ea c
  | kDict ea c => exact .kDict ea c
  | fTuple ea => exact .fTuple (e _ _ ea)
  | fDict ea => exact .fDict (e _ _ ea)
theorem StrOr.same {K : PySem.W.Frag} {H H' : Hp} {x : V} (h : StrOr K H x) (e : Same H H') : StrOr K H' x := by
  rcases h with h | ⟨t, h1, h2⟩
  · exact .inl h
  · exact .inr ⟨t, h1.same e, h2⟩
def notTold (d : PyData) : Prop := SeqAt.shaped (.tuple [d]) = true ∧ PyData.eqv (.str "refused") d = false ∧ PyData.eqv (.str "large") d = false ∧ PyData.eqv (.str "wide") d = false
mutual
theorem Dp.same {K : PySem.W.Frag} {H H' : Hp} (e : Same H H') : ∀ {v : V} {d : PyData}, Dp K H v d → Dp K H' v d
  | _, _, .non => .non
  | _, _, .bl b => .bl b
  | _, _, .int i => .int i
  | _, _, .str x => .str x
  | _, _, .lst hs ha => .lst (e.seq hs) (DpAll.same e ha)
  | _, _, .tup hs ha => .tup (Same.seqT e hs) (DpAll.same e ha)
theorem DpAll.same {K : PySem.W.Frag} {H H' : Hp} (e : Same H H') : ∀ {vs : List V} {ds : List PyData}, DpAll K H vs ds → DpAll K H' vs ds
  | _, _, .nil => .nil
  | _, _, .cons h r => .cons (Dp.same e h) (DpAll.same e r)
end
theorem _root_.L2.Dp.same {K : PySem.W.Frag} {H H' : Hp} {v : V} {d : PyData} (h : Dp K H v d) (e : Same H H') : Dp K H' v d := Nx.Dp.same e h
theorem _root_.L2.DpAll.same {K : PySem.W.Frag} {H H' : Hp} {v : List V} {d : List PyData} (h : DpAll K H v d) (e : Same H H') : DpAll K H' v d := Nx.DpAll.same e h
/-- values that are texts of at most n signs -/
def strsB (n : Nat) (xs : List V) : Bool := xs.all fun v => match v with | .str z => decide (z.length ≤ n) | _ => false
theorem atI_some {α : Type} {xs : List α} {d : Nat} (h : d < xs.length) : ∃ v, atI xs (d : Int) = some v ∧ v ∈ xs := ⟨xs[d], atI_nat (List.getElem?_eq_getElem h), List.getElem_mem h⟩
/-- an item of a written list at an open place -/
theorem ixL_any {K : PySem.W.Frag} {H : Hp} {p : Addr} {xs : List V} {d : Nat} {Q : VK} (hp : H p = some (.lst xs)) (hd : d < xs.length) (q : ∀ v ∈ xs, Q v H) : rIxL K (.ref p) (.int d) H Q := by
  obtain ⟨v, h1, h2⟩ := atI_some hd
  exact ⟨p, xs, d, v, rfl, rfl, SqL.of hp, h1, q v h2⟩
theorem ixL_menu {K : PySem.W.Frag} {H : Hp} {p : Addr} {xs : List V} {d : Nat} {Q : VK} (n : Nat) (hp : H p = some (.lst xs)) (hs : strsB n xs = true) (hd : d < xs.length) (q : ∀ z : Str, z.length ≤ n → Q (.str z) H) : rIxL K (.ref p) (.int d) H Q := by
  refine ixL_any hp hd fun v hv => ?_
  have := List.all_eq_true.mp hs v hv
  cases v with
  | str z => exact q z (of_decide_eq_true this)
  | _ => cases this
theorem ixS_any {H : Hp} {z : Str} {d : Nat} {Q : VK} (n : Nat) (hz : z.length = n) (hn : n ≤ sizeLine) (hd : d < n) (q : ∀ c : Nat, Q (.str (stS [c])) H) : rIxS (.str z) (.int d) H Q := by
  have hl : z.cps.toList.length = z.length := Array.length_toList
  obtain ⟨c, h1, _⟩ := atI_some (xs := z.cps.toList) (d := d) (by omega)
  exact ⟨z, d, c, rfl, rfl, by omega, h1, q c⟩
theorem iteFb {b : Bool} {A B : Prop} (h : b = false) (g : B) : if b = true then A else B := by
  rw [h]
  exact iteF g
theorem iteTb {b : Bool} {A B : Prop} (h : b = true) (g : A) : if b = true then A else B := by
  rw [h]
  exact iteT g
theorem iteS {c A B : Prop} [Decidable c] (hc : c) (h : A) : if decide c = true then A else B := by
  rw [decide_eq_true hc]
  exact iteT h
theorem iteNo {c A B : Prop} [Decidable c] (hc : ¬ c) (h : B) : if decide c = true then A else B := by
  rw [decide_eq_false hc]
  exact iteF h
/-- the integer whose number a text is, or None -/
def valV (x : Str) : V := if x = (numT (x.length / 2)).str then .int ((x.length / 2 : Nat) : Int) else .non
theorem valV_num (n : Nat) : valV (numT n).str = .int n := by
  have h : (numT n).str.length / 2 = n := by
    rw [Tr.str_len, numT_len]
    omega
  unfold valV
  rw [h, if_pos rfl]
theorem valV_no {t : Tr} (h : ∀ k, t ≠ numT k) : valV t.str = .non := by
  unfold valV
  rw [if_neg fun z => h _ (Tr.str_inj z)]
theorem valV_or (t : Tr) : (∃ k, t = numT k ∧ valV t.str = .int k) ∨ ((∀ k, t ≠ numT k) ∧ valV t.str = .non) := by
  by_cases h : ∃ k, t = numT k
  · obtain ⟨k, rfl⟩ := h
    exact .inl ⟨k, rfl, valV_num k⟩
  · have h' : ∀ k, t ≠ numT k := fun k e => h ⟨k, e⟩
    exact .inr ⟨h', valV_no h'⟩
theorem s0 : (Str.ofString "0") = stS [48] := by decide +kernel
theorem s1 : (Str.ofString "1") = stS [49] := by decide +kernel
theorem strOk_01 {l : List Nat} (h : all01 l) : PyData.strOk (stS l) = true := by
  unfold PyData.strOk
  rw [Array.all_eq_true']
  intro c hc
  have hc' : c ∈ l := List.mem_toArray.mp hc
  rcases h c hc' with e | e
  · rw [e]
    decide
  · rw [e]
    decide
theorem shaped_01 {l : List Nat} (h : all01 l) : SeqAt.shaped (.str (stS l)) = true := by
  show (PyData.strOk (stS l) && decide (0 ≤ 64)) = true
  rw [strOk_01 h]
  rfl
theorem eqv_str (x : Str) : PyData.eqv (.str x) (.str x) = true := by
  show (x == x) = true
  exact beq_self_eq_true x
theorem cons_str (a b : Tr) : stS (49 :: (a.str.cps.toList ++ b.str.cps.toList)) = (Tr.node a b).str := rfl
theorem str_cons (a b : Tr) : Str.ofString "1" ++ a.str ++ b.str = (Tr.node a b).str := by
  rw [s1]
  show stS [49] ++ stS a.sg ++ stS b.sg = stS (49 :: (a.sg ++ b.sg))
  rw [stS_app, stS_app]
  rfl
/-- the text of a number as the laws write it -/
theorem num_str (n : Nat) : stS (repL n (Str.ofString "10").cps.toList) ++ Str.ofString "0" = (numT n).str := by
  rw [s0, stS_app, show (Str.ofString "10").cps.toList = [49, 48] by decide +kernel]
  show _ = stS _
  rw [numT_sg]
theorem len10 (n : Nat) : (stS (repL n (Str.ofString "10").cps.toList)).length = 2 * n := by
  rw [stS_len, repL_len, show (Str.ofString "10").cps.toList.length = 2 by decide +kernel]
  omega
theorem len1 (n : Nat) : (stS (repL n (Str.ofString "1").cps.toList)).length = n := by
  rw [stS_len, repL_len, show (Str.ofString "1").cps.toList.length = 1 by decide +kernel]
  omega
theorem len0 (n : Nat) : (stS (repL n (Str.ofString "0").cps.toList)).length = n := by
  rw [stS_len, repL_len, show (Str.ofString "0").cps.toList.length = 1 by decide +kernel]
  omega
theorem ch_str (n : Nat) : stS (repL n (Str.ofString "1").cps.toList) ++ stS (repL (n + 1) (Str.ofString "0").cps.toList) = (chT n).str := by
  rw [s0, s1, stS_app]
  show stS (repL n [49] ++ repL (n + 1) [48]) = stS _
  rw [chT_sg, repL_one, repL_one]
theorem chT_len (n : Nat) : (chT n).sg.length = 2 * n + 1 := by
  rw [chT_sg, List.length_append, List.length_replicate, List.length_replicate]
  omega
theorem in01 (c : Nat) : inV (.str (stS [c])) [.str "0", .str "1"] = decide (c = 48 ∨ c = 49) := by
  have h : ∀ d : Nat, eqV (.str (stS [d])) (.str (stS [c])) = decide (c = d) := fun d => by
    show (stS [d] == stS [c]) = _
    rw [Bool.eq_iff_iff, beq_iff_eq, decide_eq_true_eq]
    constructor
    · intro z
      exact (List.cons.inj (stS_inj z)).1.symm
    · intro z
      rw [z]
  show (eqV (.str "0") (.str (stS [c])) || (eqV (.str "1") (.str (stS [c])) || false)) = _
  rw [s0, s1, h, h, Bool.or_false, Bool.decide_or]
theorem sig01 (c : Nat) : decide (V.str (stS [c]) = V.str "0") = decide (c = 48) := by
  rw [s0, Bool.eq_iff_iff, decide_eq_true_eq, decide_eq_true_eq]
  constructor
  · intro z
    have := stS_inj (V.str.inj z)
    exact (List.cons.inj this).1
  · intro z
    rw [z]
/-- trees as values -/
def trV (ts : List Tr) : List V := ts.map fun t => V.str t.str
theorem trV_len (ts : List Tr) : (trV ts).length = ts.length := List.length_map _
theorem mem_trV {ts : List Tr} {x : V} (h : x ∈ trV ts) : ∃ t ∈ ts, x = .str t.str := by
  obtain ⟨t, h1, h2⟩ := List.mem_map.mp h
  exact ⟨t, h1, h2.symm⟩
theorem trV_of {P : Tr → Prop} : ∀ {ys : List V}, (∀ y ∈ ys, ∃ t : Tr, y = .str t.str ∧ P t) → ∃ ts : List Tr, ys = trV ts ∧ ∀ t ∈ ts, P t
  | [], _ => ⟨[], rfl, fun _ h => (by cases h)⟩
  | y :: ys, h => by
    obtain ⟨t, e, p⟩ := h y (List.mem_cons_self ..)
    obtain ⟨ts, e2, p2⟩ := trV_of (ys := ys) fun z hz => h z (List.mem_cons_of_mem _ hz)
    refine ⟨t :: ts, by rw [e, e2]; rfl, fun u hu => ?_⟩
    rcases List.mem_cons.mp hu with r | r
    · rw [r]
      exact p
    · exact p2 u r
theorem trV_inj : ∀ {a b : List Tr}, trV a = trV b → a = b
  | [], [], _ => rfl
  | [], y :: b, h => by cases h
  | x :: a, [], h => by cases h
  | x :: a, y :: b, h => by
    obtain ⟨h1, h2⟩ := List.cons.inj h
    rw [Tr.str_inj (V.str.inj h1), trV_inj h2]
/-- the same as data -/
def trD (ts : List Tr) : PyData := .list (ts.map fun t => .str t.str)
theorem trD_all {K : PySem.W.Frag} {H : Hp} : ∀ ts : List Tr, DpAll K H (trV ts) (ts.map fun t => .str t.str)
  | [] => .nil
  | t :: r => .cons (.str _) (trD_all r)
theorem trD_dp {K : PySem.W.Frag} {H : Hp} {a : Addr} {ts : List Tr} (h : SqL K H a (trV ts)) : Dp K H (.ref a) (trD ts) := .lst h (trD_all ts)
theorem trD_lay : ∀ ts : List Tr, PyData.canLayAll0 (ts.map fun t => PyData.str t.str) = true
  | [] => rfl
  | t :: r => by
    show (PyData.strOk t.str && PyData.canLayAll0 (r.map fun t => PyData.str t.str)) = true
    rw [show PyData.strOk t.str = true from strOk_01 t.sg_01, trD_lay r]
    rfl
theorem trD_deep : ∀ ts : List Tr, PyData.depthAll (ts.map fun t => PyData.str t.str) = 0
  | [] => rfl
  | t :: r => by
    show max 0 (PyData.depthAll (r.map fun t => PyData.str t.str)) = 0
    rw [trD_deep r]
    rfl
theorem trD_shaped (ts : List Tr) : SeqAt.shaped (trD ts) = true := by
  show (PyData.canLayAll0 (ts.map fun t => PyData.str t.str) && decide (PyData.depthAll (ts.map fun t => PyData.str t.str) + 1 ≤ 64)) = true
  rw [trD_lay, trD_deep]
  rfl
theorem eqv_same {d : PyData} (h : SeqAt.shaped d = true) : PyData.eqv d d = true := by
  unfold SeqAt.shaped at h
  rw [Bool.and_eq_true] at h
  exact SeqAt.eqv_refl d h.1
/-! ### the texts of lists of trees -/
def lenV : V → V
  | .str x => .int x.length
  | _ => .non
def oneV : V → V
  | .str x => .str (stS (49 :: x.cps.toList))
  | _ => .non
theorem oneV_map (ts : List Tr) : (trV ts).map oneV = (ts.map fun t => stS (49 :: t.sg)).map V.str := by
  unfold trV
  rw [List.map_map, List.map_map]
  rfl
theorem one_sum (ts : List Tr) : ((ts.map fun t => stS (49 :: t.sg)).map fun x : Str => x.length).sum + 1 = (lstT ts).sg.length := by
  rw [lstT_len, List.map_map]
  induction ts with
  | nil => rfl
  | cons t r ih =>
    rw [List.map_cons, List.sum_cons, List.map_cons, List.sum_cons, List.length_cons]
    have e : ((fun x : Str => x.length) ∘ fun t : Tr => stS (49 :: t.sg)) t = t.sg.length + 1 := by
      show (stS (49 :: t.sg)).length = _
      rw [stS_len]
      rfl
    rw [e]
    omega
theorem join_lst (ts : List Tr) : Txt.join (Str.ofString "") (ts.map fun t => stS (49 :: t.sg)) ++ Str.ofString "0" = (lstT ts).str := by
  rw [join_none]
  have e7 : ((ts.map fun t => stS (49 :: t.sg)).map fun x : Str => x.cps.toList) = ts.map fun t => 49 :: t.sg := by
    rw [List.map_map]
    rfl
  show _ = stS (lstT ts).sg
  rw [e7, lstT_sg, s0, stS_app]
theorem join_len (ts : List Tr) : (Txt.join (Str.ofString "") (ts.map fun t => stS (49 :: t.sg))).length + 1 = (lstT ts).sg.length := by
  have h := congrArg Str.length (join_lst ts)
  rw [Str.length_append, Tr.str_len] at h
  exact h
theorem one_te {σ : L2.St} {j : Nat} {t : Tr} {H : Hp} {Q : VK} (h : σ[j]? = some (some (.str t.str))) (hl : t.sg.length ≤ 1000000) (q : Q (oneV (.str t.str)) H) :
    tOp (fun x y H Q => ∃ i j, x = V.str i ∧ y = V.str j ∧ i.length + j.length ≤ sizeLine ∧ Q (V.str (i ++ j)) H) (tC (.str "1")) (tVar j) σ H Q := by
  have h2 := t.str_len
  have hz : sizeLine = 16777216 := rfl
  refine ⟨_, h, _, _, rfl, rfl, (by show 1 + t.str.length ≤ _; omega), ?_⟩
  rw [s1]
  show Q (V.str (stS [49] ++ stS t.sg)) H
  rw [stS_app]
  exact q
/-! ### a comprehension over a range whose elements draw -/
theorem Strm.off {H1 H' : Hp} {st D : Addr} {o : HO} (s1 : Strm H1 st) (hD : H1 D = none) (e : ExS st H1 H') (s : Strm H' st) : Strm (upd H' D o) st := by
  have nD : D ≠ st := s1.ne hD
  obtain ⟨l1, ns1, c1, i1, m1, g1, g2, g3⟩ := s1
  obtain ⟨l, ns, c, i, m, h1, h2, h3⟩ := s
  obtain ⟨r', hr⟩ := e.hd l1 _ g1
  rw [h1] at hr
  have hl : l = l1 := V.ref.inj (List.cons.inj (HO.lst.inj (Option.some.inj hr))).1
  have hlD : l ≠ D := by
    rw [hl]
    exact ne_of_none g2 hD
  exact ⟨l, ns, c, i, m, by rw [upd_ne nD.symm]; exact h1, by rw [upd_ne hlD]; exact h2, h3⟩
theorem ExS.off {H1 H' : Hp} {st D : Addr} {o : HO} (nD : D ≠ st) (hD : H1 D = none) (e : ExS st H1 H') : ExS st H1 (upd H' D o) := by
  refine ⟨fun b x nb q => ?_, fun l r h => ?_⟩
  · rw [upd_ne (ne_of_none q hD)]
    exact e b x nb q
  · rw [upd_ne nD.symm]
    exact e.hd l r h
theorem lc_draw {n : Nat} {te : TE} {vs : List Nat} {j : Nat} {σ : L2.St} {H1 : Hp} {D : Addr} {Qd : Hp → Prop} {st : Addr} (P : V → Prop) (hD : H1 D = none) (s1 : Strm H1 st) (hn : n < sizeLine)
    (hw : ∀ x, wipe ((wipe σ vs).set j (some x)) vs = wipe σ vs)
    (he : ∀ (i : Nat) H', i < n → ExS st H1 H' → Strm H' st → ∀ Q : VK, (∀ y H2, P y → ExS st H' H2 → Strm H2 st → Q y H2) → te ((wipe σ vs).set j (some (.int i))) H' Q)
    (hd : ∀ ys H', ys.length = n → (∀ y ∈ ys, P y) → ExS st H1 H' → Strm H' st → H' D = some (.lst ys) → Qd H') :
    ∃ W : Nat → Nat → Hp → Prop, (∃ m, W 0 m (upd H1 D (.lst []))) ∧ ∀ i m H, W i m H →
      ((Itr 0 n).stop i H ∧ Qd H) ∨ ((Itr 0 n).go i H ∧ ∃ Nx : Hp → Prop, (∀ H', Nx H' → ∃ m', m' < m ∧ W (i + 1) m' H') ∧ ∀ x H', (Itr 0 n).yld i H x H' → (gName j) x (wipe σ vs) H' fun σ2 H2 => wipe σ2 vs = wipe σ vs ∧ tYes σ2 H2 fun b H3 =>
        if b = true then te σ2 H3 fun y H4 => ∃ acc, H4 D = some (.lst acc) ∧ acc.length < sizeLine ∧ Nx (upd H4 D (.lst (acc ++ [y]))) else Nx H3) := by
  have nD : D ≠ st := s1.ne hD
  refine lc_range (lo := 0) (n := n) (fun i H' => ∃ ys : List V, ys.length = i ∧ (∀ y ∈ ys, P y) ∧ ExS st H1 H' ∧ Strm H' st ∧ H' D = some (.lst ys)) ⟨[], rfl, fun _ h => (by cases h), .off nD hD .refl, s1.off hD .refl s1, upd_same⟩ (fun i H' hi p => ?_) (fun H' p => ?_)
  · obtain ⟨ys, e1, e2, e3, e4, e5⟩ := p
    refine ⟨hw _, ?_⟩
    simp only [tYes, ↓reduceIte]
    have e0 : (0 : Int) + (i : Int) = (i : Int) := Int.zero_add _
    show te ((wipe σ vs).set j (some (.int ((0 : Int) + (i : Int))))) H' _
    rw [e0]
    refine he i H' hi e3 e4 _ fun y H2 hy ex st2 => ⟨ys, ex _ _ nD e5, by omega, ys ++ [y], by rw [List.length_append, e1]; rfl, fun z hz => ?_, .off nD hD (e3.trans ex), s1.off hD (e3.trans ex) st2, upd_same⟩
    rcases List.mem_append.mp hz with q | q
    · exact e2 z q
    · rw [List.mem_singleton.mp q]
      exact hy
  · obtain ⟨ys, e1, e2, e3, e4, e5⟩ := p
    exact hd ys H' e1 e2 e3 e4 e5
end Nx

/-! zip of a text and a tuple. -/
namespace Nx
open PySem PySem.Spec PyProof.Rows L2
/-- the signs of x beside the tuple at b, in new pairs -/
def ItzS (K : PySem.W.Frag) (x : Str) (b : Addr) : It :=
  ⟨fun i H => ∃ (ys : List V) (c : Nat) (y : V), SqT K H b ys ∧ x.cps[i]? = some c ∧ ys[i]? = some y,
    fun i H v H' => ∃ T c y, v = .ref T ∧ H T = none ∧ H' = upd H T (.tup [.str ⟨#[c]⟩, y]) ∧ x.cps[i]? = some c ∧ ∀ ys, SqT K H b ys → ys[i]? = some y,
    fun i H => ∃ ys : List V, SqT K H b ys ∧ i ≤ x.cps.size ∧ i ≤ ys.length ∧ (i = x.cps.size ∨ i = ys.length)⟩
theorem turn_zipS {P : Program} {w : World} {K : PySem.W.Frag} {elts : List Expr} {kk : Nat} {tpos : Pos} {x : Str} {t : Tok} {b z TI TO i1 i2 : Addr} (S : ZipSep2 z TI TO i1 i2 [i1] [i2, b]) (hb2 : b ≠ i2) :
    Turn P w K (.Tuple elts kk tpos) (ItzS K x b) [z, TI, TO, i1, i2] z (fun i h => IsZip h z TI TO .none ∧ IsTupOf2 h TI (.ref i1) (.ref i2) ∧ (∃ x y, IsTupOf2 h TO x y) ∧ h.IsStrIter i1 (strIterType x) x t i ∧ h.IsTupleIter i2 b i) where
  mem := by simp
  obj := fun i h st c hc => by
    obtain ⟨hz, hTI, ⟨x, y, hTO⟩, ⟨o1, e1, _, d1⟩, ⟨o2, e2, _, d2⟩⟩ := st
    have e' : c = z ∨ c = TI ∨ c = TO ∨ c = i1 ∨ c = i2 := by simpa using hc
    rcases e' with q | q | q | q | q
    · rw [q]; exact ⟨_, hz, fun v q => nomatch q⟩
    · rw [q]; exact ⟨_, hTI, fun v q => nomatch q⟩
    · rw [q]; exact ⟨_, hTO, fun v q => nomatch q⟩
    · rw [q]; exact ⟨o1, e1, fun v q => by rw [d1] at q; cases q⟩
    · rw [q]; exact ⟨o2, e2, fun v q => by rw [d2] at q; cases q⟩
  keep := fun i h h' st k => by
    obtain ⟨hz, hTI, ⟨x, y, hTO⟩, ⟨o1, e1, r1⟩, h2⟩ := st
    exact ⟨k z (by simp) _ hz, k TI (by simp) _ hTI, ⟨x, y, k TO (by simp) _ hTO⟩, ⟨o1, k i1 (by simp) o1 e1, r1⟩, h2.at fun o q => k i2 (by simp) o q⟩
  item := by
    intro X hP hw hK hc i pins s σ H E I hf st hg
    subst hP hw hK
    obtain ⟨hz, hTI, ⟨x0, y0, hTO⟩, h1, h2⟩ := st
    obtain ⟨ys, c, y, hqy, hx, hy⟩ := hg
    obtain ⟨its2, rv2, p2, _⟩ := I.tuple hqy
    obtain ⟨u2, hu2, ru2⟩ := rv2.get hy
    have hzl : z < s.heap.objs.size := Heap.lt_size hz
    have hh : X.A.in1.handled = none := I.ok.hd hc
    have hi1 : i < x.cps.size := by
      rcases Nat.lt_or_ge i x.cps.size with q | q
      · exact q
      · rw [Array.getElem?_eq_none q] at hx
        cases hx
    have hi2 : i < its2.toArray.size := by
      have := (List.getElem?_eq_some_iff.mp hu2).1
      simpa using this
    refine wpAny_pyNext_zipD2_item S (Draws.text hh i1 x t) (Draws.tuple hh i2 b hb2 its2.toArray) hz hTI hTO h1 ⟨h2, p2⟩ hi1 hi2 fun v1 v2 h' tk q1 q2 z' TO' h1' h2' hT hsz hk => ?_
    obtain ⟨c', t', hc', e1⟩ := q1
    have ec : c' = c := Option.some.inj (hc'.symm.trans hx)
    subst ec e1
    have e2 : v2 = u2 := by
      have z1 : its2.toArray[i]? = some v2 := q2
      have z2 : its2.toArray[i]? = some u2 := by simpa using hu2
      exact Option.some.inj (z1.symm.trans z2)
    subst e2
    refine ⟨_, rfl, wpAny_letOwnedTupleGo_zip (s := { s with heap := h', toks := tk }) z' fun h'' z'' sb => ?_⟩
    have hT2 : h''.get? s.heap.objs.size = some { cls := .type "tuple", data := .seq #[.str ⟨#[c']⟩ t', v2] } := (sb.2 _ (Nat.ne_of_gt hzl)).trans hT
    have new : ObjOk X.prog X.w (upd H s.heap.objs.size (.tup [.str ⟨#[c']⟩, y])) h'' s.heap.objs.size (.tup [.str ⟨#[c']⟩, y]) :=
      ⟨by show 2 ≤ sizeLine; decide, [.str ⟨#[c']⟩ t', v2], .cons ⟨_, rfl⟩ (.cons ru2 .nil), ⟨_, hT2, rfl, _, rfl⟩⟩
    have I1 : Inv X pins σ (upd H s.heap.objs.size (.tup [.str ⟨#[c']⟩, y])) { s with heap := h'', toks := tk } :=
      I.turnedNew (t' := tk) (ch := [z, TI, TO, i1, i2]) (fun c o hb q => (sb.2 c (fun q' => hb (by simp [q']))).trans (hk c o (fun q' => hb (by simp [q'])) (fun q' => hb (by simp [q'])) (fun q' => hb (by simp [q'])) (fun q' => hb (by simp [q'])) q)) hf (Nat.le_refl _) new
    refine ⟨.ref s.heap.objs.size, _, I1, rfl, ⟨_, c', y, rfl, I.hok.fresh (Nat.le_refl _), rfl, hx, fun l hl => by rw [I.tuple_inj hl hqy]; exact hy⟩, ⟨z'', ?_, ⟨.str ⟨#[c']⟩ t', v2, ?_⟩, ?_, ?_⟩, fun c hcm => ?_⟩
    · exact (sb.2 _ S.TIz).trans (hk _ _ S.TIz S.TITO S.TIi1 S.TIi2 hTI)
    · exact (sb.2 _ S.TOz).trans TO'
    · obtain ⟨o1, g1, r1⟩ := h1'
      exact ⟨o1, (sb.2 _ S.zi1.symm).trans g1, r1⟩
    · exact h2'.1.at fun o q => (sb.2 _ S.zi2.symm).trans q
    · have hlt : c < s.heap.objs.size := by
        have e' : c = z ∨ c = TI ∨ c = TO ∨ c = i1 ∨ c = i2 := by simpa using hcm
        rcases e' with q | q | q | q | q
        · rw [q]; exact hzl
        · rw [q]; exact Heap.lt_size hTI
        · rw [q]; exact Heap.lt_size hTO
        · rw [q]; obtain ⟨_, e1, _⟩ := h1; exact Heap.lt_size e1
        · rw [q]; obtain ⟨_, e2, _⟩ := h2; exact Heap.lt_size e2
      rw [upd_ne (Nat.ne_of_lt hlt)]
      exact (hf c hcm).1
  done := by
    intro X hP hw hK hc i pins s σ H E I hf st hg
    subst hP hw hK
    obtain ⟨hz, hTI, ⟨x0, y0, hTO⟩, h1, h2⟩ := st
    obtain ⟨ys, hqy, le1, le2, hend⟩ := hg
    obtain ⟨its2, rv2, p2, _⟩ := I.tuple hqy
    have l2 := rv2.length
    have hs2 : its2.toArray.size = ys.length := by simp [l2]
    have hh : X.A.in1.handled = none := I.ok.hd hc
    refine wpAny_pyNext_zipD2_end S (Draws.text hh i1 x t) (Draws.tuple hh i2 b hb2 its2.toArray) hz hTI hTO h1 ⟨h2, p2⟩ le1 (by omega) (by omega) fun h' tk hk => ⟨rfl, I.turnedL (t' := tk) (ch := [z, TI, TO, i1, i2]) (fun c o hb q =>
      hk c o (fun q' => hb (by simp [q'])) (fun q' => hb (by simp [q'])) (fun q' => hb (by simp [q'])) (fun q' => hb (by simp [q'])) q) hf⟩
  self := fun A i s Q E st h => wpAny_pyIter_zip st.1 h
def iZipS (K : PySem.W.Frag) (ta : TA) : TI := fun σ H R => ta σ H fun vs H1 => ∃ x b ys, vs = [.str x, .ref b] ∧ SqT K H1 b ys ∧ R (ItzS K x b) H1
theorem pi_zipS {X : Cx} {e e2 : Expr} {ta : TA} {p pos tpos : Pos} {elts : List Expr} {kk : Nat} (hg : Gl X "zip") (hm : X.mg "zip" = none) (ha : PA X [e, e2] ta)
    (hs : starEach [e, e2] X.env = (false, eval e X.env) :: starEach [e2] X.env := by rfl) (hpl : (backTo pos (starEach [e2] X.env)).any (·.1) = false := by rfl) :
    PI X (.Tuple elts kk tpos) (.Call (.Name "zip" p) [e, e2] [] pos) (iZipS X.K ta) := by
  refine ⟨fun pins s σ H R I h => ?_⟩
  refine Call_ (ld_blt I hg hm PyProof.Rows.boot_zip (PyProof.Rows.callWith_type1 (thn (ha.run pos pins s σ H _ I h) fun us s1 ⟨vs, H1, I1, r1, q1⟩ => ?_) hs hpl))
  obtain ⟨x, b, ys, ex, hqy, q⟩ := q1
  subst ex
  cases r1 with
  | cons r rr =>
    cases rr with
    | cons r' rr =>
      cases rr
      obtain ⟨t, rfl⟩ := r
      cases r'
      have fresh5 : ∀ c, c ∈ [s1.heap.objs.size + 4, s1.heap.objs.size + 2, s1.heap.objs.size + 3, s1.heap.objs.size, s1.heap.objs.size + 1] → FpOk X pins H1 c := fun c hcm => by
        have e' : c = s1.heap.objs.size + 4 ∨ c = s1.heap.objs.size + 2 ∨ c = s1.heap.objs.size + 3 ∨ c = s1.heap.objs.size ∨ c = s1.heap.objs.size + 1 := by simpa using hcm
        have hle : s1.heap.objs.size ≤ c := by
          rcases e' with z | z | z | z | z
          · rw [z]; exact Nat.le_add_right _ _
          · rw [z]; exact Nat.le_add_right _ _
          · rw [z]; exact Nat.le_add_right _ _
          · rw [z]; exact Nat.le_refl _
          · rw [z]; exact Nat.le_add_right _ _
        exact I1.fpOk hle (I1.hok.fresh hle)
      obtain ⟨its2, rv2, p2, _⟩ := I1.tuple hqy
      obtain ⟨o2, ho2, _⟩ := id p2
      have hb : b < s1.heap.objs.size := Heap.lt_size ho2
      refine zip_begins2 (begins_text x t) (begins_tuple b its2.toArray) True.intro p2 fun h' hz hTI hTO g1 g2 hsz hk => wpAny_pyIter_zip hz ?_
      have I2 : Inv X pins σ H1 { s1 with heap := h' } := I1.kept (t' := s1.toks) hk
      have S : ZipSep2 (s1.heap.objs.size + 4) (s1.heap.objs.size + 2) (s1.heap.objs.size + 3) s1.heap.objs.size (s1.heap.objs.size + 1) [s1.heap.objs.size] [s1.heap.objs.size + 1, b] :=
        zip_sep2 (fun _ z => (by cases z)) (fun c z => by rw [List.mem_singleton.mp z]; exact hb)
      exact ⟨s1.heap.objs.size + 4, [s1.heap.objs.size + 4, s1.heap.objs.size + 2, s1.heap.objs.size + 3, s1.heap.objs.size, s1.heap.objs.size + 1], _, _, H1, rfl, I2,
        turn_zipS (t := t) S (show b ≠ s1.heap.objs.size + 1 from Nat.ne_of_lt (Nat.lt_succ_of_lt hb)), ⟨hz, hTI, ⟨_, _, hTO⟩, ⟨_, g1, rfl, rfl⟩, ⟨_, g2, rfl, rfl⟩⟩, fresh5, q⟩
/-- a loop over zip of a text and a tuple of the same length -/
theorem for_zipS {K : PySem.W.Frag} {x : Str} {b : Addr} {ys : List V} {g : TG} {tb : TS} {D : Ends} {σ : L2.St} {H : Hp} (hl : x.cps.toList.length = ys.length) (Pv : Nat → L2.St → Hp → Prop) (h0 : Pv 0 σ H) (hq : ∀ i σ H, Pv i σ H → SqT K H b ys)
    (hs : ∀ i c y T σ H, x.cps.toList[i]? = some c → ys[i]? = some y → Pv i σ H → H T = none → g (.ref T) σ (upd H T (.tup [.str ⟨#[c]⟩, y])) fun σ2 H2 => tb { D with nx := Pv (i + 1), ct := Pv (i + 1), bk := D.nx } σ2 H2) (hd : ∀ σ H, Pv ys.length σ H → D.nx σ H) :
    ∃ W : Nat → Nat → L2.St → Hp → Prop, (∃ m, W 0 m σ H) ∧ ∀ i m σ H, W i m σ H →
      ((ItzS K x b).stop i H ∧ D.nx σ H) ∨ ((ItzS K x b).go i H ∧ ∃ N : L2.St → Hp → Prop, (∀ σ' H', N σ' H' → ∃ m', m' < m ∧ W (i + 1) m' σ' H') ∧ ∀ v H', (ItzS K x b).yld i H v H' → g v σ H' fun σ2 H2 => tb { D with nx := N, ct := N, bk := D.nx } σ2 H2) := by
  have hz : x.cps.toList.length = x.cps.size := Array.length_toList
  refine ⟨fun i m σ H => m = ys.length - i ∧ i ≤ ys.length ∧ Pv i σ H, ⟨_, rfl, Nat.zero_le _, h0⟩, ?_⟩
  rintro i m σ H ⟨rfl, hi, p⟩
  have q := hq i σ H p
  by_cases hlt : i < ys.length
  · have hc : x.cps[i]? = some (x.cps.toList[i]'(by omega)) := by
      rw [← Array.getElem?_toList]
      exact List.getElem?_eq_getElem _
    refine .inr ⟨⟨ys, _, ys[i], q, hc, List.getElem?_eq_getElem hlt⟩, Pv (i + 1), fun σ' H' p' => ⟨ys.length - (i + 1), by omega, rfl, hlt, p'⟩, fun v H' y => ?_⟩
    obtain ⟨T, c, y, rfl, hT, rfl, h1, h2⟩ := y
    refine hs i c y T σ H ?_ (h2 ys q) p hT
    rw [Array.getElem?_toList]
    exact h1
  · have e : i = ys.length := by omega
    subst e
    exact .inl ⟨⟨ys, q, by omega, Nat.le_refl _, .inr rfl⟩, hd σ H p⟩
/-- the same in a comprehension -/
theorem lc_zipS {K : PySem.W.Frag} {x : Str} {b : Addr} {ys : List V} {g : TG} {tt : TT} {te : TE} {vs : List Nat} {σ : L2.St} {H1 : Hp} {D : Addr} {Qd : Hp → Prop} (hl : x.cps.toList.length = ys.length) (Pv : Nat → Hp → Prop) (h0 : Pv 0 (upd H1 D (.lst []))) (hq : ∀ i H, Pv i H → SqT K H b ys)
    (hs : ∀ i c y T H, x.cps.toList[i]? = some c → ys[i]? = some y → Pv i H → H T = none → g (.ref T) (wipe σ vs) (upd H T (.tup [.str ⟨#[c]⟩, y])) fun σ2 H2 => wipe σ2 vs = wipe σ vs ∧ tt σ2 H2 fun b H3 =>
      if b = true then te σ2 H3 fun y H4 => ∃ acc, H4 D = some (.lst acc) ∧ acc.length < sizeLine ∧ Pv (i + 1) (upd H4 D (.lst (acc ++ [y]))) else Pv (i + 1) H3) (hd : ∀ H, Pv ys.length H → Qd H) :
    ∃ W : Nat → Nat → Hp → Prop, (∃ m, W 0 m (upd H1 D (.lst []))) ∧ ∀ i m H, W i m H →
      ((ItzS K x b).stop i H ∧ Qd H) ∨ ((ItzS K x b).go i H ∧ ∃ Nx : Hp → Prop, (∀ H', Nx H' → ∃ m', m' < m ∧ W (i + 1) m' H') ∧ ∀ v H', (ItzS K x b).yld i H v H' → g v (wipe σ vs) H' fun σ2 H2 => wipe σ2 vs = wipe σ vs ∧ tt σ2 H2 fun b H3 =>
        if b = true then te σ2 H3 fun y H4 => ∃ acc, H4 D = some (.lst acc) ∧ acc.length < sizeLine ∧ Nx (upd H4 D (.lst (acc ++ [y]))) else Nx H3) := by
  have hz : x.cps.toList.length = x.cps.size := Array.length_toList
  refine ⟨fun i m H => m = ys.length - i ∧ i ≤ ys.length ∧ Pv i H, ⟨_, rfl, Nat.zero_le _, h0⟩, ?_⟩
  rintro i m H ⟨rfl, hi, p⟩
  have q := hq i H p
  by_cases hlt : i < ys.length
  · have hc : x.cps[i]? = some (x.cps.toList[i]'(by omega)) := by
      rw [← Array.getElem?_toList]
      exact List.getElem?_eq_getElem _
    refine .inr ⟨⟨ys, _, ys[i], q, hc, List.getElem?_eq_getElem hlt⟩, Pv (i + 1), fun H' p' => ⟨ys.length - (i + 1), by omega, rfl, hlt, p'⟩, fun v H' y => ?_⟩
    obtain ⟨T, c, y, rfl, hT, rfl, h1, h2⟩ := y
    refine hs i c y T H ?_ (h2 ys q) p hT
    rw [Array.getElem?_toList]
    exact h1
  · have e : i = ys.length := by omega
    subst e
    exact .inl ⟨⟨ys, q, by omega, Nat.le_refl _, .inr rfl⟩, hd H p⟩
end Nx

/-! A comprehension whose element may raise. -/
namespace Nx
open PySem PySem.Spec PyProof.Rows L2
/-- a frame is noted by its own address alone -/
theorem note_eq {e1 e2 : Env} (h : e1.frame = e2.frame) (v : Value) : noteFrame v e1 = noteFrame v e2 := by
  unfold noteFrame PySem.frameOf
  rw [h]
theorem frames_but {h1 h2 B B1 : Heap} {C : Addr} (k : ∀ b, b ≠ C → h2.get? b = h1.get? b) (hC : B.get? C ≠ none) (hB : ∀ b, B.get? b = none → B1.get? b = none) :
    ∀ {l : List Env}, h1.FunFrames B l → h2.FunFrames B1 l
  | [], _ => trivial
  | v :: l, x => by
    obtain ⟨x1, ⟨L, ob, x2, x3, x4, x5⟩, x6⟩ := x
    have nL : L ≠ C := fun z => hC (z ▸ x3)
    exact ⟨x1, ⟨L, ob, x2, hB L x3, (k L nL).trans x4, x5⟩, frames_but k hC hB x6⟩
theorem inv_xe {X : Cx} {pins : List (Addr × Obj)} {σ : L2.St} {H : Hp} {s : Shared} (xe : Value → Shared → Prop) (I : Inv X pins σ H s) : Inv { X with xe := xe } pins σ H s := by
  obtain ⟨⟨a1, a2, a3, a4, a5, a6, a7, a8, a9, a10, a11, a12, a13, a14, a15, a16, a17, a18⟩, b1, b2, b3, b4, b5, b6, b7, b8, b9, b10⟩ := I
  exact ⟨⟨a1, a2, a3, a4, a5, a6, a7, a8, a9, a10, a11, a12, a13, a14, a15, a16, a17, a18⟩, b1, b2, b3, b4, b5, b6, b7, b8, b9, b10⟩
theorem blk_raise {X : Cx} {E : XK} {pins pins0 : List (Addr × Obj)} {σ σ0 : L2.St} {H H3 : Hp} {s s3 s' : Shared} {sc : Scope} {fp : List Addr} {ce : Env} {C : Addr} {xe : Value → Shared → Prop} {u : Value} {E2 : Value → Shared → Prop}
    (hst : X.stack = X.env :: X.outer) (hf : X.env.frame = some X.env.locals) (tk : Takes X fun c d _ H => E c d H) (I3 : Inv X pins0 σ0 H3 s3) (hfp : ∀ b ∈ fp, FpOk X pins0 H3 b) (hC : s3.heap.objs.size ≤ C)
    (hce : ce.frame = X.env.frame) (hcl : ce.locals = C) (Ib : Inv { X.blk s3 H3 sc ce fp with xe := xe } pins σ H s) (c : L2.CX X.prog X.w X.stack H s E u s') :
    wpAny (model X.prog X.w) X.A (noteFrame u ce) (fun _ s2 => ∃ m, s2.heap.Ns C m ∧ ∀ h2, Heap.SameBut C s2.heap h2 → ∀ v : Env, v.frame = X.env.frame →
      wpAny (model X.prog X.w) X.A (passOn "comprehension.variables-let-go" u v : Sem Value) (fun _ _ => False) X.xe { s2 with heap := h2 }) E2 s' := by
  obtain ⟨a, B, H', cls, d, rfl, fl, hok, ub, na, os, ag, hE⟩ := c
  have hfr : X.A.frames = some (X.env :: X.outer) := by rw [I3.ok.frames, hst]
  rw [hst] at fl
  rw [note_eq hce]
  refine HandSPX.looks_onZ Zc.steady hfr hf fl fun h1 hh up1 => ?_
  have hbC : H C = none := hcl ▸ Ib.free
  have hCf : C ∉ frs X.stack := fun z => by
    rcases List.mem_cons.mp (I3.stkSub C z) with z | z
    · rw [z] at hC
      exact absurd (Nat.lt_of_lt_of_le I3.lt hC) (Nat.lt_irrefl _)
    · exact I3.nofs hC z
  obtain ⟨m, ⟨ob, es, ep, ho, hd, hr⟩, _⟩ := Ib.loc
  have ho : s.heap.get? C = some ob := hcl ▸ ho
  have hB : B.get? C = some ob := ub.keep C ob ho hbC hCf
  refine ⟨m, ⟨ob, es, ep, hh.1 C ob hB, hd, hr⟩, fun h2 sb2 v hv => ?_⟩
  have b1 : ∀ b o, (PySem.W.hideAll B [C]).get? b = some o → B.get? b = some o ∧ b ≠ C := fun b o q => ⟨PySem.W.of_hideAll _ q, fun z => by
    rw [z, PySem.W.hideAll_none [C] (List.mem_singleton.mpr rfl)] at q
    cases q⟩
  have b2 : ∀ b o, B.get? b = some o → b ≠ C → (PySem.W.hideAll B [C]).get? b = some o := fun b o q n => PySem.W.hideAll_get _ q (fun z => n (List.mem_singleton.mp z))
  have b3 : ∀ b, B.get? b = none → (PySem.W.hideAll B [C]).get? b = none := fun b q => by
    cases r : (PySem.W.hideAll B [C]).get? b with
    | none => rfl
    | some o =>
      rw [(b1 b o r).1] at q
      cases q
  generalize PySem.W.hideAll B [C] = B1 at b1 b2 b3
  obtain ⟨k1, k2, k3, oe, vs, T, oT, ts, he, hz, hdv, hv1, hnT, hTe, hT, hdT, hfl⟩ := hh
  have nC : ∀ b, B.get? b = none → b ≠ C := fun b q z => by
    rw [z, hB] at q
    cases q
  have he2 : h2.get? a = some oe := (sb2.2 a (nC a k2)).trans he
  have hh2 : HandSPX.HeldZ B1 (X.env :: X.outer) a (Zc cls d) X.env.locals h2 :=
    ⟨fun b o q => (sb2.2 b (b1 b o q).2).trans (k1 b o (b1 b o q).1), b3 a k2, frames_but (fun b n => sb2.2 b n) (by rw [hB]; exact fun z => by cases z) b3 k3, oe, vs, T, oT, ts, he2, hz, hdv, hv1, b3 T hnT, hTe, (sb2.2 T (nC T hnT)).trans hT, hdT, hfl⟩
  unfold PySem.passOn
  refine wpAny_bind (wpAny_field he2 hdv hv1 ?_)
  rw [if_neg (show ¬ ((Value.ref T == Value.none) = true) by simp)]
  rw [hv, hf]
  refine wpAny_bind (HandSPX.setFlight_onZ hh2 fun h3 hh3 up3 => ?_)
  refine wpAny_throw (tk _ _ ?_)
  -- what stands without the block's names
  have hid : ∀ b o, (PySem.W.hideAll s.heap [C]).get? b = some o → s.heap.get? b = some o ∧ b ≠ C := fun b o q => ⟨PySem.W.of_hideAll _ q, fun z => by
    rw [z, PySem.W.hideAll_none [C] (List.mem_singleton.mpr rfl)] at q
    cases q⟩
  have hid2 : ∀ b o, s.heap.get? b = some o → b ≠ C → (PySem.W.hideAll s.heap [C]).get? b = some o := fun b o q n => PySem.W.hideAll_get _ q (fun z => n (List.mem_singleton.mp z))
  have old : ∀ b o, s3.heap.get? b = some o → b ≠ C := fun b o q z => by
    rw [z] at q
    exact absurd (Nat.lt_of_lt_of_le (Heap.lt_size q) hC) (Nat.lt_irrefl _)
  have bu : Un (frs X.stack) fp H3 H s3.heap s.heap := Ib.base
  have Ix : Inv X pins0 σ0 H { s with heap := PySem.W.hideAll s.heap [C] } := by
    refine I3.call' (ch := fp) Ib.os ⟨fun b o e n f x => hid2 b o (bu.keep b o e n f x) (old b o e), fun b o e n f x => ?_, bu.free, fun b o e x => ?_, bu.tups, bu.frzs, bu.tbls⟩ (fun b o q => ?_) Ib.bare fun b hb => ⟨(hfp b hb).2.2.2.1, (hfp b hb).2.1, (hfp b hb).2.2.2.2.1, (hfp b hb).2.2.2.2.2⟩
    · obtain ⟨sl, q⟩ := bu.slot b o e n f x
      exact ⟨sl, hid2 b _ q (old b o e)⟩
    · obtain ⟨o', q⟩ := bu.there b o e x
      exact ⟨o', hid2 b _ q (old b o e)⟩
    · refine (Ib.hok b o q).stay (fun c u hc r => hid2 c u r fun z => ?_) (fun _ r => r) fun _ _ r => r
      rcases hc with hc | hc
      · rw [← hc, z, hbC] at q
        cases q
      · rw [z, hbC] at hc
        cases hc
  obtain ⟨G, g1, g2⟩ := restrict h3 fun b => (B1.get? b).isSome || decide (b ∈ frs X.stack)
  have gB : ∀ b o, B1.get? b = some o → G.get? b = some o := fun b o e => by
    rw [g1 b (by simp [e])]
    exact hh3.1 b o e
  have gF : ∀ b, b ∈ frs X.stack → G.get? b = h3.get? b := fun b hb => g1 b (by simp [hb])
  have og : ∀ b o, G.get? b = some o → h3.get? b = some o ∧ ((B1.get? b).isSome = true ∨ b ∈ frs X.stack) := fun b o e => by
    cases q : ((B1.get? b).isSome || decide (b ∈ frs X.stack)) with
    | false =>
      rw [g2 b q] at e
      cases e
    | true =>
      rw [g1 b q] at e
      exact ⟨e, by simpa [Bool.or_eq_true] using q⟩
  have hC' : H' C = none := ub.free C ob ho hbC
  have fs : ∀ b o, s.heap.get? b = some o → b ≠ C → b ∈ frs X.stack → ∃ sl, G.get? b = some { o with slots := sl } := fun b o e n hb => by
    obtain ⟨sl, q⟩ := ub.slot b o e hb
    have nf : ∀ vs, o.data ≠ .fields vs := by
      obtain ⟨_, o2, q2, z⟩ := Ix.stack.mem hb
      have q2 := (hid b o2 q2).1
      rw [e] at q2
      cases q2
      exact z
    obtain ⟨sl1, q1⟩ := up1 b _ q nf
    obtain ⟨sl3, q3⟩ := up3 b _ ((sb2.2 b n).trans q1) nf
    exact ⟨sl3, by rw [gF b hb]; exact q3⟩
  refine ⟨a, B1, { s with heap := G, gens := s'.gens, drawn := s'.drawn, toks := s'.toks }, pins0, σ0, H', cls, d, rfl, ?_, fun b o e hb => ?_, Heap.UpToSlots.of_keeps fun b o e => (og b o e).1, .inr (.inr (by rw [hst]; exact hh3)), na, os, ag, hE⟩
  · refine L2.Inv.call (s := { s with heap := PySem.W.hideAll s.heap [C] }) (ch := []) Ix ⟨fun b o e n hb _ => gB b o (b2 b o (ub.keep b o (hid b o e).1 n hb) (hid b o e).2), fun b o e n hb _ => fs b o (hid b o e).1 (hid b o e).2 hb, fun b o e n _ => ub.free b o (hid b o e).1 n, fun b o e _ => ?_, ub.tups, ub.frzs, ub.tbls⟩ (fun b o q => ?_) ag (fun _ z => nomatch z)
    · by_cases hb : b ∈ frs X.stack
      · obtain ⟨sl, q⟩ := fs b o (hid b o e).1 (hid b o e).2 hb
        exact ⟨_, q⟩
      · obtain ⟨o', q⟩ := ub.there b o (hid b o e).1 hb
        exact ⟨o', gB b o' (b2 b o' q (hid b o e).2)⟩
    · refine (hok b o q).stay (fun c u hc r => gB c u (b2 c u r fun z => ?_)) (fun _ r => r) fun _ _ r => r
      rcases hc with hc | hc
      · rw [← hc, z, hC'] at q
        cases q
      · rw [z, hC'] at hc
        cases hc
  · obtain ⟨e', h⟩ := og b o e
    rcases h with h | h
    · obtain ⟨o', q⟩ := Option.isSome_iff_exists.mp h
      have z := hh3.1 b o' q
      rw [e'] at z
      cases z
      exact q
    · exact absurd h hb
/-- what stands behind a block: its end, or what it let out -/
def postE (M : Model) (A : Around) (E : Value → Shared → Prop) (use : Option (Value → Sem Unit)) (Q : Value → Shared → Prop) (acc : Value) (ce : Env) (r : Result) (s' : Shared) : Prop :=
  match r with
  | .ok f => compPost M A E use Q acc ce.locals (.ok f) s'
  | .error x => ∃ m, s'.heap.Ns ce.locals m ∧ ∀ h2, Heap.SameBut ce.locals s'.heap h2 → ∀ v : Env, v.frame = ce.frame →
      wpAny M A (passOn "comprehension.variables-let-go" x v : Sem Value) (fun _ _ => False) E { s' with heap := h2 }
theorem comp_freeE {M : Model} {A : Around} {E : Value → Shared → Prop} {s : Shared} {env : Env} {e : Expr} {scope : Scope} {pos : Pos} {newAcc first : Sem Value} {g : Comprehension} {gs : List Comprehension} {cl : List (Str × Addr)}
    {use : Option (Value → Sem Unit)} {Q : Value → Shared → Prop} (c1 : clausesOf e = g :: gs) (c2 : ∀ x, foldedSetIterable g.iter env x = pure x) (c3 : closureFor scope env = pure cl) (c4 : scope.kind = .function)
    (c5 : ∀ x ∈ scope.names, x.2 = .local → scope.names.lookup x.1 = some .local)
    (h : wpAny M A first (fun x t1 => wpAny M A (pyIter x) (fun it t2 => wpAny M A newAcc (fun acc t3 => wpAny M A (newFunctionEnv scope env.globals cl [] env.qual none .none (some env)) (fun ce t4 =>
      codeAny M A (.compStart e 0 it acc { ce with scope := relabel scope env }) (postE M A E use Q acc ce) t4) E t3) E t2) E t1) E s) :
    wpAny M A (comprehension e scope env pos newAcc false first use) Q E s := by
  have keep : ∀ (v : Value) (t : Shared), E v t → E v t := fun _ _ y => y
  unfold comprehension
  rw [c3, c1]
  apply wpAny_bind
  refine wpAny_mono h (fun x t1 h1 => ?_) keep
  apply wpAny_bind
  apply wpAny_standAt
  apply wpAny_bind
  refine wpAny_of_eq (c2 x) ?_
  apply wpAny_bind
  apply wpAny_holding
  refine wpAny_mono h1 (fun it t2 h2 => ?_) keep
  apply wpAny_standIf
  apply wpAny_bind
  refine wpAny_mono h2 (fun acc t3 h3 => ?_) keep
  apply wpAny_bind
  apply wpAny_pure
  apply wpAny_bind
  refine wpAny_mono h3 (fun ce t4 h4 => ?_) keep
  dsimp only
  have own : ∀ x ∈ (scope.names.filter fun x => (x.2 == .local || x.2 == .cell) && x.1 != (".0" : Str)).reverse, x.2 = .local →
      Env.kindOf { ce with scope := relabel scope env } x.1 = some .local := fun x hx hl => by
    have hm := (List.mem_filter.mp (List.mem_reverse.mp hx)).1
    exact lookup_relabel_local (c5 x hm hl)
  apply wpAny_holding
  apply wpAny_bind
  apply wpAny_attempt
  apply wpAny_holding
  refine wpAny_run (codeAny_mono h4 fun r t hr => ?_)
  cases r with
  | ok f =>
    have hr : compPost M A E use Q acc ce.locals (.ok f) t := hr
    cases use with
    | none =>
      obtain ⟨m, hn, hq⟩ := hr
      apply wpAny_bind
      apply wpAny_holding
      refine wpAny_comp_letGo (cenv := { ce with scope := relabel scope env }) c4 _ t m own hn fun h2 m2 _ sb => ?_
      exact wpAny_pure (hq h2 sb)
    | some u =>
      apply wpAny_bind
      apply wpAny_rule
      apply wpAny_bind
      apply wpAny_holding
      refine wpAny_mono hr (fun _ t5 hq => ?_) keep
      obtain ⟨m, hn, hq⟩ := hq
      apply wpAny_bind
      refine wpAny_comp_letGo (cenv := { ce with scope := relabel scope env }) c4 _ t5 m (fun x hx => ?_) hn fun h2 m2 _ sb => wpAny_pure (hq h2 sb)
      refine own x ?_
      rcases List.mem_append.mp hx with z | z
      · exact List.mem_of_mem_drop z
      · exact List.mem_of_mem_take z
  | error x =>
    obtain ⟨m, hn, hq⟩ := hr
    apply wpAny_bind
    apply wpAny_holding
    refine wpAny_comp_letGo (cenv := { ce with scope := relabel scope env }) c4 _ t m own hn fun h2 m2 _ sb => ?_
    exact wpAny_mono (hq h2 sb _ rfl) (fun _ _ z => z.elim) keep
theorem lc_coreE {X : Cx} {E : XK} {pins : List (Addr × Obj)} {s : Shared} {σ : L2.St} {H : Hp} {Q : VK} {elt tg iter : Expr} {ifs : List Expr} {scope : Scope} {own : List (Str × Nat)} {pos pos' : Pos} {wi : TI} {g : TG} {tt : TT} {te : TE}
    {use : Option (Value → Sem Unit)} {Qf : Value → Shared → Prop} (hst : X.stack = X.env :: X.outer) (hf : X.env.frame = some X.env.locals) (tk : Takes X fun c d _ H => E c d H)
    (hc : X.calm = true) (hN : X.N.Nodup) (I : Inv X pins σ H s) (hi : PI X tg iter wi) (ok : BlkOk X.N X.env.scope scope own)
    (hg : ∀ (t : Shared) (H : Hp) (C : Addr) (cl : List (Str × Addr)) (fp : List Addr), PG (X.blk t H scope (compEnvC scope cl C X.env) fp) tg g)
    (ht : ∀ (t : Shared) (H : Hp) (C : Addr) (cl : List (Str × Addr)) (fp : List Addr), PTs (X.blk t H scope (compEnvC scope cl C X.env) fp) ifs tt)
    (he : ∀ (t : Shared) (H : Hp) (C : Addr) (cl : List (Str × Addr)) (fp : List Addr) (xe : Value → Shared → Prop), (∀ σ, PassesAt (L2.CX X.prog X.w) { X.blk t H scope (compEnvC scope cl C X.env) fp with xe := xe } σ E) →
      PE { X.blk t H scope (compEnvC scope cl C X.env) fp with xe := xe } elt te)
    (hs : ∀ x, foldedSetIterable iter X.env x = pure x) (h : tLc wi g tt te (own.map (·.2)) σ H Q)
    (hRR : ∀ D C t m H', Inv X pins σ H' t → Q (.ref D) H' → t.heap.Ns C m → FpOk X pins H' C → compPost (model X.prog X.w) X.A X.xe use Qf (.ref D) C (.ok .next) t) :
    wpAny (model X.prog X.w) X.A (comprehension (.ListComp elt [⟨tg, iter, ifs, 0⟩] scope pos) scope X.env pos' (newList []) false (eval iter X.env) use) Qf X.xe s := by
  have hfree : ∀ y ∈ scope.names, y.2 = .free → ∃ c, X.env.cells.lookup y.1 = some c := fun y hy e => by
    rcases ok.free y hy e with k | k
    · exact I.ok.has _ (.inl k)
    · exact I.ok.has _ (.inr k)
  refine comp_freeE (use := use) rfl hs (closure_ok hfree) ok.kind (fun y hy e => by rw [ok.uniq y hy, e]) ?_
  refine thn (hi.run pins s σ H _ I h) fun xv s1 hx => thn hx fun itv s2 h2 => ?_
  obtain ⟨it, fp, tn, J, H2, rfl, I2, T, st2, f2, q⟩ := h2
  refine wpAny_newObj_type (newEnv_comp ?_) (by show 0 ≤ sizeLine; decide)
  generalize hD : s2.heap.objs.size = D
  have hDn : H2 D = none := I2.hok.fresh (Nat.le_of_eq hD)
  obtain ⟨W, ⟨m0, w0⟩, turn⟩ := q D hDn
  generalize hs3 : ({ s2 with heap := s2.heap.push { cls := .type "list", data := .seq ([] : List Value).toArray } } : Shared) = s3
  have h3 : s3.heap = s2.heap.push { cls := .type "list", data := .seq ([] : List Value).toArray } := by rw [← hs3]
  have I3 : Inv X pins σ (upd H2 D (.lst [])) s3 := by
    rw [← hs3]
    refine I2.laid (t' := s2.toks) (fun b o e => Heap.get?_push_of_some _ e) (Nat.le_of_eq hD) ⟨Nat.zero_le _, [], 0, .nil, ?_⟩
    rw [← hD]
    exact Heap.get?_push_size _ rfl
  have f3 : ∀ b ∈ fp, FpOk X pins (upd H2 D (.lst [])) b ∧ b < s3.heap.objs.size := fun b hb => by
    obtain ⟨o, e, _⟩ := T.obj _ _ st2 b hb
    have hlt := Heap.lt_size e
    refine ⟨⟨?_, (f2 b hb).2⟩, by rw [h3, Heap.size_push]; exact Nat.lt_succ_of_lt hlt⟩
    rw [upd_ne (by rw [← hD]; exact Nat.ne_of_lt hlt)]
    exact (f2 b hb).1
  have st3 : tn 0 s3.heap := T.keep _ _ _ st2 fun b _ o e => by
    rw [h3]
    exact Heap.get?_push_of_some _ e
  have I4 := block_start I3 ok hN f3
  have nfp : ∀ b ∈ fp, (upd H2 D (.lst [])) b = none := fun b hb => (f3 b hb).1.1
  -- the block's names, its context
  obtain ⟨e0, he0⟩ : ∃ e0 : Env, e0 = newEnv scope s3.heap.objs.size X.env.globals (cellsFrom (s3.heap.objs.size + 1) scope.names (cloFrom X.env.cells scope.names [])) X.env.qual none .none (some X.env) X.env.builtins := ⟨_, rfl⟩
  have l0 : e0.locals = s3.heap.objs.size := by
    rw [he0]
    rfl
  have r0 : e0.frame = X.env.frame := by
    rw [he0]
    rfl
  show codeAny _ _ (.compStart (.ListComp elt [⟨tg, iter, ifs, 0⟩] scope pos) 0 (.ref it) (.ref D) (compEnvC scope (cellsFrom (s3.heap.objs.size + 1) scope.names (cloFrom X.env.cells scope.names [])) s3.heap.objs.size X.env))
    (postE (model X.prog X.w) X.A X.xe use Qf (.ref D) (newEnv scope s3.heap.objs.size X.env.globals (cellsFrom (s3.heap.objs.size + 1) scope.names (cloFrom X.env.cells scope.names [])) X.env.qual none .none (some X.env) X.env.builtins)) { s3 with heap := pushCells (s3.heap.push { cls := .type "dict", data := .dict #[] }) scope.names }
  rw [← he0]
  have pg := hg s3 (upd H2 D (.lst [])) s3.heap.objs.size (cellsFrom (s3.heap.objs.size + 1) scope.names (cloFrom X.env.cells scope.names [])) fp
  have pt := ht s3 (upd H2 D (.lst [])) s3.heap.objs.size (cellsFrom (s3.heap.objs.size + 1) scope.names (cloFrom X.env.cells scope.names [])) fp
  have pe := he s3 (upd H2 D (.lst [])) s3.heap.objs.size (cellsFrom (s3.heap.objs.size + 1) scope.names (cloFrom X.env.cells scope.names [])) fp
  generalize hce : compEnvC scope (cellsFrom (s3.heap.objs.size + 1) scope.names (cloFrom X.env.cells scope.names [])) s3.heap.objs.size X.env = ce at I4 pg pt pe ⊢
  have cL : ce.locals = s3.heap.objs.size := by
    subst hce
    rfl
  have cF : ce.frame = X.env.frame := by
    subst hce
    rfl
  generalize hH3 : upd H2 D (.lst []) = H3 at I3 I4 pg pt pe w0 nfp f3
  generalize hs4 : ({ s3 with heap := pushCells (s3.heap.push { cls := .type "dict", data := .dict #[] }) scope.names } : Shared) = s4 at I4 ⊢
  have st4 : tn 0 s4.heap := T.keep _ _ _ st3 fun b _ o e => by
    rw [← hs4]
    exact pushCells_keeps _ _ _ _ (Heap.get?_push_of_some _ e)
  have stat : ∀ {σ' : L2.St} {H' : Hp} {s' : Shared}, Inv (X.blk s3 H3 scope ce fp) [] σ' H' s' → (∀ b ∈ fp, H' b = none) → ∀ b ∈ fp, FpOk (X.blk s3 H3 scope ce fp) [] H' b := fun {σ' H' s'} J hn b hb =>
    ⟨hn b hb, (J.ok.exf b hb).1, J.ok.exfs b hb, .inl hb, fun x c e => (J.ok.exf b hb).2 x c e, fun p hp => absurd (show p ∈ ([] : List (Addr × Obj)) ++ [] from hp) (by simp)⟩
  have pe := pe (notedBy (model X.prog X.w) X.A ce fun e s' => postE (model X.prog X.w) X.A X.xe use Qf (.ref D) e0 (.error e) s') fun τ pins' Hb sb u s' J c => by
    have z := blk_raise (E2 := fun e s' => postE (model X.prog X.w) X.A X.xe use Qf (.ref D) e0 (.error e) s') hst hf tk I3 (fun b hb => (f3 b hb).1) (Nat.le_refl _) cF cL J c
    refine wpAny_mono z (fun _ s5 q5 => ?_) fun _ _ y => y
    obtain ⟨m, hn, q5⟩ := q5
    refine ⟨m, by rw [l0]; exact hn, fun h2 sb2 v hv => q5 h2 (by rw [l0] at sb2; exact sb2) v (hv.trans r0)⟩
  have loop : codeAny (model X.prog X.w) X.A (.compLoop (.ListComp elt [⟨tg, iter, ifs, 0⟩] scope pos) 0 (.ref it) (.ref D) ce) (postE (model X.prog X.w) X.A X.xe use Qf (.ref D) e0) s4 := by
    refine compLoop_any (fun n s' => ∃ i H', Inv (X.blk s3 H3 scope ce fp) [] (wipe σ (own.map (·.2))) H' s' ∧ tn i s'.heap ∧ (∀ b ∈ fp, H' b = none) ∧ W i n H') ?_ m0 ⟨0, H3, I4, st4, nfp, w0⟩
    rintro n s5 ⟨i, H5, I5, st5, n5, w5⟩
    rcases turn i n H5 w5 with ⟨stop, qq⟩ | ⟨go, Nx, hNx, step⟩
    · refine thnF (T.done (X.blk s3 H3 scope ce fp) rfl rfl rfl hc i [] s5 _ H5 (fun _ _ => False) I5 (stat I5 n5) st5 stop) fun r s6 ⟨hr, I6⟩ => ?_
      subst hr
      have I7 : Inv X pins σ H5 s6 := I3.call' (ch := fp) I6.os I6.base I6.hok I6.bare fun b hb =>
        ⟨(f3 b hb).1.2.2.2.1, (f3 b hb).1.2.1, (f3 b hb).1.2.2.2.2.1, (f3 b hb).1.2.2.2.2.2⟩
      have nC : H5 s3.heap.objs.size = none := by
        have z : H5 ce.locals = none := I6.free
        rw [cL] at z
        exact z
      obtain ⟨m, hn, _⟩ := I6.loc
      have hn : s6.heap.Ns ce.locals m := hn
      rw [cL] at hn
      show compPost _ _ _ _ _ _ e0.locals _ _
      rw [l0]
      exact hRR D s3.heap.objs.size s6 m H5 I7 qq hn (I3.fpOk (Nat.le_refl _) nC)
    · refine thnF (T.item (X.blk s3 H3 scope ce fp) rfl rfl rfl hc i [] s5 _ H5 (fun _ _ => False) I5 (stat I5 n5) st5 go) fun r s6 ⟨u, hr, h6⟩ => ?_
      subst hr
      refine thnF h6 fun _ s7 ⟨x, H7, I7, r7, y7, st7, n7⟩ => ?_
      have I7' := I7.pinned (stat I7 n7) (T.obj _ _ st7)
      refine thnF (pg.run _ s7 _ H7 x u _ I7' r7 (step x H7 y7)) fun _ s8 ⟨σ8, H8, I8, hw8, q8⟩ => ?_
      refine thnF (pt.run _ s8 σ8 H8 _ I8 q8) fun b s9 ⟨H9, I9, q9⟩ => ?_
      have fin : ∀ {s' : Shared} {H' : Hp}, Inv (X.blk s3 H3 scope ce fp) ([] ++ pinsAt fp s7.heap) σ8 H' s' → Nx H' →
          ∃ m, m < n ∧ ∃ i H', Inv (X.blk s3 H3 scope ce fp) [] (wipe σ (own.map (·.2))) H' s' ∧ tn i s'.heap ∧ (∀ b ∈ fp, H' b = none) ∧ W i m H' := fun {s' H'} J nx => by
        obtain ⟨m', hm, w'⟩ := hNx H' nx
        have pin' : ∀ b ∈ fp, ∀ o, s7.heap.get? b = some o → s'.heap.get? b = some o ∧ H' b = none := fun b hb o e => by
          have z := J.pin (b, o) (List.mem_append_right _ (List.mem_append_right _ (mem_pinsAt hb e)))
          exact ⟨z.1, z.2.1⟩
        have hl : (wipe σ (own.map (·.2))).length = σ8.length := by rw [← hw8, wipe_length]
        refine ⟨m', hm, i + 1, H', (J.unpinned (pins := [])).weak hl (fun j v e => ?_), T.keep _ _ _ st7 fun b hb o e => (pin' b hb o e).1, fun b hb => ?_, w'⟩
        · rw [← hw8] at e
          exact (wipe_some e).1
        · obtain ⟨o, e, _⟩ := T.obj _ _ st7 b hb
          exact (pin' b hb o e).2
      cases b with
      | false =>
        simp only [Bool.false_eq_true, if_false] at q9 ⊢
        exact fin I9 q9
      | true =>
        simp only [if_true] at q9 ⊢
        refine thn (pe.run _ s9 σ8 H9 _ (inv_xe _ I9) q9) fun z s10 ⟨yv, H10, I10, r10, acc, hD10, hz10, nx⟩ => ?_
        exact app_ok (X := X.blk s3 H3 scope ce fp) (inv_xe (fun _ _ => False) I10) hD10 hz10 r10 fun s11 I11 => fin I11 nx
  exact codeAny_compStart_list loop (T.self X.A 0 _ _ _ st4 loop)
/-- as a value -/
theorem pe_lcE {X : Cx} {E : XK} {elt tg iter : Expr} {ifs : List Expr} {scope : Scope} {own : List (Str × Nat)} {pos : Pos} {wi : TI} {g : TG} {tt : TT} {te : TE}
    (hst : X.stack = X.env :: X.outer) (hf : X.env.frame = some X.env.locals) (tk : Takes X fun c d _ H => E c d H) (hc : X.calm = true) (hN : X.N.Nodup) (hi : PI X tg iter wi) (ok : BlkOk X.N X.env.scope scope own)
    (hg : ∀ (t : Shared) (H : Hp) (C : Addr) (cl : List (Str × Addr)) (fp : List Addr), PG (X.blk t H scope (compEnvC scope cl C X.env) fp) tg g)
    (ht : ∀ (t : Shared) (H : Hp) (C : Addr) (cl : List (Str × Addr)) (fp : List Addr), PTs (X.blk t H scope (compEnvC scope cl C X.env) fp) ifs tt)
    (he : ∀ (t : Shared) (H : Hp) (C : Addr) (cl : List (Str × Addr)) (fp : List Addr) (xe : Value → Shared → Prop), (∀ σ, PassesAt (L2.CX X.prog X.w) { X.blk t H scope (compEnvC scope cl C X.env) fp with xe := xe } σ E) →
      PE { X.blk t H scope (compEnvC scope cl C X.env) fp with xe := xe } elt te)
    (hs : ∀ x, foldedSetIterable iter X.env x = pure x := by intro _; rfl) : PE X (.ListComp elt [⟨tg, iter, ifs, 0⟩] scope pos) (tLc wi g tt te (own.map (·.2))) := by
  refine ⟨fun pins s σ H Q I h => ?_⟩
  rw [eval_ListComp]
  refine lc_coreE hst hf tk hc hN I hi ok hg ht he hs h fun D C t m H' J q hn f => ⟨m, hn, fun h2 sb => ?_⟩
  obtain ⟨f0, f1, f2, f3, f4, f5⟩ := f
  exact ⟨.ref D, H', J.turned (t' := t.toks) (fun b o hb e => (sb.2 b hb).trans e) f0 f1 f3 f4 f5, rfl, q⟩
/-- name = [..] on one line -/
theorem ps_setLcE {X : Cx} {E : XK} {i : Nat} {y : Str} {py : Pos} {elt tg iter : Expr} {ifs : List Expr} {scope : Scope} {own : List (Str × Nat)} {pos spos : Pos} {wi : TI} {g : TG} {tt : TT} {te : TE}
    (hst : X.stack = X.env :: X.outer) (hf : X.env.frame = some X.env.locals) (tk : Takes X fun c d _ H => E c d H) (hc : X.calm = true) (hN : X.N.Nodup) (hy : X.N[i]? = some y) (hyl : X.env.scope.names.lookup y = some .local)
    (hsw : swapsWith (.ListComp elt [⟨tg, iter, ifs, 0⟩] scope pos) (some (.Name y py)) spos.line X.env = pure true) (hi : PI X tg iter wi) (ok : BlkOk X.N X.env.scope scope own)
    (hg : ∀ (t : Shared) (H : Hp) (C : Addr) (cl : List (Str × Addr)) (fp : List Addr), PG (X.blk t H scope (compEnvC scope cl C X.env) fp) tg g)
    (ht : ∀ (t : Shared) (H : Hp) (C : Addr) (cl : List (Str × Addr)) (fp : List Addr), PTs (X.blk t H scope (compEnvC scope cl C X.env) fp) ifs tt)
    (he : ∀ (t : Shared) (H : Hp) (C : Addr) (cl : List (Str × Addr)) (fp : List Addr) (xe : Value → Shared → Prop), (∀ σ, PassesAt (L2.CX X.prog X.w) { X.blk t H scope (compEnvC scope cl C X.env) fp with xe := xe } σ E) →
      PE { X.blk t H scope (compEnvC scope cl C X.env) fp with xe := xe } elt te)
    (hs : ∀ x, foldedSetIterable iter X.env x = pure x := by intro _; rfl) : PS X (.Assign [.Name y py] (.ListComp elt [⟨tg, iter, ifs, 0⟩] scope pos) spos) (tAsg (tLc wi g tt te (own.map (·.2))) (gName i)) := by
  refine ⟨fun pins s σ H D I h => ?_⟩
  rw [exec_Assign_Name_used _ _ _ _ hsw]
  apply wpAny_bind
  apply wpAny_standAt
  apply wpAny_bind
  show wpAny _ X.A (do let _ ← comprehension (.ListComp elt [⟨tg, iter, ifs, 0⟩] scope pos) scope X.env (firstIterPos [⟨tg, iter, ifs, 0⟩] pos) (newList []) false (eval iter X.env) (some (assign (.Name y py) X.env))) _ _ s
  have h : tLc wi g tt te (own.map (·.2)) σ H (fun x H1 => gName i x σ H1 D.nx) := h
  apply wpAny_bind
  refine thn (lc_coreE (Qf := fun _ t => SP X pins D .next t) hst hf tk hc hN I hi ok hg ht he hs h fun L C t m H' J q hn f => ?_) fun _ t hq => wpAny_pure (wpAny_pure hq)
  show wpAny _ _ (assign (.Name y py) X.env (.ref L)) _ _ _
  refine wpAny_assign_Name (store_ok2 (v := V.ref L) J hN hy (.inl hyl) rfl (fun t2 J2 z => ?_) (.inr hyl))
  obtain ⟨a, sb, ha⟩ := z
  obtain ⟨f0, f1, f2, f3, f4, f5⟩ := f
  have haC : C ≠ a := by
    rcases ha with z | z
    · rw [z]
      exact f1
    · exact fun e => f4 y a z e.symm
  refine ⟨m, hn.sameBut sb haC, fun h3 sb3 => ⟨_, H', J2.turned (t' := t2.toks) (fun b o hb e => (sb3.2 b hb).trans e) f0 f1 f3 f4 f5, q⟩⟩
end Nx

/-! Several except clauses, with a name or without. -/
namespace Nx
open PySem PySem.Spec PyProof.Rows L2
/-- a clause: its class, the slot of its name, its suite -/
abbrev Clz := Value × Option Nat × (Addr → Value → Option Addr → TS)
/-- the ends of a suite behind which slot i is forgotten -/
def endsWo (D : Ends) (i : Nat) : Ends := { nx := fun σ H => D.nx (σ.set i none) H, rt := D.rt, bk := fun σ H => D.bk (σ.set i none) H, ct := fun σ H => D.ct (σ.set i none) H }
def clzTS (D : Ends) (z : Clz) (a : Addr) (cls : Value) (d : Option Addr) (σ : L2.St) (H : Hp) : Prop := match z.2.1 with
  | none => z.2.2 a cls d D σ H
  | some i => z.2.2 a cls d (endsWo D i) (σ.set i (some (.ref a))) H
def wClz (K : PySem.W.Frag) (Wout : WX) (D : Ends) : List Clz → WX
  | [] => Wout
  | z :: r => fun cls d σ H => ∃ b, PySem.W.exmOne K cls z.1 = some b ∧ (b = true → ∀ a, H a = none → clzTS D z a cls d σ H) ∧ (b = false → wClz K Wout D r cls d σ H)
inductive Clauses (X : Cx) : List ExceptHandler → List Clz → Prop where
  | nil : Clauses X [] []
  | only {x : Str} {c : Value} {ts : Addr → Value → Option Addr → TS} {b0 : Stmt} {bs : List Stmt} {p1 p2 : Pos} {hs : List ExceptHandler} {l : List Clz} (hc : Names X x c)
      (su : ∀ (a : Addr) (oe : Obj) (cls : Value) (d : Option Addr) (pn : List (Addr × Obj)), Zc cls d oe → (∃ vs, oe.data = .fields vs) → PSs (X.suite a ((a, oe) :: pn)) (b0 :: bs) (ts a cls d)) (r : Clauses X hs l) :
      Clauses X (.ExceptHandler (some (.Name x p1)) none (b0 :: bs) p2 :: hs) ((c, none, ts) :: l)
  | as {x n : Str} {i : Nat} {c : Value} {ts : Addr → Value → Option Addr → TS} {b0 : Stmt} {bs : List Stmt} {p1 p2 : Pos} {hs : List ExceptHandler} {l : List Clz} (hi : X.N[i]? = some n) (hl : X.env.kindOf n = some .local) (hc : Names X x c)
      (su : ∀ (a : Addr) (oe : Obj) (cls : Value) (d : Option Addr) (pn : List (Addr × Obj)), Zc cls d oe → (∃ vs, oe.data = .fields vs) → PSs (X.suite a ((a, oe) :: pn)) (b0 :: bs) (ts a cls d)) (r : Clauses X hs l) :
      Clauses X (.ExceptHandler (some (.Name x p1)) (some n) (b0 :: bs) p2 :: hs) ((c, some i, ts) :: l)
theorem ps_tries {X : Cx} {body : List Stmt} {h0 : ExceptHandler} {hs : List ExceptHandler} {l : List Clz} {pos : Pos} {tb : WX → TS} {Wout : WX}
    (hst : X.stack = X.env :: X.outer) (hf : X.env.frame = some X.env.locals) (hN : X.N.Nodup) (tk : Takes X Wout)
    (hb : ∀ (W : WX) (pn : List (Addr × Obj)) (xe : Value → Shared → Prop), Takes (X.tr pn xe) W → PassesOwn (model X.prog X.w) X.A X.env xe → PSs (X.tr pn xe) body (tb W)) (hh : Clauses X (h0 :: hs) l) :
    PS X (.Try body (h0 :: hs) [] [] pos) (fun D σ H => tb (wClz X.K Wout D l) D σ H) := by
  refine ⟨fun pins s σ H D I h => ?_⟩
  have ok := I.ok
  have hfr : X.A.frames = some (X.env :: X.outer) := by rw [ok.frames, hst]
  refine wpAny_Try_except ?_
  have run := (hb (wClz X.K Wout D l) (X.pn ++ pins) (fun e t1 => wpAny (model X.prog X.w) X.A (noteFrame e X.env) (fun _ t2 => wpAny (model X.prog X.w) X.A (setFlight e none) (fun _ t3 =>
    wpAny (model X.prog X.w) X.A (handleBy e X.env (h0 :: hs)) (SP X pins D) X.xe t3) X.xe t2) X.xe t1) (fun u t' xx => ?_) PassesOwn.looking).run [] s σ H D (I.toTry _) h
  · refine wpAny_mono run (fun f t1 z => ?_) (fun e t1 z => z)
    cases f with
    | next =>
      obtain ⟨σ1, H1, J1, q⟩ := z
      exact wpAny_execs_nil ⟨σ1, H1, J1.ofTry ok, q⟩
    | brk =>
      obtain ⟨σ1, H1, J1, q⟩ := z
      exact ⟨σ1, H1, J1.ofTry ok, q⟩
    | cont =>
      obtain ⟨σ1, H1, J1, q⟩ := z
      exact ⟨σ1, H1, J1.ofTry ok, q⟩
    | ret u =>
      obtain ⟨v, σ1, H1, J1, r, q⟩ := z
      exact ⟨v, σ1, H1, J1.ofTry ok, r, q⟩
  · obtain ⟨a, B, sI, pins1, σ1, H1, cls, d, rfl, J0, nb, up, sky, na, os, ag, w⟩ := xx
    have J : Inv X pins σ1 H1 sI := J0.ofTry ok
    have sky : Sky B (X.env :: X.outer) a (Zc cls d) X.env.locals t'.heap := by
      rw [← hst]
      exact sky
    show wpAny (model X.prog X.w) X.A (noteFrame (.ref a) X.env) _ _ _
    refine Sky.land Zc.steady hfr hf sky fun h3 fl3 up3 => ?_
    have J3 : Inv X pins σ1 H1 { t' with heap := h3 } := J.landed nb fl3.1 (up.trans up3) os ag
    obtain ⟨oe3, vs3, he3, hz3, hd3⟩ := fl3.there
    have nfr : a ∉ frs (X.env :: X.outer) := fun hm => by
      obtain ⟨_, o1, e1, hnf⟩ := fl3.2.2.1.mem hm
      rw [he3] at e1
      cases e1
      exact hnf _ hd3
    have nL : a ≠ X.env.locals := fun z => nfr (List.mem_filterMap.mpr ⟨X.env, List.mem_cons_self, by rw [hf, z]⟩)
    have nF : a ∉ X.fs := fun hm => by
      obtain ⟨e, he, q⟩ := List.mem_filterMap.mp hm
      exact nfr (List.mem_filterMap.mpr ⟨e, List.mem_cons_of_mem _ he, q⟩)
    have S3 := J3.suite he3 hd3 na nL nF
    have LT : PySem.W.Looks (model X.prog X.w) h3 (typeOf (.ref a)) cls := fun A Q E s k q => wpAny_typeOf_ref (k _ _ he3) (by rw [hz3.1]; exact q)
    have test : ∀ {x : Str} {c : Value} {p1 : Pos} (hc : Names X x c) {Q : Value → Shared → Prop} {E : Value → Shared → Prop}, Q c { t' with heap := h3 } →
        wpAny (model X.prog X.w) (X.A.mark (some (.ref a))) (eval (.Name x p1) X.env) Q E { t' with heap := h3 } := fun {x c p1} hc {Q E} q => by
      obtain ⟨hg, hdb, hm | ⟨hm, hv, hn⟩⟩ := hc
      · exact ld_glob (X := X.suite a ((a, oe3) :: (X.pn ++ pins))) S3 hg hm q hdb
      · exact ld_blt (X := X.suite a ((a, oe3) :: (X.pn ++ pins))) S3 hg hm hv q hn hdb
    have go : ∀ {hs1 : List ExceptHandler} {l1 : List Clz}, Clauses X hs1 l1 → wClz X.K Wout D l1 cls d σ1 H1 → wpAny (model X.prog X.w) X.A (handleBy (.ref a) X.env hs1) (SP X pins D) X.xe { t' with heap := h3 } := by
      intro hs1 l1 hk
      induction hk with
      | nil =>
        intro w
        refine wpAny_handleBy_nil ?_
        obtain ⟨_, _, _, oe, vs, T, oT, ts1, he, hz, hd, hv1, hr⟩ := id fl3
        unfold PySem.passOn
        refine wpAny_bind (wpAny_field he hd hv1 ?_)
        rw [if_neg (show ¬ ((Value.ref T == Value.none) = true) by simp)]
        have last : wpAny (model X.prog X.w) X.A (setFlight (.ref a) X.env.frame) (fun _ t4 => wpAny (model X.prog X.w) X.A (throw (.ref a) : Sem Flow) (SP X pins D) X.xe t4) X.xe { t' with heap := h3 } := by
          rw [hf]
          refine HandSPX.setFlight_upZ fl3 fun h4 hh4 up4 => wpAny_throw (tk _ _ ?_)
          refine ⟨a, B, sI, pins, σ1, H1, cls, d, rfl, J, nb, (up.trans up3).trans up4, .inr (.inr ?_), na, os, ag, w⟩
          rw [hst]
          exact hh4
        first
          | exact wpAny_bind (wpAny_pure (wpAny_bind last))
          | exact wpAny_bind last
      | @only x c ts b0 bs p1 p2 hs2 l2 hc su r ih =>
        rintro ⟨b, w1, w2, w3⟩
        refine wpAny_handleBy_cons (codeAny_handlers_test ?_) (by intro q; cases q)
        refine test hc ((PySem.W.exm_one (M := model X.prog X.w) J3.kIn LT w1).here ?_)
        cases b with
        | false => exact ih (w3 rfl)
        | true =>
          refine codeAny_handlers_suite (HandSPX.lands_againZ fl3 fun h4 fl4 up4 => ?_)
          have J4 : Inv X pins σ1 H1 { t' with heap := h4 } := J.landed nb fl4.1 ((up.trans up3).trans up4) os ag
          obtain ⟨oe4, vs4, he4, hz4, hd4⟩ := fl4.there
          have S4 := J4.suite he4 hd4 na nL nF
          refine wpAny_mono ((su a oe4 cls d (X.pn ++ pins) hz4 ⟨_, hd4⟩).run [] _ _ H1 _ S4 (w2 rfl a na)) (fun f t6 z => ?_) (fun _ _ z => z.elim)
          cases f with
          | next =>
            obtain ⟨σ6, H6, S6, q6⟩ := z
            exact ⟨_, _, S6.unsuite ok, q6⟩
          | brk =>
            obtain ⟨σ6, H6, S6, q6⟩ := z
            exact ⟨_, _, S6.unsuite ok, q6⟩
          | cont =>
            obtain ⟨σ6, H6, S6, q6⟩ := z
            exact ⟨_, _, S6.unsuite ok, q6⟩
          | ret u =>
            obtain ⟨v6, σ6, H6, S6, r6, q6⟩ := z
            exact ⟨_, _, _, S6.unsuite ok, r6, q6⟩
      | @as x n i c ts b0 bs p1 p2 hs2 l2 hi hl hc su r ih =>
        rintro ⟨b, w1, w2, w3⟩
        refine wpAny_handleBy_cons (codeAny_handlers_test ?_) (by intro q; cases q)
        refine test hc ((PySem.W.exm_one (M := model X.prog X.w) J3.kIn LT w1).here ?_)
        cases b with
        | false => exact ih (w3 rfl)
        | true =>
          refine codeAny_handlers_suite_as (HandSPX.lands_againZ fl3 fun h4 fl4 up4 => ?_)
          have J4 : Inv X pins σ1 H1 { t' with heap := h4 } := J.landed nb fl4.1 ((up.trans up3).trans up4) os ag
          obtain ⟨oe4, vs4, he4, hz4, hd4⟩ := fl4.there
          have S4 := J4.suite he4 hd4 na nL nF
          have hloc : Loc X.env.scope n := .inl hl
          refine store_ok (X := X.suite a ((a, oe4) :: (X.pn ++ pins))) (v := .ref a) S4 hN hi hloc rfl (fun t5 S5 => ?_) (.inr hl)
          refine wpAny_mono ((su a oe4 cls d (X.pn ++ pins) hz4 ⟨_, hd4⟩).run [] t5 _ H1 _ S5 (w2 rfl a na)) (fun f t6 z => ?_) (fun _ _ z => z.elim)
          have behind : ∀ {σ6 : L2.St} {H6 : Hp} {Q : Shared → Prop}, Inv (X.suite a ((a, oe4) :: (X.pn ++ pins))) [] σ6 H6 t6 → (∀ t7, Inv X pins (σ6.set i none) H6 t7 → Q t7) →
              wpAny (model X.prog X.w) X.A (do bindName X.env n .none; unbindBehindTheSuite X.env n p2) (fun _ t7 => Q t7) X.xe t6 := fun {σ6 H6 Q} S6 hq => gone_ok (S6.unsuite ok) hN hi hl hq
          cases f with
          | next =>
            obtain ⟨σ6, H6, S6, q6⟩ := z
            exact behind S6 fun t7 J7 => ⟨_, _, J7, q6⟩
          | brk =>
            obtain ⟨σ6, H6, S6, q6⟩ := z
            exact behind S6 fun t7 J7 => ⟨_, _, J7, q6⟩
          | cont =>
            obtain ⟨σ6, H6, S6, q6⟩ := z
            exact behind S6 fun t7 J7 => ⟨_, _, J7, q6⟩
          | ret u =>
            obtain ⟨v6, σ6, H6, S6, r6, q6⟩ := z
            exact behind S6 fun t7 J7 => ⟨_, _, _, J7, r6, q6⟩
    exact go hh w
end Nx

/-! Programs as data, and where they stand. -/
namespace Nx
open PySem PySem.Spec PyProof.Rows L2
inductive Ins where
  | set (a : Nat) (t : Tr)
  | move (a b : Nat)
  | cons (a b c : Nat)
  | head (a b : Nat)
  | tail (a b : Nat)
  | jump (a : Nat) (n : Int)
  deriving DecidableEq
def Ins.word : Ins → Str
  | .set _ _ => "set"
  | .move _ _ => "move"
  | .cons _ _ _ => "cons"
  | .head _ _ => "head"
  | .tail _ _ => "tail"
  | .jump _ _ => "jump"
/-- the parts behind the word -/
def Ins.parts : Ins → List V
  | .set a t => [.int a, .str t.str]
  | .move a b => [.int a, .int b]
  | .cons a b c => [.int a, .int b, .int c]
  | .head a b => [.int a, .int b]
  | .tail a b => [.int a, .int b]
  | .jump a n => [.int a, .int n]
def Ins.vs (i : Ins) : List V := .str i.word :: i.parts
def Ins.dparts : Ins → List PyData
  | .set a t => [.int a, .str t.str]
  | .move a b => [.int a, .int b]
  | .cons a b c => [.int a, .int b, .int c]
  | .head a b => [.int a, .int b]
  | .tail a b => [.int a, .int b]
  | .jump a n => [.int a, .int n]
def Ins.data (i : Ins) : PyData := .tuple (.str i.word :: i.dparts)
/-- the registers that an instruction names -/
def Ins.regs : Ins → List Nat
  | .set a _ => [a]
  | .move a b => [a, b]
  | .cons a b c => [a, b, c]
  | .head a b => [a, b]
  | .tail a b => [a, b]
  | .jump a _ => [a]
/-- an instruction at i of a program of n: registers below w, trees of at most k pairs -/
def Ins.ok (w k i n : Nat) : Ins → Prop
  | .set a t => a < w ∧ t.pairs ≤ k
  | .move a b => a < w ∧ b < w
  | .cons a b c => a < w ∧ b < w ∧ c < w
  | .head a b => a < w ∧ b < w
  | .tail a b => a < w ∧ b < w
  | .jump a m => a < w ∧ 0 ≤ (i : Int) + m ∧ (i : Int) + m ≤ n
def PgOk (w k : Nat) (is : List Ins) : Prop := ∀ (i : Nat) (x : Ins), is[i]? = some x → x.ok w k i is.length
def progD (is : List Ins) : PyData := .list (is.map Ins.data)
abbrev Rows (H : Hp) : List Addr → List Ins → Prop := Paired fun a i => H a = some (.tup i.vs)
def PgAt (H : Hp) (p : Addr) (is : List Ins) : Prop := ∃ as : List Addr, H p = some (.lst (as.map V.ref)) ∧ Rows H as is
theorem Paired.imp {α β : Type} {F G : α → β → Prop} (h : ∀ a b, F a b → G a b) : ∀ {l : List α} {m : List β}, Paired F l m → Paired G l m
  | _, _, .nil => .nil
  | _, _, .cons r t => .cons (h _ _ r) (Paired.imp h t)
theorem Paired.get {α β : Type} {F : α → β → Prop} : ∀ {l : List α} {m : List β} {i : Nat} {b : β}, Paired F l m → m[i]? = some b → ∃ a, l[i]? = some a ∧ F a b
  | _, _, _, _, .nil, e => by simp at e
  | _, _, 0, _, .cons r _, e => by
    simp at e
    subst e
    exact ⟨_, rfl, r⟩
  | _, _, i + 1, b, .cons _ t, e => by
    obtain ⟨a, h1, h2⟩ := Paired.get (i := i) (b := b) t (by simpa using e)
    exact ⟨a, by simpa using h1, h2⟩
theorem Paired.len {α β : Type} {F : α → β → Prop} : ∀ {l : List α} {m : List β}, Paired F l m → l.length = m.length
  | _, _, .nil => rfl
  | _, _, .cons _ t => by rw [List.length_cons, List.length_cons, Paired.len t]
theorem Paired.app {α β : Type} {F : α → β → Prop} : ∀ {l l' : List α} {m m' : List β}, Paired F l m → Paired F l' m' → Paired F (l ++ l') (m ++ m')
  | _, _, _, _, .nil, s => s
  | _, _, _, _, .cons r t, s => .cons r (Paired.app t s)
theorem Rows.same {H H' : Hp} {as : List Addr} {is : List Ins} (e : Same H H') (h : Rows H as is) : Rows H' as is := Paired.imp (fun a i q => e a _ q) h
theorem Rows.exs {st : Addr} {H H' : Hp} {as : List Addr} {is : List Ins} (s : Strm H st) (e : ExS st H H') (h : Rows H as is) : Rows H' as is := Paired.imp (fun a i q => e a _ (fun z => by
  obtain ⟨l, ns, c, i, m, h1, _⟩ := s
  rw [z, h1] at q
  cases q) q) h
theorem PgAt.same {H H' : Hp} {p : Addr} {is : List Ins} (h : PgAt H p is) (e : Same H H') : PgAt H' p is := by
  obtain ⟨as, h1, h2⟩ := h
  exact ⟨as, e _ _ h1, Rows.same e h2⟩
theorem PgAt.exs {st : Addr} {H H' : Hp} {p : Addr} {is : List Ins} (h : PgAt H p is) (s : Strm H st) (n : p ≠ st) (e : ExS st H H') : PgAt H' p is := by
  obtain ⟨as, h1, h2⟩ := h
  exact ⟨as, e _ _ n h1, Rows.exs s e h2⟩
theorem PgAt.len {H : Hp} {p : Addr} {is : List Ins} (h : PgAt H p is) : ∃ xs, H p = some (.lst xs) ∧ xs.length = is.length := by
  obtain ⟨as, h1, h2⟩ := h
  exact ⟨_, h1, by rw [List.length_map, Paired.len h2]⟩
theorem PgAt.ne {H : Hp} {p q : Addr} {is : List Ins} (h : PgAt H p is) (n : H q = none) : q ≠ p := fun z => by
  obtain ⟨as, h1, _⟩ := h
  rw [← z, n] at h1
  cases h1
/-- an item of a program -/
theorem PgAt.get {H : Hp} {p : Addr} {is : List Ins} (h : PgAt H p is) : ∃ xs : List V, H p = some (.lst xs) ∧ xs.length = is.length ∧ ∀ (i : Nat) (x : Ins), is[i]? = some x → ∃ a : Addr, xs[i]? = some (V.ref a) ∧ H a = some (.tup x.vs) := by
  obtain ⟨as, h1, h2⟩ := h
  refine ⟨_, h1, by rw [List.length_map, Paired.len h2], fun i x hi => ?_⟩
  obtain ⟨a, e1, e2⟩ := Paired.get h2 hi
  exact ⟨a, by rw [List.getElem?_map, e1]; rfl, e2⟩
theorem Rows.push {H : Hp} {as : List Addr} {is : List Ins} {p T : Addr} {ys zs : List V} {i : Ins} (h : Rows H as is) (hp : H p = some (.lst ys)) (hT : H T = none) : Rows (upd (upd H T (.tup i.vs)) p (.lst zs)) (as ++ [T]) (is ++ [i]) := by
  have nT : p ≠ T := ne_of_none hp hT
  refine Paired.app (Paired.imp (fun a j q => ?_) h) (.cons ?_ .nil)
  · have na : a ≠ p := fun z => by
      rw [z, hp] at q
      cases q
    rw [upd_ne na, upd_ne (ne_of_none q hT)]
    exact q
  · rw [upd_ne nT.symm, upd_same]
/-! ### as data -/
theorem Ins.dp {K : PySem.W.Frag} {H : Hp} {a : Addr} {i : Ins} (h : H a = some (.tup i.vs)) : Dp K H (.ref a) i.data := by
  refine .tup (SqT.of h) (.cons (.str _) ?_)
  cases i with
  | set a t => exact .cons (.int _) (.cons (.str _) .nil)
  | move a b => exact .cons (.int _) (.cons (.int _) .nil)
  | cons a b c => exact .cons (.int _) (.cons (.int _) (.cons (.int _) .nil))
  | head a b => exact .cons (.int _) (.cons (.int _) .nil)
  | tail a b => exact .cons (.int _) (.cons (.int _) .nil)
  | jump a n => exact .cons (.int _) (.cons (.int _) .nil)
theorem rows_dp {K : PySem.W.Frag} {H : Hp} : ∀ {as : List Addr} {is : List Ins}, Rows H as is → DpAll K H (as.map V.ref) (is.map Ins.data)
  | _, _, .nil => .nil
  | _, _, .cons r t => .cons (Ins.dp r) (rows_dp t)
theorem PgAt.dp {K : PySem.W.Frag} {H : Hp} {p : Addr} {is : List Ins} (h : PgAt H p is) : Dp K H (.ref p) (progD is) := by
  obtain ⟨as, h1, h2⟩ := h
  exact .lst (SqL.of h1) (rows_dp h2)
theorem Ins.word_ok (i : Ins) : PyData.strOk i.word = true := by
  cases i with
  | set a t => exact (by decide +kernel : PyData.strOk (Str.ofString "set") = true)
  | move a b => exact (by decide +kernel : PyData.strOk (Str.ofString "move") = true)
  | cons a b c => exact (by decide +kernel : PyData.strOk (Str.ofString "cons") = true)
  | head a b => exact (by decide +kernel : PyData.strOk (Str.ofString "head") = true)
  | tail a b => exact (by decide +kernel : PyData.strOk (Str.ofString "tail") = true)
  | jump a n => exact (by decide +kernel : PyData.strOk (Str.ofString "jump") = true)
theorem Ins.lay (i : Ins) : i.data.canLay0 = true := by
  show (PyData.strOk i.word && PyData.canLayAll0 i.dparts) = true
  rw [i.word_ok]
  cases i with
  | set a t =>
    show (true && (true && (PyData.strOk t.str && true))) = true
    rw [show PyData.strOk t.str = true from strOk_01 t.sg_01]
    rfl
  | _ => rfl
theorem Ins.deep (i : Ins) : i.data.depth = 1 := by cases i <;> rfl
theorem prog_lay : ∀ is : List Ins, PyData.canLayAll0 (is.map Ins.data) = true
  | [] => rfl
  | i :: r => by
    show (i.data.canLay0 && PyData.canLayAll0 (r.map Ins.data)) = true
    rw [i.lay, prog_lay r]
    rfl
theorem prog_deep : ∀ is : List Ins, PyData.depthAll (is.map Ins.data) ≤ 1
  | [] => by decide
  | i :: r => by
    show max i.data.depth (PyData.depthAll (r.map Ins.data)) ≤ 1
    have := prog_deep r
    rw [i.deep]
    omega
theorem progD_shaped (is : List Ins) : SeqAt.shaped (progD is) = true := by
  show (PyData.canLayAll0 (is.map Ins.data) && decide (PyData.depthAll (is.map Ins.data) + 1 ≤ 64)) = true
  have := prog_deep is
  rw [prog_lay, decide_eq_true (by omega)]
  rfl
theorem Ins.shaped (i : Ins) : SeqAt.shaped i.data = true := by
  show (i.data.canLay0 && decide (i.data.depth ≤ 64)) = true
  rw [i.lay, i.deep]
  rfl
/-! ### a written dict from texts to texts -/
structure DLit (K : PySem.W.Frag) (w : World) (a : Addr) (l : List (Str × Str)) : Prop where
  kd : ∃ es n, KDict K w a es n
  get : ∀ z, (∃ x t, l.lookup z = some x ∧ PySem.W.nsIn K a z = some (some (.str x t))) ∨ (l.lookup z = none ∧ PySem.W.nsIn K a z = some none)
theorem Paired.cons' {e : DictEntry} {p : Str × Str} {es : List DictEntry} {l : List (Str × Str)} (h1 : ∃ t, e.key = .str p.1 t) (h2 : ∃ t, e.val = .str p.2 t)
    (r : Paired (fun (e : DictEntry) (p : Str × Str) => (∃ t, e.key = .str p.1 t) ∧ ∃ t, e.val = .str p.2 t) es l) : Paired (fun (e : DictEntry) (p : Str × Str) => (∃ t, e.key = .str p.1 t) ∧ ∃ t, e.val = .str p.2 t) (e :: es) (p :: l) := .cons ⟨h1, h2⟩ r
theorem dlit_find : ∀ {es : List DictEntry} {l : List (Str × Str)}, Paired (fun (e : DictEntry) (p : Str × Str) => (∃ t, e.key = .str p.1 t) ∧ ∃ t, e.val = .str p.2 t) es l → ∀ z : Str,
    (∃ e x t, es.find? (·.key.isStr z) = some e ∧ l.lookup z = some x ∧ e.val = .str x t) ∨ (es.find? (·.key.isStr z) = none ∧ l.lookup z = none ∧ es.any (·.refKey) = false)
  | _, _, .nil, z => .inr ⟨rfl, rfl, rfl⟩
  | e :: es, (k, v) :: l, .cons r t, z => by
    obtain ⟨⟨t1, h1⟩, ⟨t2, h2⟩⟩ := r
    have h1' : e.key = .str k t1 := h1
    have ek : e.key.isStr z = (k == z) := by
      rw [h1']
      rfl
    have el : List.lookup z ((k, v) :: l) = if (z == k) = true then some v else List.lookup z l := by
      rw [List.lookup_cons]
      cases z == k <;> rfl
    rw [el, List.find?_cons, ek]
    by_cases c : z = k
    · subst c
      rw [beq_self_eq_true, if_pos rfl]
      exact .inl ⟨e, v, t2, rfl, rfl, h2⟩
    · rw [beq_eq_false_iff_ne.mpr (fun q => c q.symm), beq_eq_false_iff_ne.mpr c, if_neg Bool.false_ne_true]
      rcases dlit_find t z with h | ⟨g1, g2, g3⟩
      · exact .inl h
      · refine .inr ⟨g1, g2, ?_⟩
        rw [List.any_cons, g3, Bool.or_false]
        unfold DictEntry.refKey
        rw [h1']
theorem dlit_mk {K : PySem.W.Frag} {w : World} {a : Addr} {es : Array DictEntry} {n : Nat} {l : List (Str × Str)} (h : K.lookup a = some ⟨.type "dict", none, .dict es n, #[]⟩) (hk : PySem.W.KeysLit w.params es.toList) (low : (a == sysModules) = false)
    (hp : Paired (fun (e : DictEntry) (p : Str × Str) => (∃ t, e.key = .str p.1 t) ∧ ∃ t, e.val = .str p.2 t) es.toList l) : DLit K w a l := by
  refine ⟨⟨es, n, h, hk, low⟩, fun z => ?_⟩
  have hn : PySem.W.nsIn K a z = (match es.toList.find? (·.key.isStr z) with
      | some e => some (some e.val)
      | none => if es.toList.any (·.refKey) then none else some none) := by
    unfold PySem.W.nsIn
    rw [h]
    rfl
  rw [hn]
  rcases dlit_find hp z with ⟨e, x, t, e1, e2, e3⟩ | ⟨e1, e2, e3⟩
  · rw [e1]
    exact .inl ⟨x, t, e2, by show some (some e.val) = _; rw [e3]⟩
  · rw [e1, e3]
    exact .inr ⟨e2, rfl⟩
theorem DLit.dct {K : PySem.W.Frag} {w : World} {a : Addr} {l : List (Str × Str)} (D : DLit K w a l) {z x : Str} (h : l.lookup z = some x) : KDct K w a z (.str x) := by
  obtain ⟨es, n, d1, d2, d3⟩ := D.kd
  rcases D.get z with ⟨x', t, e1, e2⟩ | ⟨e1, e2⟩
  · rw [h] at e1
    rw [← Option.some.inj e1] at e2
    exact ⟨es, n, _, d1, d2, e2, ⟨t, rfl⟩⟩
  · rw [h] at e1
    cases e1
/-! ### a program that is drawn -/
structure PInv (H2 : Hp) (st p : Addr) (wide many : Nat) (as : List Addr) (is : List Ins) (H' : Hp) : Prop where
  at_ : H' p = some (.lst (as.map V.ref))
  rows : Rows H' as is
  ok : ∀ (j : Nat) (x : Ins), is[j]? = some x → x.ok wide 3 j many
  ex : ExS st H2 H'
  sm : Strm H' st
theorem PInv.go {H2 H5 H6 : Hp} {st p : Addr} {wide many : Nat} {as : List Addr} {is : List Ins} (np : p ≠ st) (h : PInv H2 st p wide many as is H5) (e : ExS st H5 H6) (s : Strm H6 st) : PInv H2 st p wide many as is H6 :=
  ⟨e _ _ np h.at_, Rows.exs h.sm e h.rows, h.ok, h.ex.trans e, s⟩
theorem PInv.push {H2 H5 : Hp} {st p T : Addr} {wide many : Nat} {as : List Addr} {is : List Ins} {x : Ins} (hp : H2 p = none) (s2 : Strm H2 st) (h : PInv H2 st p wide many as is H5) (hx : x.ok wide 3 is.length many) (hT : H5 T = none) :
    PInv H2 st p wide many (as ++ [T]) (is ++ [x]) (upd (upd H5 T (.tup x.vs)) p (.lst (as.map V.ref ++ [.ref T]))) := by
  have np : p ≠ st := s2.ne hp
  have smT := Same.upd (o := .tup x.vs) hT
  have e1 : ExS st H2 (upd H5 T (.tup x.vs)) := h.ex.trans smT.exs
  refine ⟨?_, Rows.push h.rows h.at_ hT, fun j y hj => ?_, .off np hp e1, s2.off hp e1 (smT.strm h.sm)⟩
  · rw [upd_same, List.map_append]
    rfl
  · by_cases c : j < is.length
    · rw [List.getElem?_append_left c] at hj
      exact h.ok j y hj
    · have c2 : j = is.length := by
        have := (List.getElem?_eq_some_iff.mp hj).1
        rw [List.length_append] at this
        have h1 : ([x] : List Ins).length = 1 := rfl
        omega
      subst c2
      rw [List.getElem?_append_right (Nat.le_refl _), Nat.sub_self] at hj
      have : x = y := by simpa using hj
      rw [← this]
      exact hx
theorem PInv.done {H2 H' : Hp} {st p : Addr} {wide many : Nat} {as : List Addr} {is : List Ins} (h : PInv H2 st p wide many as is H') (hl : is.length = many) : PgAt H' p is ∧ PgOk wide 3 is :=
  ⟨⟨as, h.at_, h.rows⟩, fun i x hi => by
    rw [hl]
    exact h.ok i x hi⟩
theorem PInv.size {H2 H' : Hp} {st p : Addr} {wide many : Nat} {as : List Addr} {is : List Ins} (h : PInv H2 st p wide many as is H') : (as.map V.ref).length = is.length := by
  rw [List.length_map, Paired.len h.rows]
/-! ### what the parts of an instruction are -/
def Ins.shape : Ins → Str
  | .set _ _ => "rt"
  | .move _ _ => "rr"
  | .cons _ _ _ => "rrr"
  | .head _ _ => "rr"
  | .tail _ _ => "rr"
  | .jump _ _ => "rn"
def shapes : List (Str × Str) := [(("set" : Str), ("rt" : Str)), (("move" : Str), ("rr" : Str)), (("cons" : Str), ("rrr" : Str)), (("head" : Str), ("rr" : Str)), (("tail" : Str), ("rr" : Str)), (("jump" : Str), ("rn" : Str))]
theorem shapes_at (i : Ins) : shapes.lookup i.word = some i.shape := by
  cases i with
  | set a t => exact (by decide +kernel : shapes.lookup (Str.ofString "set") = some (Str.ofString "rt"))
  | move a b => exact (by decide +kernel : shapes.lookup (Str.ofString "move") = some (Str.ofString "rr"))
  | cons a b c => exact (by decide +kernel : shapes.lookup (Str.ofString "cons") = some (Str.ofString "rrr"))
  | head a b => exact (by decide +kernel : shapes.lookup (Str.ofString "head") = some (Str.ofString "rr"))
  | tail a b => exact (by decide +kernel : shapes.lookup (Str.ofString "tail") = some (Str.ofString "rr"))
  | jump a n => exact (by decide +kernel : shapes.lookup (Str.ofString "jump") = some (Str.ofString "rn"))
theorem s_rt : (Str.ofString "rt").cps.toList = [114, 116] := by decide +kernel
theorem s_rr : (Str.ofString "rr").cps.toList = [114, 114] := by decide +kernel
theorem s_rrr : (Str.ofString "rrr").cps.toList = [114, 114, 114] := by decide +kernel
theorem s_rn : (Str.ofString "rn").cps.toList = [114, 110] := by decide +kernel
/-- the kinds of the parts, as signs -/
def Ins.kinds : Ins → List Nat
  | .set _ _ => [114, 116]
  | .move _ _ => [114, 114]
  | .cons _ _ _ => [114, 114, 114]
  | .head _ _ => [114, 114]
  | .tail _ _ => [114, 114]
  | .jump _ _ => [114, 110]
theorem Ins.shape_kinds (i : Ins) : i.shape.cps.toList = i.kinds := by
  cases i with
  | set a t => exact s_rt
  | move a b => exact s_rr
  | cons a b c => exact s_rrr
  | head a b => exact s_rr
  | tail a b => exact s_rr
  | jump a n => exact s_rn
theorem Ins.kinds_len (i : Ins) : i.kinds.length = i.parts.length := by cases i <;> rfl
theorem Ins.part_is (i : Ins) {j c : Nat} {y : V} (h1 : i.kinds[j]? = some c) (h2 : i.parts[j]? = some y) : (∃ r, i.regs[j]? = some r ∧ c = 114 ∧ y = .int r) ∨ (i.regs.length ≤ j ∧ c ≠ 114) := by
  cases i <;> (match j, h1, h2 with
    | 0, h1, h2 => simp [Ins.kinds, Ins.parts] at h1 h2; subst h1 h2; exact .inl ⟨_, rfl, rfl, rfl⟩
    | 1, h1, h2 => simp [Ins.kinds, Ins.parts] at h1 h2; subst h1 h2; first | exact .inl ⟨_, rfl, rfl, rfl⟩ | exact .inr ⟨Nat.le_refl _, by decide⟩
    | 2, h1, h2 => simp [Ins.kinds, Ins.parts] at h1 h2 <;> (subst h1 h2; exact .inl ⟨_, rfl, rfl, rfl⟩)
    | j + 3, h1, h2 => simp [Ins.kinds, Ins.parts] at h1 h2)
/-- 1 more than the greatest register -/
def gst (g : Nat) (is : List Ins) : Nat := (is.flatMap Ins.regs).foldl max g
def wid (is : List Ins) : Nat := gst 0 is + 1
theorem gst_cons (g : Nat) (i : Ins) (r : List Ins) : gst g (i :: r) = gst (i.regs.foldl max g) r := by
  unfold gst
  rw [List.flatMap_cons, List.foldl_append]
theorem gst_take {is : List Ins} {k : Nat} {x : Ins} (g : Nat) (h : is[k]? = some x) : gst g (is.take (k + 1)) = x.regs.foldl max (gst g (is.take k)) := by
  unfold gst
  rw [List.take_add_one, h, List.flatMap_append, List.foldl_append]
  show List.foldl max _ (x.regs ++ []) = _
  rw [List.append_nil]
theorem rep_ref (n : Nat) (T : Addr) : (List.replicate n [V.ref T]).flatten = (List.replicate n T).map V.ref := by
  induction n with
  | zero => rfl
  | succ n ih =>
    rw [List.replicate_succ, List.flatten_cons, ih, List.replicate_succ, List.map_cons]
    rfl
theorem rows_rep {H : Hp} {T : Addr} {i : Ins} (h : H T = some (.tup i.vs)) : ∀ n : Nat, Rows H (List.replicate n T) (List.replicate n i)
  | 0 => .nil
  | n + 1 => by
    rw [List.replicate_succ, List.replicate_succ]
    exact .cons h (rows_rep h n)
theorem PgAt.nil {H : Hp} {p : Addr} (h : H p = some (.lst [])) : PgAt H p [] := ⟨[], h, .nil⟩
end Nx

/-! Any values, and what a program is among them. -/
namespace Nx
open PySem PySem.Spec PyProof.Rows L2
theorem iteT' {b : Bool} {A B : Prop} (h : b = true) (g : A) : if b = true then A else B := by
  rw [h]
  exact iteT g
theorem iteF' {b : Bool} {A B : Prop} (h : b = false) (g : B) : if b = true then A else B := by
  rw [h]
  exact iteF g
theorem bl_ne (x y : Bool) : (!decide (V.bl x = V.bl y)) = xor x y := by
  cases x <;> cases y <;> decide +kernel
theorem notI {b : Bool} {A B : Prop} (h : b = false → A) (g : b = true → B) : if (!b) = true then A else B := by
  cases b with
  | false => exact iteT (h rfl)
  | true => exact iteF (g rfl)
mutual
/-- a value that stands in H, made of lists and tuples -/
inductive Vd (H : Hp) : V → PyData → Prop where
  | non : Vd H .non .none
  | bl (b : Bool) : Vd H (.bl b) (.bool b)
  | int (i : Int) : Vd H (.int i) (.int i)
  | str (x : Str) (h : x.length ≤ sizeLine) : Vd H (.str x) (.str x)
  | lst {a : Addr} {xs : List V} {ds : List PyData} (h : H a = some (.lst xs)) (hl : xs.length ≤ 1000000) (r : VdA H xs ds) : Vd H (.ref a) (.list ds)
  | tup {a : Addr} {xs : List V} {ds : List PyData} (h : H a = some (.tup xs)) (hl : xs.length ≤ 1000000) (r : VdA H xs ds) : Vd H (.ref a) (.tuple ds)
inductive VdA (H : Hp) : List V → List PyData → Prop where
  | nil : VdA H [] []
  | cons {v : V} {vs : List V} {d : PyData} {ds : List PyData} (h : Vd H v d) (r : VdA H vs ds) : VdA H (v :: vs) (d :: ds)
end
mutual
theorem Vd.dp {K : PySem.W.Frag} {H : Hp} : ∀ {v : V} {d : PyData}, Vd H v d → Dp K H v d
  | _, _, .non => .non
  | _, _, .bl b => .bl b
  | _, _, .int i => .int i
  | _, _, .str x _ => .str x
  | _, _, .lst h _ r => .lst (SqL.of h) (VdA.dp r)
  | _, _, .tup h _ r => .tup (SqT.of h) (VdA.dp r)
theorem VdA.dp {K : PySem.W.Frag} {H : Hp} : ∀ {v : List V} {d : List PyData}, VdA H v d → DpAll K H v d
  | _, _, .nil => .nil
  | _, _, .cons h r => .cons (Vd.dp h) (VdA.dp r)
end
mutual
theorem Vd.same {H H' : Hp} (e : Same H H') : ∀ {v : V} {d : PyData}, Vd H v d → Vd H' v d
  | _, _, .non => .non
  | _, _, .bl b => .bl b
  | _, _, .int i => .int i
  | _, _, .str x h => .str x h
  | _, _, .lst h l r => .lst (e _ _ h) l (VdA.same e r)
  | _, _, .tup h l r => .tup (e _ _ h) l (VdA.same e r)
theorem VdA.same {H H' : Hp} (e : Same H H') : ∀ {v : List V} {d : List PyData}, VdA H v d → VdA H' v d
  | _, _, .nil => .nil
  | _, _, .cons h r => .cons (Vd.same e h) (VdA.same e r)
end
theorem VdA.len {H : Hp} : ∀ {vs : List V} {ds : List PyData}, VdA H vs ds → vs.length = ds.length
  | _, _, .nil => rfl
  | _, _, .cons _ r => congrArg (· + 1) (VdA.len r)
theorem VdA.get {H : Hp} : ∀ {vs : List V} {ds : List PyData} {i : Nat} {d : PyData}, VdA H vs ds → ds[i]? = some d → ∃ v, vs[i]? = some v ∧ Vd H v d
  | _, _, i, d, .nil, e => by simp at e
  | _, _, 0, d, .cons h _, e => ⟨_, rfl, by
    have : _ = d := Option.some.inj e
    rw [← this]
    exact h⟩
  | _, _, i + 1, d, .cons _ r, e => VdA.get (i := i) r e
theorem VdA.get' {H : Hp} : ∀ {vs : List V} {ds : List PyData} {i : Nat} {v : V}, VdA H vs ds → vs[i]? = some v → ∃ d, ds[i]? = some d ∧ Vd H v d
  | _, _, i, d, .nil, e => by simp at e
  | _, _, 0, d, .cons h _, e => ⟨_, rfl, by
    have : _ = d := Option.some.inj e
    rw [← this]
    exact h⟩
  | _, _, i + 1, d, .cons _ r, e => VdA.get' (i := i) r e
theorem VdA.drop {H : Hp} : ∀ {vs : List V} {ds : List PyData} (n : Nat), VdA H vs ds → VdA H (vs.drop n) (ds.drop n)
  | _, _, 0, h => h
  | _, _, _ + 1, .nil => .nil
  | _, _, n + 1, .cons _ r => VdA.drop n r
theorem VdA.take {H : Hp} : ∀ {vs : List V} {ds : List PyData} (n : Nat), VdA H vs ds → VdA H (vs.take n) (ds.take n)
  | _, _, 0, _ => .nil
  | _, _, _ + 1, .nil => .nil
  | _, _, n + 1, .cons h r => .cons h (VdA.take n r)
theorem VdA.app {H : Hp} : ∀ {vs ws : List V} {ds es : List PyData}, VdA H vs ds → VdA H ws es → VdA H (vs ++ ws) (ds ++ es)
  | _, _, _, _, .nil, s => s
  | _, _, _, _, .cons h r, s => .cons h (VdA.app r s)
/-! ### types -/
def tyD : PyData → String
  | .none => "NoneType"
  | .bool _ => "bool"
  | .int _ => "int"
  | .str _ => "str"
  | .list _ => "list"
  | .tuple _ => "tuple"
  | .dict _ => "dict"
def isL : PyData → Bool
  | .list _ => true
  | _ => false
def isTup : PyData → Bool
  | .tuple _ => true
  | _ => false
def isS : PyData → Bool
  | .str _ => true
  | _ => false
def isB : PyData → Bool
  | .bool _ => true
  | _ => false
def isI : PyData → Bool
  | .int _ => true
  | .bool _ => true
  | _ => false
theorem Vd.ty {K : PySem.W.Frag} {H : Hp} {v : V} {d : PyData} (h : Vd H v d) : TyX K H v (.type (tyD d)) := by
  cases h with
  | non => exact .base .non
  | bl b => exact .base (.bl b)
  | int i => exact .base (.int i)
  | str x _ => exact .base (.str x)
  | lst h _ _ => exact .base (.lst h)
  | tup h _ _ => exact .base (.tup h)
theorem kL {K : PySem.W.Frag} (d : PyData) : PySem.W.kitOne K (.type (tyD d)) (.type "list") = some (isL d) := kit_ty (by cases d <;> (simp only [tyD, isL]; decide +kernel))
theorem kT {K : PySem.W.Frag} (d : PyData) : PySem.W.kitOne K (.type (tyD d)) (.type "tuple") = some (isTup d) := kit_ty (by cases d <;> (simp only [tyD, isTup]; decide +kernel))
theorem kS {K : PySem.W.Frag} (d : PyData) : PySem.W.kitOne K (.type (tyD d)) (.type "str") = some (isS d) := kit_ty (by cases d <;> (simp only [tyD, isS]; decide +kernel))
theorem kB {K : PySem.W.Frag} (d : PyData) : PySem.W.kitOne K (.type (tyD d)) (.type "bool") = some (isB d) := kit_ty (by cases d <;> (simp only [tyD, isB]; decide +kernel))
theorem kI {K : PySem.W.Frag} (d : PyData) : PySem.W.kitOne K (.type (tyD d)) (.type "int") = some (isI d) := kit_ty (by cases d <;> (simp only [tyD, isI]; decide +kernel))
theorem lookup_mem {w sh : Str} : ∀ {l : List (Str × Str)}, l.lookup w = some sh → (w, sh) ∈ l
  | [], h => by cases h
  | (k, v) :: l, h => by
    rw [List.lookup_cons] at h
    by_cases c : w = k
    · subst c
      rw [beq_self_eq_true] at h
      rw [← Option.some.inj h]
      exact List.mem_cons_self ..
    · rw [beq_eq_false_iff_ne.mpr c] at h
      exact List.mem_cons_of_mem _ (lookup_mem h)
theorem shapes_len {w sh : Str} (h : shapes.lookup w = some sh) : 2 ≤ sh.length ∧ sh.length ≤ 3 := by
  have h1 := lookup_mem h
  have h2 : (shapes.all fun p => decide (2 ≤ p.2.length) && decide (p.2.length ≤ 3)) = true := by decide +kernel
  have h3 := List.all_eq_true.mp h2 _ h1
  rw [Bool.and_eq_true] at h3
  exact ⟨of_decide_eq_true h3.1, of_decide_eq_true h3.2⟩
theorem one_is {k : Nat} {x : Str} (c : Nat) (e : x = stS [c]) : decide (V.str ⟨#[k]⟩ = V.str x) = decide (k = c) := by
  rw [e, decide_eq_decide]
  constructor
  · intro z
    exact (List.cons.inj (stS_inj (V.str.inj z))).1
  · intro z
    rw [z]
    rfl
/-! ### what a program is -/
/-- a part of this kind (116 a tree, 114 a register, else a way) -/
def fitsD (k : Nat) (d : PyData) (i n : Int) : Bool :=
  if k = 116 then isS d else match d with
    | .int m => if k = 114 then decide (0 ≤ m) && decide (m < 20) else decide (0 ≤ i + m) && decide (i + m ≤ n)
    | _ => false
def rowD (d : PyData) (i n : Int) : Bool := match d with
  | .tuple (.str w :: ps) => match shapes.lookup w with
    | some sh => decide (ps.length = sh.length) && (sh.cps.toList.zip ps).all fun q => fitsD q.1 q.2 i n
    | none => false
  | _ => false
/-- the tree of an instruction -/
def treeD : PyData → Option Str
  | .tuple [.str w, _, .str t] => if w = (Str.ofString "set") then some t else none
  | _ => none
def rowsD (n : Int) : Int → List PyData → Bool
  | _, [] => true
  | i, d :: r => rowD d i n && rowsD n (i + 1) r
theorem rowsD_iff (n : Int) : ∀ (i : Int) (ds : List PyData), rowsD n i ds = true ↔ ∀ (j : Nat) (d : PyData), ds[j]? = some d → rowD d (i + j) n = true
  | i, [] => ⟨fun _ j d h => by simp at h, fun _ => rfl⟩
  | i, x :: r => by
    show (rowD x i n && rowsD n (i + 1) r) = true ↔ _
    rw [Bool.and_eq_true, rowsD_iff n (i + 1) r]
    constructor
    · rintro ⟨h1, h2⟩ j d h
      cases j with
      | zero =>
        have e : x = d := Option.some.inj h
        rw [← e]
        rw [show i + ((0 : Nat) : Int) = i by omega]
        exact h1
      | succ j =>
        have := h2 j d h
        rw [show i + ((j + 1 : Nat) : Int) = i + 1 + j by omega]
        exact this
    · intro h
      refine ⟨?_, fun j d hd => ?_⟩
      · have := h 0 x rfl
        rw [show i + ((0 : Nat) : Int) = i by omega] at this
        exact this
      · have := h (j + 1) d hd
        rw [show i + ((j + 1 : Nat) : Int) = i + 1 + j by omega] at this
        exact this
def progOk (d : PyData) : Bool := match d with
  | .list ds => decide (ds.length ≤ 600) && (rowsD ds.length 0 ds && (decide (((ds.filterMap treeD).map Str.length).sum ≤ 200000) && (ds.filterMap treeD).all fun t => isT t.cps.toList))
  | _ => false
theorem row_form {d : PyData} {i n : Int} (h : rowD d i n = true) : ∃ w ps, d = .tuple (.str w :: ps) ∧ ((w = Str.ofString "set" ∧ ∃ p0 t, ps = [p0, .str t] ∧ treeD d = some t) ∨ (w ≠ Str.ofString "set" ∧ treeD d = none)) := by
  cases d with
  | tuple ds =>
    cases ds with
    | nil => cases h
    | cons d0 ps =>
      cases d0 with
      | str w =>
        refine ⟨w, ps, rfl, ?_⟩
        by_cases c : w = Str.ofString "set"
        · refine .inl ⟨c, ?_⟩
          have h1 : shapes.lookup w = some (Str.ofString "rt") := by
            rw [c]
            decide +kernel
          have h2 : (match shapes.lookup w with | some sh => decide (ps.length = sh.length) && (sh.cps.toList.zip ps).all (fun q => fitsD q.1 q.2 i n) | none => false) = true := h
          rw [h1] at h2
          have h3 : decide (ps.length = (Str.ofString "rt").length) && ((Str.ofString "rt").cps.toList.zip ps).all (fun q => fitsD q.1 q.2 i n) := h2
          rw [s_rt, show (Str.ofString "rt").length = 2 by decide +kernel] at h3
          match ps, h3 with
          | [p0, p1], h3 =>
            have h4 : fitsD 114 p0 i n = true ∧ fitsD 116 p1 i n = true := by simpa using h3
            have h5 : isS p1 = true := h4.2
            cases p1 with
            | str t =>
              refine ⟨p0, t, rfl, ?_⟩
              show (if w = Str.ofString "set" then some t else none) = some t
              rw [if_pos c]
            | _ => cases h5
          | [], h3 => cases h3
          | [p0], h3 => cases h3
          | p0 :: p1 :: p2 :: r, h3 =>
            have : decide ((p0 :: p1 :: p2 :: r).length = 2) = false := decide_eq_false (by simp)
            rw [this] at h3
            cases h3
        · refine .inr ⟨c, ?_⟩
          unfold treeD
          split
          · rename_i w2 p0 t e
            have : w = w2 := by
              injection e with e
              injection e with e1 e2
              injection e1
            rw [← this, if_neg c]
          · rfl
      | _ => cases h
  | _ => cases h
theorem Vd.row {H : Hp} {y : V} {w : Str} {ps : List PyData} (h : Vd H y (.tuple (.str w :: ps))) : ∃ T us, y = .ref T ∧ H T = some (.tup (.str w :: us)) ∧ VdA H us ps ∧ w.length ≤ sizeLine := by
  cases h with
  | tup h _ r =>
    cases r with
    | cons h0 r =>
      cases h0 with
      | str _ hw => exact ⟨_, _, rfl, h, r, hw⟩
theorem take_fm {α β : Type} {f : α → Option β} {l : List α} {j : Nat} {d : α} (h : l[j]? = some d) : (l.take (j + 1)).filterMap f = (l.take j).filterMap f ++ (f d).toList := by
  rw [List.take_add_one, h, List.filterMap_append]
  show _ ++ List.filterMap f [d] = _
  cases e : f d <;> simp [List.filterMap, e]
/-! ### tuples cut and put together -/
theorem sl_any {K : PySem.W.Frag} {H : Hp} {a : Addr} {xs : List V} {lo hi : Option Int} {Q : VK} (h : H a = some (.tup xs)) (q : ∀ b H', Same H H' → H' b = some (.tup (cutV xs lo hi)) → Q (.ref b) H') : rSlA K (.ref a) lo hi H Q := by
  refine ⟨a, xs, rfl, SqT.of h, fun hw => q a H (.refl _) ?_, fun _ p np => q p _ (Same.upd np) upd_same⟩
  have : cutV xs lo hi = xs := by
    unfold cutV
    rw [hw.1, hw.2, List.drop_zero, Nat.sub_zero]
    exact List.take_of_length_le (Nat.le_refl _)
  rw [this]
  exact h
theorem cat_any {K : PySem.W.Frag} {H : Hp} {a b : Addr} {xs ys : List V} {Q : VK} (h : H a = some (.tup xs)) (g : H b = some (.tup ys)) (hz : xs.length + ys.length ≤ sizeLine) (q : ∀ c H', Same H H' → H' c = some (.tup (xs ++ ys)) → Q (.ref c) H') : rCatA K (.ref a) (.ref b) H Q := by
  refine ⟨a, b, xs, ys, rfl, rfl, SqT.of h, SqT.of g, hz, fun e => q b H (.refl _) ?_, fun _ e => q a H (.refl _) ?_, fun _ _ p np => q p _ (Same.upd np) upd_same⟩
  · rw [e]
    exact g
  · rw [e, List.append_nil]
    exact h
theorem cutV_from (xs : List V) (k : Nat) : cutV xs (some (k : Int)) none = xs.drop k := by
  show (xs.drop (HT.sIx xs.length 0 (some (k : Int)))).take (xs.length - HT.sIx xs.length 0 (some (k : Int))) = _
  rw [HT.sIx_nat]
  by_cases h : k ≤ xs.length
  · rw [Nat.min_eq_left h]
    exact List.take_of_length_le (by rw [List.length_drop]; omega)
  · rw [Nat.min_eq_right (by omega), List.drop_of_length_le (Nat.le_refl _), List.drop_of_length_le (by omega), List.take_nil]
theorem cutV_to (xs : List V) (k : Nat) : cutV xs none (some (k : Int)) = xs.take k := by
  show (xs.drop 0).take (HT.sIx xs.length xs.length (some (k : Int)) - 0) = _
  rw [HT.sIx_nat, List.drop_zero, Nat.sub_zero]
  by_cases h : k ≤ xs.length
  · rw [Nat.min_eq_left h]
  · rw [Nat.min_eq_right (by omega), List.take_of_length_le (Nat.le_refl _), List.take_of_length_le (by omega)]
theorem cutV_two (xs : List V) (j k : Nat) : cutV xs (some (j : Int)) (some (k : Int)) = (xs.drop j).take (k - j) := by
  show (xs.drop (HT.sIx xs.length 0 (some (j : Int)))).take (HT.sIx xs.length xs.length (some (k : Int)) - HT.sIx xs.length 0 (some (j : Int))) = _
  rw [HT.sIx_nat, HT.sIx_nat]
  by_cases h : j ≤ xs.length
  · rw [Nat.min_eq_left h]
    by_cases g : k ≤ xs.length
    · rw [Nat.min_eq_left g]
    · rw [Nat.min_eq_right (by omega), List.take_of_length_le (by rw [List.length_drop]; omega), List.take_of_length_le (by rw [List.length_drop]; omega)]
  · rw [Nat.min_eq_right (show xs.length ≤ j by omega), List.drop_of_length_le (Nat.le_refl _), List.drop_of_length_le (show xs.length ≤ j by omega), List.take_nil, List.take_nil]
theorem cutV_1 (x : V) (xs : List V) : cutV (x :: xs) (some 1) none = xs := cutV_from (x :: xs) 1
theorem cutV_12 (x y : V) (xs : List V) : cutV (x :: y :: xs) (some 1) (some 2) = [y] := cutV_two (x :: y :: xs) 1 2
/-! ### an instruction, told in another way -/
def treeB : PyData → Bool
  | .str x => isT x.cps.toList
  | _ => false
def regD (d : PyData) : Bool := match d with
  | .int m => decide (0 ≤ m) && decide (m ≤ 19)
  | _ => false
def regVb (v : V) : Bool := match v with
  | .int m => decide (0 ≤ m) && decide (m ≤ 19)
  | _ => false
theorem VdA.regs {H : Hp} : ∀ {vs : List V} {ds : List PyData}, VdA H vs ds → vs.all regVb = ds.all regD
  | _, _, .nil => rfl
  | _, _, .cons h r => by
    rw [List.all_cons, List.all_cons, VdA.regs r]
    congr 1
    cases h <;> rfl
theorem VdA.mem {H : Hp} {vs : List V} {ds : List PyData} {v : V} (h : VdA H vs ds) (m : v ∈ vs) : ∃ d, Vd H v d := by
  obtain ⟨i, hi⟩ := List.getElem?_of_mem m
  obtain ⟨d, _, hd⟩ := h.get' hi
  exact ⟨d, hd⟩
theorem fits_reg (d : PyData) (i n : Int) : fitsD 114 d i n = regD d := by
  cases d with
  | int m =>
    show (decide (0 ≤ m) && decide (m < 20)) = (decide (0 ≤ m) && decide (m ≤ 19))
    rw [show decide (m < 20) = decide (m ≤ 19) from decide_eq_decide.mpr (by omega)]
  | _ => rfl
def rowL (d : PyData) (i n : Int) : Bool := rowD d i n && (treeD d).all fun t => isT t.cps.toList
theorem rowL_no {d : PyData} {i n : Int} (h : rowD d i n = false) : rowL d i n = false := by
  unfold rowL
  rw [h]
  rfl
theorem shapes_cases {w sh : Str} (h : shapes.lookup w = some sh) : (w = Str.ofString "set" ∧ sh.cps.toList = [114, 116]) ∨ (w = Str.ofString "cons" ∧ sh.cps.toList = [114, 114, 114]) ∨ (w = Str.ofString "jump" ∧ sh.cps.toList = [114, 110]) ∨
    ((w ≠ Str.ofString "set" ∧ w ≠ Str.ofString "cons" ∧ w ≠ Str.ofString "jump") ∧ sh.cps.toList = [114, 114]) := by
  have h1 := lookup_mem h
  unfold shapes at h1
  simp only [List.mem_cons, Prod.mk.injEq, List.not_mem_nil, or_false] at h1
  rcases h1 with ⟨rfl, rfl⟩ | ⟨rfl, rfl⟩ | ⟨rfl, rfl⟩ | ⟨rfl, rfl⟩ | ⟨rfl, rfl⟩ | ⟨rfl, rfl⟩
  · exact .inl ⟨rfl, by decide +kernel⟩
  · exact .inr (.inr (.inr (by decide +kernel)))
  · exact .inr (.inl ⟨rfl, by decide +kernel⟩)
  · exact .inr (.inr (.inr (by decide +kernel)))
  · exact .inr (.inr (.inr (by decide +kernel)))
  · exact .inr (.inr (.inl ⟨rfl, by decide +kernel⟩))
theorem rowD_is {w sh : Str} (h : shapes.lookup w = some sh) (ps : List PyData) (i n : Int) : rowD (.tuple (.str w :: ps)) i n = (decide (ps.length = sh.cps.toList.length) && (sh.cps.toList.zip ps).all fun q => fitsD q.1 q.2 i n) := by
  show (match shapes.lookup w with | some sh => decide (ps.length = sh.length) && (sh.cps.toList.zip ps).all (fun q => fitsD q.1 q.2 i n) | none => false) = _
  rw [h]
  show (decide (ps.length = sh.cps.size) && _) = _
  rw [← Array.length_toList]
theorem rowD_none {w : Str} (h : shapes.lookup w = none) (ps : List PyData) (i n : Int) : rowD (.tuple (.str w :: ps)) i n = false := by
  show (match shapes.lookup w with | some sh => decide (ps.length = sh.length) && (sh.cps.toList.zip ps).all (fun q => fitsD q.1 q.2 i n) | none => false) = _
  rw [h]
theorem inV_lookup (w : Str) : ∀ l : List (Str × Str), inV (.str w) (l.map fun p => V.str p.1) = (l.lookup w).isSome
  | [] => rfl
  | (k, v) :: l => by
    show ((k == w) || inV (.str w) (l.map fun p => V.str p.1)) = _
    rw [inV_lookup w l, List.lookup_cons]
    by_cases c : w = k
    · rw [c, beq_self_eq_true]
      rfl
    · rw [beq_eq_false_iff_ne.mpr c, beq_eq_false_iff_ne.mpr (fun z => c z.symm)]
      rfl
theorem treeD_set {w : Str} {p0 p1 : PyData} (h : w = Str.ofString "set") : (treeD (.tuple [.str w, p0, p1])).all (fun t => isT t.cps.toList) = (!isS p1 || treeB p1) := by
  cases p1 with
  | str t =>
    show Option.all _ (if w = Str.ofString "set" then some t else none) = _
    rw [if_pos h]
    rfl
  | _ => rfl
theorem treeD_no {w : Str} (ps : List PyData) (h : w ≠ Str.ofString "set") : treeD (.tuple (.str w :: ps)) = none := by
  unfold treeD
  split
  · rename_i w2 p0 t e
    have : w = w2 := by
      injection e with e
      injection e with e1 e2
      injection e1
    rw [← this, if_neg h]
  · rfl
/-- the three forms -/
theorem rowL_set {w : Str} (h : w = Str.ofString "set") (p0 p1 : PyData) (i n : Int) : rowL (.tuple [.str w, p0, p1]) i n = (regD p0 && treeB p1) := by
  have hl : shapes.lookup w = some (Str.ofString "rt") := by
    rw [h]
    decide +kernel
  unfold rowL
  rw [rowD_is hl, s_rt, treeD_set h]
  show ((true && (fitsD 114 p0 i n && (fitsD 116 p1 i n && true))) && (!isS p1 || treeB p1)) = _
  rw [fits_reg, show fitsD 116 p1 i n = isS p1 from rfl]
  cases p1 with
  | str t => cases regD p0 <;> rfl
  | _ => cases regD p0 <;> rfl
theorem rowL_jump {w : Str} (h : w = Str.ofString "jump") (p0 p1 : PyData) (i n : Int) : rowL (.tuple [.str w, p0, p1]) i n = (fitsD 110 p1 i n && regD p0) := by
  have hl : shapes.lookup w = some (Str.ofString "rn") := by
    rw [h]
    decide +kernel
  unfold rowL
  rw [rowD_is hl, s_rn, treeD_no _ (by rw [h]; decide +kernel)]
  show ((true && (fitsD 114 p0 i n && (fitsD 110 p1 i n && true))) && true) = _
  rw [fits_reg]
  cases regD p0 <;> cases fitsD 110 p1 i n <;> rfl
theorem rowL_regs {w sh : Str} (h : shapes.lookup w = some sh) (ns : w ≠ Str.ofString "set") (ps : List PyData) (i n : Int) (hk : sh.cps.toList = List.replicate ps.length 114) : rowL (.tuple (.str w :: ps)) i n = ps.all regD := by
  unfold rowL
  rw [rowD_is h, hk, treeD_no _ ns, List.length_replicate, decide_eq_true rfl, Bool.true_and, show Option.all _ none = true from rfl, Bool.and_true]
  clear h hk
  induction ps with
  | nil => rfl
  | cons x r ih =>
    show (fitsD 114 x i n && ((List.replicate r.length 114).zip r).all _) = _
    rw [fits_reg, ih]
    rfl
/-! ### what the law says a program is -/
def dueB (ds : List PyData) : List Bool := (List.range ds.length).map fun j => rowL (ds.getD j .none) j ds.length
def dueD (d : PyData) : Bool := match d with
  | .list ds => decide (ds.length ≤ 600) && (dueB ds).all id
  | _ => false
/-! ### small values, and what stands beside the row of drawn numbers -/
def okD (n : Nat) (d : PyData) : Prop := d.canLay0 = true ∧ d.depth ≤ n ∧ ∀ x, d = .str x → x.length ≤ 10
def okA (n : Nat) (ds : List PyData) : Prop := ∀ d ∈ ds, okD n d
theorem okA.lay {n : Nat} : ∀ {ds : List PyData}, okA n ds → PyData.canLayAll0 ds = true
  | [], _ => rfl
  | d :: r, h => by
    show (d.canLay0 && PyData.canLayAll0 r) = true
    rw [(h d (List.mem_cons_self ..)).1, okA.lay (n := n) fun x hx => h x (List.mem_cons_of_mem _ hx)]
    rfl
theorem okA.deep {n : Nat} : ∀ {ds : List PyData}, okA n ds → PyData.depthAll ds ≤ n
  | [], _ => Nat.zero_le _
  | d :: r, h => by
    show max d.depth (PyData.depthAll r) ≤ n
    have h1 := (h d (List.mem_cons_self ..)).2.1
    have h2 := okA.deep (n := n) (ds := r) fun x hx => h x (List.mem_cons_of_mem _ hx)
    omega
theorem okA.tup {n : Nat} {ds : List PyData} (h : okA n ds) : okD (n + 1) (.tuple ds) := ⟨h.lay, Nat.succ_le_succ h.deep, fun x z => by cases z⟩
theorem okA.lst {n : Nat} {ds : List PyData} (h : okA n ds) : okD (n + 1) (.list ds) := ⟨h.lay, Nat.succ_le_succ h.deep, fun x z => by cases z⟩
theorem okA.app {n : Nat} {a b : List PyData} (h : okA n a) (g : okA n b) : okA n (a ++ b) := fun d hd => (List.mem_append.mp hd).elim (h d) (g d)
theorem okA.take {n : Nat} {a : List PyData} (k : Nat) (h : okA n a) : okA n (a.take k) := fun d hd => h d (List.mem_of_mem_take hd)
theorem okA.drop {n : Nat} {a : List PyData} (k : Nat) (h : okA n a) : okA n (a.drop k) := fun d hd => h d (List.mem_of_mem_drop hd)
theorem okA.nil {n : Nat} : okA n [] := fun d hd => by cases hd
theorem okA.cons {n : Nat} {d : PyData} {ds : List PyData} (h : okD n d) (g : okA n ds) : okA n (d :: ds) := fun x hx => (List.mem_cons.mp hx).elim (fun z => z ▸ h) (g x)
theorem okD.up {n m : Nat} {d : PyData} (h : okD n d) (k : n ≤ m) : okD m d := ⟨h.1, Nat.le_trans h.2.1 k, h.2.2⟩
theorem okA.up {n m : Nat} {d : List PyData} (h : okA n d) (k : n ≤ m) : okA m d := fun x hx => (h x hx).up k
theorem okD.non {n : Nat} : okD n .none := ⟨rfl, Nat.zero_le _, fun x z => by cases z⟩
theorem okD.bl {n : Nat} (b : Bool) : okD n (.bool b) := ⟨rfl, Nat.zero_le _, fun x z => by cases z⟩
theorem okD.int {n : Nat} (i : Int) : okD n (.int i) := ⟨rfl, Nat.zero_le _, fun x z => by cases z⟩
theorem okD.str {n : Nat} {x : Str} (h : PyData.strOk x = true) (g : x.length ≤ 10) : okD n (.str x) := ⟨h, Nat.zero_le _, fun y z => by
  injection z with z
  rw [← z]
  exact g⟩
theorem okD.shaped {n : Nat} {d : PyData} (h : okD n d) (k : n ≤ 64) : SeqAt.shaped d = true := by
  show (d.canLay0 && decide (d.depth ≤ 64)) = true
  rw [h.1, decide_eq_true (Nat.le_trans h.2.1 k)]
  rfl
/-- no great tree in it -/
def tinyD (d : PyData) : Prop := ∀ t, treeD d = some t → t.length ≤ 10
theorem treeD_some {d : PyData} {t : Str} (h : treeD d = some t) : ∃ w p0, d = .tuple [.str w, p0, .str t] := by
  unfold treeD at h
  split at h
  · rename_i w p0 t2
    by_cases c : w = Str.ofString "set"
    · rw [if_pos c] at h
      rw [← Option.some.inj h]
      exact ⟨_, _, rfl⟩
    · rw [if_neg c] at h
      cases h
  · cases h
theorem okA.tiny {n : Nat} {ds : List PyData} (h : okA n ds) : tinyD (.tuple ds) := fun t ht => by
  obtain ⟨w, p0, e⟩ := treeD_some ht
  injection e with e
  exact (h (.str t) (by rw [e]; simp)).2.2 t rfl
def goodR (d : PyData) : Prop := okD 3 d ∧ tinyD d
def goodV (d : PyData) : Prop := SeqAt.shaped d = true ∧ ∀ ds, d = .list ds → ds.length ≤ 9 ∧ ∀ x ∈ ds, tinyD x
theorem okA.goodR {n : Nat} {ds : List PyData} (h : okA n ds) (k : n ≤ 2) : goodR (.tuple ds) := ⟨h.tup.up (by omega), h.tiny⟩
theorem goodR.of {d : PyData} (h : okD 3 d) (g : ∀ ds, d ≠ .tuple ds) : Nx.goodR d := ⟨h, fun t ht => by
  obtain ⟨w, p0, e⟩ := treeD_some ht
  exact absurd e (g _)⟩
theorem goodV.of {d : PyData} {n : Nat} (h : okD n d) (k : n ≤ 64) (g : ∀ ds, d ≠ .list ds) : Nx.goodV d := ⟨h.shaped k, fun ds e => absurd e (g ds)⟩
theorem goodV.lst {ds : List PyData} (h : ∀ x ∈ ds, goodR x) (g : ds.length ≤ 9) : Nx.goodV (.list ds) := ⟨(okA.lst (n := 3) fun d hd => (h d hd).1).shaped (by decide), fun ds' e => by
  injection e with e
  rw [← e]
  exact ⟨g, fun x hx => (h x hx).2⟩⟩
/-- all but what stands at st -/
def off (st : Addr) (H : Hp) : Hp := fun a => if a = st then none else H a
theorem off_at {st a : Addr} {H : Hp} (h : a ≠ st) : off st H a = H a := if_neg h
theorem off_same {st : Addr} {H : Hp} : Same (off st H) H := fun a o h => by
  by_cases c : a = st
  · rw [Nx.off, if_pos c] at h
    cases h
  · rw [off_at c] at h
    exact h
theorem ExS.offS {st : Addr} {H H' : Hp} (e : ExS st H H') : Same (Nx.off st H) (Nx.off st H') := fun a o h => by
  by_cases c : a = st
  · rw [Nx.off, if_pos c] at h
    cases h
  · rw [off_at c] at h ⊢
    exact e a o c h
theorem _root_.L2.Same.offS {st : Addr} {H H' : Hp} (e : Same H H') : Same (Nx.off st H) (Nx.off st H') := e.exs.offS
theorem off_new {st p : Addr} {H : Hp} {o : HO} (h : Strm H st) (np : H p = none) : off st (upd H p o) p = some o := by
  rw [off_at (h.ne np)]
  exact upd_same
theorem off_tup {st b : Addr} {H : Hp} {xs : List V} (h : Strm H st) (e : H b = some (.tup xs)) : off st H b = some (.tup xs) := by
  rw [off_at]
  · exact e
  · rintro rfl
    obtain ⟨l, ns, c, i, m, h1, _⟩ := h
    rw [h1] at e
    cases e
theorem vdT {st b : Addr} {H : Hp} {xs : List V} {ds : List PyData} (h : Strm H st) (e : H b = some (.tup xs)) (hl : xs.length ≤ 1000000) (r : VdA (off st H) xs ds) : Vd (off st H) (.ref b) (.tuple ds) := .tup (off_tup h e) hl r
theorem le6 {n m : Nat} (h : Nat.ble n m = true) : n ≤ m := Nat.le_of_ble_eq_true h
theorem off_upd {D : Addr} {H : Hp} {o : HO} : off D (upd H D o) = off D H := by
  funext a
  by_cases c : a = D
  · rw [Nx.off, Nx.off, if_pos c, if_pos c]
  · rw [off_at c, off_at c, upd_ne c]
theorem same_off {D : Addr} {H : Hp} (h : H D = none) : Same H (off D H) := fun a o e => by
  rw [off_at (ne_of_none e h)]
  exact e
/-- how great the tree of an instruction is -/
def Ins.big : Ins → Nat
  | .set _ t => t.sg.length
  | _ => 0
theorem Ins.word_len (i : Ins) : i.word.length ≤ 4 := by
  cases i with
  | set a t => exact (by decide +kernel : (Str.ofString "set").length ≤ 4)
  | move a b => exact (by decide +kernel : (Str.ofString "move").length ≤ 4)
  | cons a b c => exact (by decide +kernel : (Str.ofString "cons").length ≤ 4)
  | head a b => exact (by decide +kernel : (Str.ofString "head").length ≤ 4)
  | tail a b => exact (by decide +kernel : (Str.ofString "tail").length ≤ 4)
  | jump a n => exact (by decide +kernel : (Str.ofString "jump").length ≤ 4)
theorem Ins.vda {H : Hp} (i : Ins) (h : i.big ≤ sizeLine) : VdA H i.vs (.str i.word :: i.dparts) := by
  have hz : sizeLine = 16777216 := rfl
  refine .cons (.str _ (by have := i.word_len; omega)) ?_
  cases i with
  | set a t => exact .cons (.int _) (.cons (.str _ (by rw [t.str_len]; exact h)) .nil)
  | move a b => exact .cons (.int _) (.cons (.int _) .nil)
  | cons a b c => exact .cons (.int _) (.cons (.int _) (.cons (.int _) .nil))
  | head a b => exact .cons (.int _) (.cons (.int _) .nil)
  | tail a b => exact .cons (.int _) (.cons (.int _) .nil)
  | jump a n => exact .cons (.int _) (.cons (.int _) .nil)
theorem Ins.vs_len (i : Ins) : 3 ≤ i.vs.length ∧ i.vs.length ≤ 4 := by
  cases i <;> (simp only [Ins.vs, Ins.parts, List.length_cons, List.length_nil]; omega)
theorem Ins.vd {H : Hp} {a : Addr} {i : Ins} (h : H a = some (.tup i.vs)) (hb : i.big ≤ sizeLine) : Vd H (.ref a) i.data := .tup h (by have := i.vs_len; omega) (i.vda hb)
theorem rows_vd {H : Hp} : ∀ {as : List Addr} {is : List Ins}, Rows H as is → (∀ i ∈ is, i.big ≤ sizeLine) → VdA H (as.map V.ref) (is.map Ins.data)
  | _, _, .nil, _ => .nil
  | _, _, .cons r t, h => .cons (Ins.vd r (h _ (List.mem_cons_self ..))) (rows_vd t fun i hi => h i (List.mem_cons_of_mem _ hi))
theorem rows_off {st : Addr} {H : Hp} {as : List Addr} {is : List Ins} (s : Strm H st) (h : Rows H as is) : Rows (off st H) as is := Paired.imp (fun a i q => by
  rw [off_at]
  · exact q
  · rintro rfl
    obtain ⟨l, ns, c, i, m, h1, _⟩ := s
    rw [h1] at q
    cases q) h
theorem Ins.okA (i : Ins) (h : i.big ≤ 10) : Nx.okA 0 (.str i.word :: i.dparts) := by
  refine .cons (.str i.word_ok (by have := i.word_len; omega)) ?_
  cases i with
  | set a t => exact .cons (.int _) (.cons (.str (strOk_01 t.sg_01) (by rw [t.str_len]; exact h)) .nil)
  | move a b => exact .cons (.int _) (.cons (.int _) .nil)
  | cons a b c => exact .cons (.int _) (.cons (.int _) (.cons (.int _) .nil))
  | head a b => exact .cons (.int _) (.cons (.int _) .nil)
  | tail a b => exact .cons (.int _) (.cons (.int _) .nil)
  | jump a n => exact .cons (.int _) (.cons (.int _) .nil)
theorem PgOk.big {w k : Nat} {is : List Ins} (h : PgOk w k is) : ∀ i ∈ is, i.big ≤ 2 * k + 1 := fun i hi => by
  obtain ⟨j, hj⟩ := List.getElem?_of_mem hi
  have := h j i hj
  cases i with
  | set a t =>
    have h1 := t.sg_len
    have h2 : t.pairs ≤ k := this.2
    show t.sg.length ≤ _
    omega
  | _ => exact Nat.zero_le _
/-- one of some values, at an open place -/
theorem ixL_vd {K : PySem.W.Frag} {H O : Hp} {p : Addr} {xs : List V} {ds : List PyData} {k : Nat} {Q : VK} (h : H p = some (.lst xs)) (r : VdA O xs ds) (hk : k < xs.length) (q : ∀ v d, d ∈ ds → Vd O v d → Q v H) : rIxL K (.ref p) (.int k) H Q := by
  obtain ⟨d, hd, hv⟩ := r.get' (List.getElem?_eq_getElem hk)
  exact ⟨p, xs, k, _, rfl, rfl, SqL.of h, atI_nat (List.getElem?_eq_getElem hk), q _ d (List.mem_of_getElem? hd) hv⟩
/-! ### programs among the values -/
def Ins.tree : Ins → Option Tr
  | .set _ t => some t
  | _ => none
def treesSum (is : List Ins) : Nat := ((is.filterMap Ins.tree).map fun t => t.sg.length).sum
theorem Ins.treeD (i : Ins) : Nx.treeD i.data = i.tree.map Tr.str := by
  cases i with
  | set a t =>
    show (if Str.ofString "set" = Str.ofString "set" then some t.str else none) = _
    rw [if_pos rfl]
    rfl
  | move a b => exact treeD_no _ (by decide +kernel : Str.ofString "move" ≠ Str.ofString "set")
  | cons a b c => exact treeD_no _ (by decide +kernel : Str.ofString "cons" ≠ Str.ofString "set")
  | head a b => exact treeD_no _ (by decide +kernel : Str.ofString "head" ≠ Str.ofString "set")
  | tail a b => exact treeD_no _ (by decide +kernel : Str.ofString "tail" ≠ Str.ofString "set")
  | jump a n => exact treeD_no _ (by decide +kernel : Str.ofString "jump" ≠ Str.ofString "set")
theorem fm_trees : ∀ is : List Ins, (is.map Ins.data).filterMap treeD = (is.filterMap Ins.tree).map Tr.str
  | [] => rfl
  | i :: r => by
    rw [List.map_cons, List.filterMap_cons, List.filterMap_cons, i.treeD]
    cases e : i.tree with
    | none => exact fm_trees r
    | some t =>
      show t.str :: _ = t.str :: _
      rw [fm_trees r]
theorem Ins.data_eq (i : Ins) : i.data = .tuple (.str i.word :: i.dparts) := rfl
theorem Ins.rowD {w k n j : Nat} {i : Ins} (h : i.ok w k j n) (hw : w ≤ 20) : Nx.rowD i.data j n = true := by
  rw [i.data_eq, rowD_is (shapes_at i), i.shape_kinds]
  have r : ∀ a : Nat, a < w → ∀ j n, fitsD 114 (.int a) j n = true := fun a ha j n => by
    show (decide (0 ≤ (a : Int)) && decide ((a : Int) < 20)) = true
    rw [decide_eq_true (by omega), decide_eq_true (by omega)]
    rfl
  cases i with
  | set a t =>
    show (true && (fitsD 114 (.int a) j n && (fitsD 116 (.str t.str) j n && true))) = true
    rw [r a h.1]
    rfl
  | move a b =>
    show (true && (fitsD 114 (.int a) j n && (fitsD 114 (.int b) j n && true))) = true
    rw [r a h.1, r b h.2]
    rfl
  | cons a b c =>
    show (true && (fitsD 114 (.int a) j n && (fitsD 114 (.int b) j n && (fitsD 114 (.int c) j n && true)))) = true
    rw [r a h.1, r b h.2.1, r c h.2.2]
    rfl
  | head a b =>
    show (true && (fitsD 114 (.int a) j n && (fitsD 114 (.int b) j n && true))) = true
    rw [r a h.1, r b h.2]
    rfl
  | tail a b =>
    show (true && (fitsD 114 (.int a) j n && (fitsD 114 (.int b) j n && true))) = true
    rw [r a h.1, r b h.2]
    rfl
  | jump a m =>
    show (true && (fitsD 114 (.int a) j n && ((decide (0 ≤ (j : Int) + m) && decide ((j : Int) + m ≤ n)) && true))) = true
    rw [r a h.1, decide_eq_true h.2.1, decide_eq_true h.2.2]
    rfl
theorem progOk_is {w k : Nat} {is : List Ins} (h : PgOk w k is) (hw : w ≤ 20) : progOk (progD is) = (decide (is.length ≤ 600) && decide (treesSum is ≤ 200000)) := by
  show (decide ((is.map Ins.data).length ≤ 600) && (rowsD (is.map Ins.data).length 0 (is.map Ins.data) && (decide ((((is.map Ins.data).filterMap treeD).map Str.length).sum ≤ 200000) && ((is.map Ins.data).filterMap treeD).all fun t => isT t.cps.toList))) = _
  rw [fm_trees, List.length_map]
  have e1 : rowsD is.length 0 (is.map Ins.data) = true := (rowsD_iff _ _ _).mpr fun j d hd => by
    rw [List.getElem?_map] at hd
    cases e : is[j]? with
    | none =>
      rw [e] at hd
      cases hd
    | some i =>
      rw [e] at hd
      rw [← Option.some.inj hd, Int.zero_add]
      exact Ins.rowD (h j i e) hw
  have e2 : (((is.filterMap Ins.tree).map Tr.str).all fun t => isT t.cps.toList) = true := by
    rw [List.all_eq_true]
    intro x hx
    obtain ⟨t, _, rfl⟩ := List.mem_map.mp hx
    exact isT_sg t
  have e3 : (((is.filterMap Ins.tree).map Tr.str).map Str.length).sum = treesSum is := by
    unfold treesSum
    rw [List.map_map]
    rfl
  rw [e1, e2, e3, Bool.true_and, Bool.and_true]
theorem sum_le {α : Type} (f : α → Nat) (m : Nat) : ∀ l : List α, (∀ x ∈ l, f x ≤ m) → (l.map f).sum ≤ l.length * m
  | [], _ => Nat.zero_le _
  | x :: r, h => by
    have h1 := h x (List.mem_cons_self ..)
    have h2 := sum_le f m r fun y hy => h y (List.mem_cons_of_mem _ hy)
    rw [List.map_cons, List.sum_cons, List.length_cons, Nat.succ_mul]
    omega
theorem treesSum_le {w k : Nat} {is : List Ins} (h : PgOk w k is) : treesSum is ≤ is.length * (2 * k + 1) := by
  refine Nat.le_trans (sum_le _ (2 * k + 1) _ fun t ht => ?_) (Nat.mul_le_mul_right _ (List.length_filterMap_le ..))
  obtain ⟨i, hi, e⟩ := List.mem_filterMap.mp ht
  have := h.big i hi
  cases i with
  | set a t2 =>
    rw [← Option.some.inj e]
    exact this
  | _ => cases e
theorem progOk_due {d : PyData} (g : goodV d) : progOk d = dueD d := by
  cases d with
  | list ds =>
    obtain ⟨hl, ht⟩ := g.2 ds rfl
    show (decide (ds.length ≤ 600) && (rowsD ds.length 0 ds && (decide (((ds.filterMap treeD).map Str.length).sum ≤ 200000) && (ds.filterMap treeD).all fun t => isT t.cps.toList))) = (decide (ds.length ≤ 600) && (dueB ds).all id)
    have h1 : ((ds.filterMap treeD).map Str.length).sum ≤ 200000 := by
      have h2 : ((ds.filterMap treeD).map Str.length).sum ≤ (ds.filterMap treeD).length * 10 := sum_le _ 10 _ fun t h => by
        obtain ⟨x, hx, e⟩ := List.mem_filterMap.mp h
        exact ht x hx t e
      have h3 := List.length_filterMap_le treeD ds
      omega
    rw [decide_eq_true h1, Bool.true_and]
    congr 1
    rw [Bool.eq_iff_iff, Bool.and_eq_true, rowsD_iff, List.all_eq_true, List.all_eq_true]
    have hd : ∀ j : Nat, j < ds.length → (dueB ds)[j]? = some (rowL (ds.getD j .none) j ds.length) := fun j hj => by
      unfold dueB
      rw [List.getElem?_map, List.getElem?_range hj]
      rfl
    have hg : ∀ (j : Nat) d, ds[j]? = some d → ds.getD j .none = d := fun j d h => by
      rw [List.getD_eq_getElem?_getD, h]
      rfl
    constructor
    · rintro ⟨a, b⟩ x hx
      obtain ⟨j, hj⟩ := List.getElem?_of_mem hx
      have hj2 : j < ds.length := by
        have := (List.getElem?_eq_some_iff.mp hj).1
        unfold dueB at this
        rw [List.length_map, List.length_range] at this
        exact this
      rw [hd j hj2] at hj
      have e := List.getElem?_eq_getElem hj2
      have a' := a j _ e
      rw [Int.zero_add] at a'
      rw [← Option.some.inj hj, hg j _ e]
      show (Nx.rowD ds[j] j ds.length && _) = true
      rw [a', Bool.true_and]
      cases e3 : treeD ds[j] with
      | none => rfl
      | some t => exact b t (List.mem_filterMap.mpr ⟨_, List.getElem_mem hj2, e3⟩)
    · intro a
      have a' : ∀ (j : Nat) d, ds[j]? = some d → rowL d j ds.length = true := fun j d h => by
        have hj := (List.getElem?_eq_some_iff.mp h).1
        have := a _ (List.mem_of_getElem? (hd j hj))
        rw [hg j d h] at this
        exact this
      refine ⟨fun j d h => ?_, fun t h => ?_⟩
      · have := a' j d h
        rw [Int.zero_add]
        exact (Bool.and_eq_true _ _ ▸ this : Nx.rowD d j ds.length = true ∧ _).1
      · obtain ⟨x, hx, e⟩ := List.mem_filterMap.mp h
        obtain ⟨j, hj⟩ := List.getElem?_of_mem hx
        have h1 := a' j x hj
        unfold rowL at h1
        rw [e, Bool.and_eq_true] at h1
        exact h1.2
  | _ => rfl
end Nx

/-! Codes of programs, and back. -/
namespace Nx
open PySem PySem.Spec PyProof.Rows L2
def wayT (n : Int) : Tr := .node (if n < 0 then .node .leaf .leaf else .leaf) (numT n.natAbs)
def Ins.no : Ins → Nat
  | .set _ _ => 0
  | .move _ _ => 1
  | .cons _ _ _ => 2
  | .head _ _ => 3
  | .tail _ _ => 4
  | .jump _ _ => 5
/-- the trees of the parts -/
def Ins.partsT : Ins → List Tr
  | .set a t => [numT a, t]
  | .move a b => [numT a, numT b]
  | .cons a b c => [numT a, numT b, numT c]
  | .head a b => [numT a, numT b]
  | .tail a b => [numT a, numT b]
  | .jump a n => [numT a, wayT n]
def Ins.restT : Ins → Tr
  | .set a t => .node (numT a) t
  | .move a b => .node (numT a) (numT b)
  | .cons a b c => .node (numT a) (.node (numT b) (numT c))
  | .head a b => .node (numT a) (numT b)
  | .tail a b => .node (numT a) (numT b)
  | .jump a n => .node (numT a) (wayT n)
def Ins.codeT (i : Ins) : Tr := .node (numT i.no) i.restT
def codeT (is : List Ins) : Tr := lstT (is.map Ins.codeT)
/-! ### back -/
def numOf : Tr → Option Nat
  | .leaf => some 0
  | .node .leaf r => (numOf r).map (· + 1)
  | .node (.node _ _) _ => none
theorem numOf_num (n : Nat) : numOf (numT n) = some n := by
  induction n with
  | zero => rfl
  | succ n ih =>
    show (numOf (numT n)).map (· + 1) = _
    rw [ih]
    rfl
theorem numOf_some : ∀ {t : Tr} {k : Nat}, numOf t = some k → t = numT k
  | .leaf, k, h => by
    have : 0 = k := Option.some.inj h
    rw [← this]
    rfl
  | .node .leaf r, k, h => by
    have h : (numOf r).map (· + 1) = some k := h
    cases e : numOf r with
    | none =>
      rw [e] at h
      cases h
    | some j =>
      rw [e] at h
      have : j + 1 = k := Option.some.inj h
      rw [← this, numOf_some e]
      rfl
  | .node (.node _ _) _, k, h => by cases h
theorem numOf_none {t : Tr} (h : numOf t = none) : ∀ k, t ≠ numT k := fun k e => by
  rw [e, numOf_num] at h
  cases h
def wayOf : Tr → Option Int
  | .leaf => none
  | .node s r => match numOf r with
    | none => none
    | some k => if s = .leaf then some k else if s = .node .leaf .leaf ∧ 0 < k then some (-k) else none
theorem wayOf_way (n : Int) : wayOf (wayT n) = some n := by
  unfold wayT wayOf
  dsimp only
  rw [numOf_num]
  dsimp only
  by_cases h : n < 0
  · rw [if_pos h, if_neg (by intro z; cases z), if_pos ⟨rfl, by omega⟩]
    congr 1
    omega
  · rw [if_neg h, if_pos rfl]
    congr 1
    omega
theorem wayOf_some {t : Tr} {n : Int} (h : wayOf t = some n) : t = wayT n := by
  cases t with
  | leaf => cases h
  | node s r =>
    unfold wayOf at h
    dsimp only at h
    cases e : numOf r with
    | none =>
      rw [e] at h
      cases h
    | some k =>
      rw [e] at h
      dsimp only at h
      have er := numOf_some e
      unfold wayT
      by_cases h1 : s = .leaf
      · rw [if_pos h1] at h
        have : (k : Int) = n := Option.some.inj h
        rw [← this, if_neg (by omega), h1, er]
        rfl
      · rw [if_neg h1] at h
        by_cases h2 : s = .node .leaf .leaf ∧ 0 < k
        · rw [if_pos h2] at h
          have : -(k : Int) = n := Option.some.inj h
          rw [← this, if_pos (by omega), h2.1, er, show (-(k : Int)).natAbs = k by omega]
        · rw [if_neg h2] at h
          cases h
theorem wayT_inj {n m : Int} (h : wayT n = wayT m) : n = m := by
  have := wayOf_way n
  rw [h, wayOf_way] at this
  exact (Option.some.inj this).symm
theorem Ins.codeT_inj {i j : Ins} (h : i.codeT = j.codeT) : i = j := by
  have h1 : i.no = j.no := numT_inj (Tr.node.inj h).1
  have h2 : i.restT = j.restT := (Tr.node.inj h).2
  cases i with
  | set a t =>
    cases j with
    | set a2 t2 =>
      obtain ⟨e1, e2⟩ := Tr.node.inj h2
      rw [numT_inj e1, e2]
    | _ => exact absurd h1 (by simp only [Ins.no]; decide)
  | move a b =>
    cases j with
    | move a2 b2 =>
      obtain ⟨e1, e2⟩ := Tr.node.inj h2
      rw [numT_inj e1, numT_inj e2]
    | _ => exact absurd h1 (by simp only [Ins.no]; decide)
  | cons a b c =>
    cases j with
    | cons a2 b2 c2 =>
      obtain ⟨e1, e2⟩ := Tr.node.inj h2
      obtain ⟨e2, e3⟩ := Tr.node.inj e2
      rw [numT_inj e1, numT_inj e2, numT_inj e3]
    | _ => exact absurd h1 (by simp only [Ins.no]; decide)
  | head a b =>
    cases j with
    | head a2 b2 =>
      obtain ⟨e1, e2⟩ := Tr.node.inj h2
      rw [numT_inj e1, numT_inj e2]
    | _ => exact absurd h1 (by simp only [Ins.no]; decide)
  | tail a b =>
    cases j with
    | tail a2 b2 =>
      obtain ⟨e1, e2⟩ := Tr.node.inj h2
      rw [numT_inj e1, numT_inj e2]
    | _ => exact absurd h1 (by simp only [Ins.no]; decide)
  | jump a n =>
    cases j with
    | jump a2 n2 =>
      obtain ⟨e1, e2⟩ := Tr.node.inj h2
      rw [numT_inj e1, wayT_inj e2]
    | _ => exact absurd h1 (by simp only [Ins.no]; decide)
theorem map_codeT_inj : ∀ {a b : List Ins}, a.map Ins.codeT = b.map Ins.codeT → a = b
  | [], [], _ => rfl
  | [], y :: b, h => by cases h
  | x :: a, [], h => by cases h
  | x :: a, y :: b, h => by
    obtain ⟨h1, h2⟩ := List.cons.inj h
    rw [Ins.codeT_inj h1, map_codeT_inj h2]
theorem codeT_inj {a b : List Ins} (h : codeT a = codeT b) : a = b := by
  have h1 := congrArg Tr.items h
  unfold codeT at h1
  rw [items_lstT, items_lstT] at h1
  exact map_codeT_inj h1
def decP (k : Nat) (t : Tr) : Option V := if k = 116 then some (.str t.str) else if k = 114 then (numOf t).map fun n => V.int n else (wayOf t).map V.int
def decL : List Nat → Tr → Option (List V)
  | [], _ => none
  | [k], t => (decP k t).map fun v => [v]
  | _ :: _ :: _, .leaf => none
  | k :: k2 :: ks, .node a b => match decP k a with
    | none => none
    | some v => (decL (k2 :: ks) b).map fun vs => v :: vs
def wordsL : List (Str × List Nat) := [("set", [114, 116]), ("move", [114, 114]), ("cons", [114, 114, 114]), ("head", [114, 114]), ("tail", [114, 114]), ("jump", [114, 110])]
def decV : Tr → Option (List V)
  | .leaf => none
  | .node a b => match numOf a with
    | none => none
    | some n => match wordsL[n]? with
      | none => none
      | some (w, ks) => (decL ks b).map fun vs => .str w :: vs
theorem decP_114 (t : Tr) : decP 114 t = (numOf t).map fun n => V.int n := by
  unfold decP
  rw [if_neg (by decide), if_pos rfl]
theorem decP_110 (t : Tr) : decP 110 t = (wayOf t).map V.int := by
  unfold decP
  rw [if_neg (by decide), if_neg (by decide)]
theorem decP_reg (a : Nat) : decP 114 (numT a) = some (.int a) := by
  rw [decP_114, numOf_num]
  rfl
theorem decP_way (n : Int) : decP 110 (wayT n) = some (.int n) := by
  rw [decP_110, wayOf_way]
  rfl
theorem decV_code (i : Ins) : decV i.codeT = some i.vs := by
  show (match numOf (numT i.no) with | none => none | some n => match wordsL[n]? with | none => none | some (w, ks) => (decL ks i.restT).map fun vs => V.str w :: vs) = _
  rw [numOf_num]
  cases i with
  | set a t =>
    show (match decP 114 (numT a) with | none => none | some v => (decL [116] t).map fun vs => v :: vs).map _ = _
    rw [decP_reg]
    rfl
  | move a b =>
    show (match decP 114 (numT a) with | none => none | some v => ((decP 114 (numT b)).map fun v => [v]).map fun vs => v :: vs).map _ = _
    rw [decP_reg, decP_reg]
    rfl
  | cons a b c =>
    show (match decP 114 (numT a) with | none => none | some v => (match decP 114 (numT b) with | none => none | some v => ((decP 114 (numT c)).map fun v => [v]).map fun vs => v :: vs).map fun vs => v :: vs).map _ = _
    rw [decP_reg, decP_reg, decP_reg]
    rfl
  | head a b =>
    show (match decP 114 (numT a) with | none => none | some v => ((decP 114 (numT b)).map fun v => [v]).map fun vs => v :: vs).map _ = _
    rw [decP_reg, decP_reg]
    rfl
  | tail a b =>
    show (match decP 114 (numT a) with | none => none | some v => ((decP 114 (numT b)).map fun v => [v]).map fun vs => v :: vs).map _ = _
    rw [decP_reg, decP_reg]
    rfl
  | jump a n =>
    show (match decP 114 (numT a) with | none => none | some v => ((decP 110 (wayT n)).map fun v => [v]).map fun vs => v :: vs).map _ = _
    rw [decP_reg, decP_way]
    rfl
theorem decP_regS {t : Tr} {v : V} (h : decP 114 t = some v) : ∃ a : Nat, t = numT a ∧ v = .int a := by
  rw [decP_114] at h
  cases e : numOf t with
  | none =>
    rw [e] at h
    cases h
  | some a =>
    rw [e] at h
    exact ⟨a, numOf_some e, (Option.some.inj h).symm⟩
theorem decP_wayS {t : Tr} {v : V} (h : decP 110 t = some v) : ∃ n : Int, t = wayT n ∧ v = .int n := by
  rw [decP_110] at h
  cases e : wayOf t with
  | none =>
    rw [e] at h
    cases h
  | some a =>
    rw [e] at h
    exact ⟨a, wayOf_some e, (Option.some.inj h).symm⟩
theorem decL_one {k : Nat} {t : Tr} {vs : List V} (h : decL [k] t = some vs) : ∃ v, decP k t = some v ∧ vs = [v] := by
  have h : (decP k t).map (fun v => [v]) = some vs := h
  cases e : decP k t with
  | none =>
    rw [e] at h
    cases h
  | some v =>
    rw [e] at h
    exact ⟨v, rfl, (Option.some.inj h).symm⟩
theorem decL_more {k k2 : Nat} {ks : List Nat} {t : Tr} {vs : List V} (h : decL (k :: k2 :: ks) t = some vs) : ∃ a b v us, t = .node a b ∧ decP k a = some v ∧ decL (k2 :: ks) b = some us ∧ vs = v :: us := by
  cases t with
  | leaf => cases h
  | node a b =>
    have h : (match decP k a with | none => none | some v => (decL (k2 :: ks) b).map fun vs => v :: vs) = some vs := h
    cases e : decP k a with
    | none =>
      rw [e] at h
      cases h
    | some v =>
      rw [e] at h
      dsimp only at h
      cases e2 : decL (k2 :: ks) b with
      | none =>
        rw [e2] at h
        cases h
      | some us =>
        rw [e2] at h
        exact ⟨a, b, v, us, rfl, e, e2, (Option.some.inj h).symm⟩
theorem decL_rr {t : Tr} {vs : List V} (h : decL [114, 114] t = some vs) : ∃ a b : Nat, t = .node (numT a) (numT b) ∧ vs = [.int a, .int b] := by
  obtain ⟨p, q, v, us, rfl, h1, h2, rfl⟩ := decL_more h
  obtain ⟨a, rfl, rfl⟩ := decP_regS h1
  obtain ⟨w, h3, rfl⟩ := decL_one h2
  obtain ⟨b, rfl, rfl⟩ := decP_regS h3
  exact ⟨a, b, rfl, rfl⟩
theorem decV_some {t : Tr} {vs : List V} (h : decV t = some vs) : ∃ i : Ins, vs = i.vs ∧ t = i.codeT := by
  cases t with
  | leaf => cases h
  | node a b =>
    have h : (match numOf a with | none => none | some n => match wordsL[n]? with | none => none | some (w, ks) => (decL ks b).map fun vs => V.str w :: vs) = some vs := h
    cases e : numOf a with
    | none =>
      rw [e] at h
      cases h
    | some n =>
      rw [e] at h
      have ea := numOf_some e
      have key : ∀ w ks, wordsL[n]? = some (w, ks) → ∃ us, decL ks b = some us ∧ vs = .str w :: us := fun w ks hw => by
        dsimp only at h
        rw [hw] at h
        dsimp only at h
        cases e2 : decL ks b with
        | none =>
          rw [e2] at h
          cases h
        | some us =>
          rw [e2] at h
          exact ⟨us, rfl, (Option.some.inj h).symm⟩
      match n, ea, h, key with
      | 0, ea, _, key =>
        obtain ⟨us, h0, rfl⟩ := key _ _ rfl
        obtain ⟨p, q, v, us, rfl, h1, h2, rfl⟩ := decL_more h0
        obtain ⟨r, rfl, rfl⟩ := decP_regS h1
        obtain ⟨w, h3, rfl⟩ := decL_one h2
        have h3 : some (V.str q.str) = some w := h3
        exact ⟨.set r q, by rw [← Option.some.inj h3]; rfl, by rw [ea]; rfl⟩
      | 1, ea, _, key =>
        obtain ⟨us, h0, rfl⟩ := key _ _ rfl
        obtain ⟨r, q, rfl, rfl⟩ := decL_rr h0
        exact ⟨.move r q, rfl, by rw [ea]; rfl⟩
      | 2, ea, _, key =>
        obtain ⟨us, h0, rfl⟩ := key _ _ rfl
        obtain ⟨p, q, v, us, rfl, h1, h2, rfl⟩ := decL_more h0
        obtain ⟨r, rfl, rfl⟩ := decP_regS h1
        obtain ⟨c, d, rfl, rfl⟩ := decL_rr h2
        exact ⟨.cons r c d, rfl, by rw [ea]; rfl⟩
      | 3, ea, _, key =>
        obtain ⟨us, h0, rfl⟩ := key _ _ rfl
        obtain ⟨r, q, rfl, rfl⟩ := decL_rr h0
        exact ⟨.head r q, rfl, by rw [ea]; rfl⟩
      | 4, ea, _, key =>
        obtain ⟨us, h0, rfl⟩ := key _ _ rfl
        obtain ⟨r, q, rfl, rfl⟩ := decL_rr h0
        exact ⟨.tail r q, rfl, by rw [ea]; rfl⟩
      | 5, ea, _, key =>
        obtain ⟨us, h0, rfl⟩ := key _ _ rfl
        obtain ⟨p, q, v, us, rfl, h1, h2, rfl⟩ := decL_more h0
        obtain ⟨r, rfl, rfl⟩ := decP_regS h1
        obtain ⟨w, h3, rfl⟩ := decL_one h2
        obtain ⟨m, rfl, rfl⟩ := decP_wayS h3
        exact ⟨.jump r m, rfl, by rw [ea]; rfl⟩
      | n + 6, ea, h, _ => cases h
theorem decV_none {t : Tr} (h : decV t = none) (i : Ins) : t ≠ i.codeT := fun e => by
  rw [e, decV_code] at h
  cases h
/-- numbers that are small -/
def Ins.small : Ins → Prop
  | .set a t => a < 1000 ∧ t.sg.length ≤ 200000
  | .move a b => a < 1000 ∧ b < 1000
  | .cons a b c => a < 1000 ∧ b < 1000 ∧ c < 1000
  | .head a b => a < 1000 ∧ b < 1000
  | .tail a b => a < 1000 ∧ b < 1000
  | .jump a n => a < 1000 ∧ n.natAbs < 1000
theorem Ins.ok_small {w k i n : Nat} {x : Ins} (h : x.ok w k i n) (hw : w ≤ 1000) (hk : 2 * k + 1 ≤ 200000) (hi : i ≤ n) (hn : n < 1000) : x.small := by
  cases x with
  | set a t =>
    have h2 := t.sg_len
    have h3 : t.pairs ≤ k := h.2
    exact ⟨Nat.lt_of_lt_of_le h.1 hw, by omega⟩
  | move a b => exact ⟨Nat.lt_of_lt_of_le h.1 hw, Nat.lt_of_lt_of_le h.2 hw⟩
  | cons a b c => exact ⟨Nat.lt_of_lt_of_le h.1 hw, Nat.lt_of_lt_of_le h.2.1 hw, Nat.lt_of_lt_of_le h.2.2 hw⟩
  | head a b => exact ⟨Nat.lt_of_lt_of_le h.1 hw, Nat.lt_of_lt_of_le h.2 hw⟩
  | tail a b => exact ⟨Nat.lt_of_lt_of_le h.1 hw, Nat.lt_of_lt_of_le h.2 hw⟩
  | jump a m =>
    obtain ⟨h1, h2, h3⟩ := h
    exact ⟨Nat.lt_of_lt_of_le h1 hw, by omega⟩
theorem PgOk.small {w k : Nat} {is : List Ins} (h : PgOk w k is) (hw : w ≤ 1000) (hk : 2 * k + 1 ≤ 200000) (hn : is.length < 1000) : ∀ i ∈ is, i.small := fun i hi => by
  obtain ⟨j, hj⟩ := List.getElem?_of_mem hi
  have := (List.getElem?_eq_some_iff.mp hj).1
  exact Ins.ok_small (h j i hj) hw hk (by omega) hn
/-- the parts beside their trees -/
inductive PartT : Nat → V → Tr → Prop where
  | tree (t : Tr) : PartT 116 (.str t.str) t
  | reg (a : Nat) : PartT 114 (.int a) (numT a)
  | way (n : Int) : PartT 110 (.int n) (wayT n)
theorem Ins.part_tree (i : Ins) {j c : Nat} {y : V} (h1 : i.kinds[j]? = some c) (h2 : i.parts[j]? = some y) : ∃ T, i.partsT[j]? = some T ∧ PartT c y T := by
  cases i <;> (match j, h1, h2 with
    | 0, h1, h2 => simp [Ins.kinds, Ins.parts] at h1 h2; subst h1 h2; exact ⟨_, rfl, by first | exact .reg _ | exact .tree _ | exact .way _⟩
    | 1, h1, h2 => simp [Ins.kinds, Ins.parts] at h1 h2; subst h1 h2; exact ⟨_, rfl, by first | exact .reg _ | exact .tree _ | exact .way _⟩
    | 2, h1, h2 => simp [Ins.kinds, Ins.parts] at h1 h2 <;> (subst h1 h2; exact ⟨_, rfl, by first | exact .reg _ | exact .tree _ | exact .way _⟩)
    | j + 3, h1, h2 => simp [Ins.kinds, Ins.parts] at h1 h2)
theorem wayT_len (n : Int) : (wayT n).sg.length ≤ 2 * n.natAbs + 5 := by
  unfold wayT
  show (_ ++ _ : List Nat).length + 1 ≤ _
  rw [List.length_append, numT_len]
  by_cases h : n < 0
  · rw [if_pos h]
    show 3 + _ + 1 ≤ _
    omega
  · rw [if_neg h]
    show 1 + _ + 1 ≤ _
    omega
theorem Ins.parts_small {i : Ins} (h : i.small) : ∀ T ∈ i.partsT, T.sg.length ≤ 200000 := by
  have r : ∀ a : Nat, a < 1000 → (numT a).sg.length ≤ 200000 := fun a ha => by
    rw [numT_len]
    omega
  cases i with
  | set a t => simp only [Ins.partsT, List.mem_cons, List.not_mem_nil, or_false]; rintro T (rfl | rfl); exact r _ h.1; exact h.2
  | move a b => simp only [Ins.partsT, List.mem_cons, List.not_mem_nil, or_false]; rintro T (rfl | rfl); exact r _ h.1; exact r _ h.2
  | cons a b c => simp only [Ins.partsT, List.mem_cons, List.not_mem_nil, or_false]; rintro T (rfl | rfl | rfl); exact r _ h.1; exact r _ h.2.1; exact r _ h.2.2
  | head a b => simp only [Ins.partsT, List.mem_cons, List.not_mem_nil, or_false]; rintro T (rfl | rfl); exact r _ h.1; exact r _ h.2
  | tail a b => simp only [Ins.partsT, List.mem_cons, List.not_mem_nil, or_false]; rintro T (rfl | rfl); exact r _ h.1; exact r _ h.2
  | jump a n =>
    simp only [Ins.partsT, List.mem_cons, List.not_mem_nil, or_false]
    rintro T (rfl | rfl)
    · exact r _ h.1
    · have h1 := wayT_len n
      have h2 : n.natAbs < 1000 := h.2
      omega
/-! ### t.index(x) of a tuple of texts -/
theorem vals_strs : ∀ {ys : List Str} {vs : List Value}, Vals (ys.map V.str) vs → StrsAre vs ys
  | [], _, .nil => .nil
  | y :: ys, _, .cons r rr => by
    obtain ⟨t, rfl⟩ := r
    exact .cons y t (vals_strs rr)
def rTIdx (K : PySem.W.Frag) : V → List V → Hp → VK → Prop := fun x xs H Q => ∃ (a : Addr) (ys : List Str) (k : Str), x = .ref a ∧ xs = [.str k] ∧ SqT K H a (ys.map V.str) ∧ k ∈ ys ∧ Q (.int (ys.idxOf k : Nat)) H
theorem mt_tindex {X : Cx} : MtR X "tuple.index" (rTIdx X.K) := by
  intro pins s σ H x xs v us Q I rx rxs h
  obtain ⟨a, ys, k, rfl, rfl, hs, hk, q⟩ := h
  cases rx
  cases rxs with
  | cons ry rt =>
    cases rt
    obtain ⟨t, rfl⟩ := ry
    obtain ⟨its, rv, ht, _⟩ := I.tuple hs
    exact SeqAt.tuple_index_strs ht (vals_strs rv) hk ⟨.int (ys.idxOf k : Nat), H, I.tok _, ⟨_, rfl⟩, q⟩
theorem s100 : Str.ofString "100" = (Tr.node .leaf .leaf).str := by decide +kernel
theorem sleaf : Str.ofString "0" = Tr.leaf.str := by decide +kernel
theorem is_t : Str.ofString "t" = stS [116] := by decide +kernel
theorem is_r : Str.ofString "r" = stS [114] := by decide +kernel
theorem abs_nat (n : Int) : (if n < 0 then -n else n) = ((n.natAbs : Nat) : Int) := by
  split <;> omega
theorem cutV_last (xs : List V) (v : V) : cutV (xs ++ [v]) none (some (-1)) = xs := by
  show ((xs ++ [v]).drop 0).take (HT.sIx (xs ++ [v]).length (xs ++ [v]).length (some (-1)) - 0) = xs
  have e : HT.sIx (xs ++ [v]).length (xs ++ [v]).length (some (-1)) = xs.length := by
    show (if (-1 : Int) < 0 then ((-1 : Int) + ((xs ++ [v]).length : Nat)).toNat else min (-1 : Int).toNat (xs ++ [v]).length) = _
    rw [if_pos (by decide), List.length_append, List.length_singleton]
    omega
  rw [e, List.drop_zero, Nat.sub_zero]
  exact List.take_left' rfl
theorem Ins.parts_split (i : Ins) : ∃ (init : List Tr) (last : Tr), i.partsT = init ++ [last] ∧ init.foldr Tr.node last = i.restT ∧ init.length + 1 = i.parts.length := by
  cases i with
  | set a t => exact ⟨[numT a], t, rfl, rfl, rfl⟩
  | move a b => exact ⟨[numT a], numT b, rfl, rfl, rfl⟩
  | cons a b c => exact ⟨[numT a, numT b], numT c, rfl, rfl, rfl⟩
  | head a b => exact ⟨[numT a], numT b, rfl, rfl, rfl⟩
  | tail a b => exact ⟨[numT a], numT b, rfl, rfl, rfl⟩
  | jump a n => exact ⟨[numT a], wayT n, rfl, rfl, rfl⟩
theorem node_len (a b : Tr) : (Tr.node a b).sg.length = 1 + a.sg.length + b.sg.length := by
  show (a.sg ++ b.sg).length + 1 = _
  rw [List.length_append]
  omega
theorem foldr_drop_le (t : Tr) : ∀ (l : List Tr) (k : Nat), ((l.drop k).foldr Tr.node t).sg.length ≤ (l.foldr Tr.node t).sg.length
  | [], k => by
    rw [List.drop_nil]
    exact Nat.le_refl _
  | x :: l, 0 => Nat.le_refl _
  | x :: l, k + 1 => by
    have := foldr_drop_le t l k
    rw [List.drop_succ_cons, List.foldr_cons, node_len]
    omega
theorem code_len (i : Ins) : i.codeT.sg.length = 1 + (2 * i.no + 1) + i.restT.sg.length := by
  show (Tr.node (numT i.no) i.restT).sg.length = _
  rw [node_len, numT_len]
theorem no_le (i : Ins) : i.no ≤ 5 := by cases i <;> (simp only [Ins.no]; decide)
theorem word_at (i : Ins) : i.word ∈ ([("set" : Str), ("move" : Str), ("cons" : Str), ("head" : Str), ("tail" : Str), ("jump" : Str)] : List Str) ∧ ([("set" : Str), ("move" : Str), ("cons" : Str), ("head" : Str), ("tail" : Str), ("jump" : Str)] : List Str).idxOf i.word = i.no := by
  cases i with
  | set a t => exact (by decide +kernel : (Str.ofString "set") ∈ ([("set" : Str), ("move" : Str), ("cons" : Str), ("head" : Str), ("tail" : Str), ("jump" : Str)] : List Str) ∧ ([("set" : Str), ("move" : Str), ("cons" : Str), ("head" : Str), ("tail" : Str), ("jump" : Str)] : List Str).idxOf (Str.ofString "set") = 0)
  | move a b => exact (by decide +kernel : (Str.ofString "move") ∈ ([("set" : Str), ("move" : Str), ("cons" : Str), ("head" : Str), ("tail" : Str), ("jump" : Str)] : List Str) ∧ ([("set" : Str), ("move" : Str), ("cons" : Str), ("head" : Str), ("tail" : Str), ("jump" : Str)] : List Str).idxOf (Str.ofString "move") = 1)
  | cons a b c => exact (by decide +kernel : (Str.ofString "cons") ∈ ([("set" : Str), ("move" : Str), ("cons" : Str), ("head" : Str), ("tail" : Str), ("jump" : Str)] : List Str) ∧ ([("set" : Str), ("move" : Str), ("cons" : Str), ("head" : Str), ("tail" : Str), ("jump" : Str)] : List Str).idxOf (Str.ofString "cons") = 2)
  | head a b => exact (by decide +kernel : (Str.ofString "head") ∈ ([("set" : Str), ("move" : Str), ("cons" : Str), ("head" : Str), ("tail" : Str), ("jump" : Str)] : List Str) ∧ ([("set" : Str), ("move" : Str), ("cons" : Str), ("head" : Str), ("tail" : Str), ("jump" : Str)] : List Str).idxOf (Str.ofString "head") = 3)
  | tail a b => exact (by decide +kernel : (Str.ofString "tail") ∈ ([("set" : Str), ("move" : Str), ("cons" : Str), ("head" : Str), ("tail" : Str), ("jump" : Str)] : List Str) ∧ ([("set" : Str), ("move" : Str), ("cons" : Str), ("head" : Str), ("tail" : Str), ("jump" : Str)] : List Str).idxOf (Str.ofString "tail") = 4)
  | jump a n => exact (by decide +kernel : (Str.ofString "jump") ∈ ([("set" : Str), ("move" : Str), ("cons" : Str), ("head" : Str), ("tail" : Str), ("jump" : Str)] : List Str) ∧ ([("set" : Str), ("move" : Str), ("cons" : Str), ("head" : Str), ("tail" : Str), ("jump" : Str)] : List Str).idxOf (Str.ofString "jump") = 5)
theorem trV_append (a b : List Tr) : trV (a ++ b) = trV a ++ trV b := List.map_append ..
theorem le_sum {n : Nat} : ∀ l : List Nat, n ∈ l → n ≤ l.sum
  | x :: r, h => by
    rw [List.sum_cons]
    rcases List.mem_cons.mp h with h | h
    · rw [h]
      omega
    · have := le_sum r h
      omega
theorem decL_step (k : Nat) (c : List Nat) (l : Nat) (a b : Tr) : decL (k :: (c ++ [l])) (.node a b) = match decP k a with | none => none | some v => (decL (c ++ [l]) b).map fun vs => v :: vs := by
  cases c <;> rfl
theorem decL_leaf (k : Nat) (c : List Nat) (l : Nat) : decL (k :: (c ++ [l])) .leaf = none := by
  cases c <;> rfl
theorem cut_last (l : List Nat) (x : Nat) : cutS (stS (l ++ [x])) none (some (-1)) = stS l := by
  show stS (((l ++ [x]).drop 0).take (HT.sIx (stS (l ++ [x])).length (stS (l ++ [x])).length (some (-1)) - 0)) = _
  have e : HT.sIx (stS (l ++ [x])).length (stS (l ++ [x])).length (some (-1)) = l.length := by
    show (if (-1 : Int) < 0 then ((-1 : Int) + ((stS (l ++ [x])).length : Nat)).toNat else min (-1 : Int).toNat (stS (l ++ [x])).length) = _
    rw [if_pos (by decide), stS_len, List.length_append, List.length_singleton]
    omega
  rw [e, List.drop_zero, Nat.sub_zero, List.take_left' rfl]
theorem words_at {n : Nat} (h : n < 6) : ∃ (w : Str) (sh : Str) (init : List Nat) (last : Nat), wordsL[n]? = some (w, init ++ [last]) ∧ (([("set" : Str), ("move" : Str), ("cons" : Str), ("head" : Str), ("tail" : Str), ("jump" : Str)] : List Str).map V.str)[n]? = some (.str w) ∧
    shapes.lookup w = some sh ∧ sh = stS (init ++ [last]) ∧ init.length ≤ 2 := by
  match n, h with
  | 0, _ => exact ⟨"set", "rt", [114], 116, rfl, rfl, by decide +kernel, by decide +kernel, by decide⟩
  | 1, _ => exact ⟨"move", "rr", [114], 114, rfl, rfl, by decide +kernel, by decide +kernel, by decide⟩
  | 2, _ => exact ⟨"cons", "rrr", [114, 114], 114, rfl, rfl, by decide +kernel, by decide +kernel, by decide⟩
  | 3, _ => exact ⟨"head", "rr", [114], 114, rfl, rfl, by decide +kernel, by decide +kernel, by decide⟩
  | 4, _ => exact ⟨"tail", "rr", [114], 114, rfl, rfl, by decide +kernel, by decide +kernel, by decide⟩
  | 5, _ => exact ⟨"jump", "rn", [114], 110, rfl, rfl, by decide +kernel, by decide +kernel, by decide⟩
theorem items_len (t : Tr) : ∀ x ∈ t.items, x.sg.length ≤ t.sg.length := by
  induction t with
  | leaf => intro x h; cases h
  | node a b _ ih =>
    intro x h
    rw [node_len]
    rcases List.mem_cons.mp h with h | h
    · rw [h]
      omega
    · have := ih x h
      omega
theorem progOk_len {is : List Ins} (h : ¬ is.length ≤ 600) : progOk (progD is) = false := by
  show (decide ((is.map Ins.data).length ≤ 600) && _) = false
  rw [List.length_map, decide_eq_false h, Bool.false_and]
theorem codeT_items {t : Tr} {is : List Ins} (h : t = codeT is) : t.items = is.map Ins.codeT := by
  rw [h]
  exact items_lstT _
theorem same_none {H H' : Hp} {D : Addr} (s : Same H H') (n : H' D = none) : H D = none := by
  cases z : H D with
  | none => rfl
  | some o =>
    rw [s _ _ z] at n
    cases n
theorem Ins.big_code (i : Ins) : i.big ≤ i.codeT.sg.length := by
  cases i with
  | set a t =>
    show t.sg.length ≤ (Tr.node (numT 0) (.node (numT a) t)).sg.length
    rw [node_len, node_len]
    omega
  | _ => exact Nat.zero_le _
/-! ### codes as the laws write them -/
def Ins.a : Ins → Nat
  | .set a _ => a
  | .move a _ => a
  | .cons a _ _ => a
  | .head a _ => a
  | .tail a _ => a
  | .jump a _ => a
def Ins.r2 : Ins → Tr
  | .set _ t => t
  | .move _ b => numT b
  | .cons _ b c => .node (numT b) (numT c)
  | .head _ b => numT b
  | .tail _ b => numT b
  | .jump _ n => wayT n
theorem Ins.restT_eq (i : Ins) : i.restT = .node (numT i.a) i.r2 := by cases i <;> rfl
theorem Ins.a_at (i : Ins) : i.vs[1]? = some (.int i.a) := by cases i <;> rfl
theorem Ins.small_a {i : Ins} (h : i.small) : i.a < 1000 := by
  cases i with
  | set a t => exact h.1
  | move a b => exact h.1
  | cons a b c => exact h.1
  | head a b => exact h.1
  | tail a b => exact h.1
  | jump a n => exact h.1
theorem l11 : (Str.ofString "11").length = 2 := by decide +kernel
theorem l1 : (Str.ofString "1").length = 1 := by decide +kernel
theorem l0 : (Str.ofString "0").length = 1 := by decide +kernel
theorem s11 : Str.ofString "11" = stS [49, 49] := by decide +kernel
theorem sE : Str.ofString "" = stS [] := by decide +kernel
theorem codeT_sg (is : List Ins) : (codeT is).sg = (is.map fun i => 49 :: i.codeT.sg).flatten ++ [48] := by
  unfold codeT
  rw [lstT_sg, List.map_map]
  rfl
theorem pre_len (is : List Ins) (j : Nat) : ((is.take j).map fun i => 49 :: i.codeT.sg).flatten.length + 1 ≤ (codeT is).sg.length := by
  rw [codeT_sg, List.length_append, List.length_singleton]
  conv => rhs; rw [← List.take_append_drop j is]
  rw [List.map_append, List.flatten_append, List.length_append]
  omega
theorem row_code (T : List Nat) (i : Ins) : stS T ++ Str.ofString "11" ++ (numT i.no).str ++ Str.ofString "1" ++ (numT i.a).str ++ i.r2.str = stS (T ++ (49 :: i.codeT.sg)) := by
  have e : i.codeT.sg = 49 :: ((numT i.no).sg ++ (49 :: ((numT i.a).sg ++ i.r2.sg))) := by
    show (Tr.node (numT i.no) i.restT).sg = _
    rw [i.restT_eq]
    rfl
  rw [e, s11, s1]
  unfold Tr.str
  rw [stS_app, stS_app, stS_app, stS_app, stS_app]
  congr 1
  simp only [List.append_assoc, List.cons_append, List.nil_append]
theorem r2_len (i : Ins) : i.codeT.sg.length = 3 + (numT i.no).sg.length + (numT i.a).sg.length + i.r2.sg.length - 1 := by
  show (Tr.node (numT i.no) i.restT).sg.length = _
  rw [i.restT_eq, node_len, node_len]
  omega
/-- the place of a word -/
def words6 : List V := [.str "set", .str "move", .str "cons", .str "head", .str "tail", .str "jump"]
theorem idx_word {K : PySem.W.Frag} {H : Hp} {a : Addr} {Q : VK} (i : Ins) (h : H a = some (.lst words6)) (q : Q (.int (i.no : Nat)) H) : rIndex K (.ref a) [.str i.word] H Q := by
  cases i with
  | set x t => exact ⟨a, _, _, 0, _, rfl, rfl, SqL.of h, rfl, (by decide +kernel), rfl, (by decide +kernel : eqV (.str (Str.ofString "set")) (.str (Str.ofString "set")) = true), fun m z hm => by omega, q⟩
  | move x b => exact ⟨a, _, _, 1, _, rfl, rfl, SqL.of h, rfl, (by decide +kernel), rfl, (by decide +kernel : eqV (.str (Str.ofString "move")) (.str (Str.ofString "move")) = true), idx_no 1 (by decide +kernel : ((words6.take 1).all fun z => !eqV z (.str (Str.ofString "move"))) = true), q⟩
  | cons x b c => exact ⟨a, _, _, 2, _, rfl, rfl, SqL.of h, rfl, (by decide +kernel), rfl, (by decide +kernel : eqV (.str (Str.ofString "cons")) (.str (Str.ofString "cons")) = true), idx_no 2 (by decide +kernel : ((words6.take 2).all fun z => !eqV z (.str (Str.ofString "cons"))) = true), q⟩
  | head x b => exact ⟨a, _, _, 3, _, rfl, rfl, SqL.of h, rfl, (by decide +kernel), rfl, (by decide +kernel : eqV (.str (Str.ofString "head")) (.str (Str.ofString "head")) = true), idx_no 3 (by decide +kernel : ((words6.take 3).all fun z => !eqV z (.str (Str.ofString "head"))) = true), q⟩
  | tail x b => exact ⟨a, _, _, 4, _, rfl, rfl, SqL.of h, rfl, (by decide +kernel), rfl, (by decide +kernel : eqV (.str (Str.ofString "tail")) (.str (Str.ofString "tail")) = true), idx_no 4 (by decide +kernel : ((words6.take 4).all fun z => !eqV z (.str (Str.ofString "tail"))) = true), q⟩
  | jump x n => exact ⟨a, _, _, 5, _, rfl, rfl, SqL.of h, rfl, (by decide +kernel), rfl, (by decide +kernel : eqV (.str (Str.ofString "jump")) (.str (Str.ofString "jump")) = true), idx_no 5 (by decide +kernel : ((words6.take 5).all fun z => !eqV z (.str (Str.ofString "jump"))) = true), q⟩
where
  idx_no {y : V} (k : Nat) (h : ((words6.take k).all fun z => !eqV z y) = true) : ∀ (m : Nat) (z : V), m < k → words6[m]? = some z → eqV z y = false := fun m z hm hz => by
    have h1 := List.all_eq_true.mp h z (List.mem_of_getElem? (i := m) (by rw [List.getElem?_take_of_lt hm]; exact hz))
    simpa using h1
/-! ### programs whose rows are exchanged -/
theorem Paired.set {α β : Type} {F : α → β → Prop} {a : α} {b : β} (r : F a b) : ∀ {l : List α} {m : List β} (j : Nat), Paired F l m → Paired F (l.set j a) (m.set j b)
  | _, _, _, .nil => .nil
  | _, _, 0, .cons _ t => .cons r t
  | _, _, j + 1, .cons h t => .cons h (Paired.set r j t)
theorem rows_put {H : Hp} {as : List Addr} {is : List Ins} {p T : Addr} {ys zs : List V} {x : Ins} (j : Nat) (h : Rows H as is) (hp : H p = some (.lst ys)) (hT : H T = none) : Rows (upd (upd H T (.tup x.vs)) p (.lst zs)) (as.set j T) (is.set j x) := by
  have nT : p ≠ T := ne_of_none hp hT
  refine Paired.set ?_ j (Paired.imp (fun a i q => ?_) h)
  · rw [upd_ne nT.symm, upd_same]
  · have na : a ≠ p := fun z => by
      rw [z, hp] at q
      cases q
    rw [upd_ne na, upd_ne (ne_of_none q hT)]
    exact q
theorem PgOk.set {w k j : Nat} {is : List Ins} {x : Ins} (h : PgOk w k is) (hx : x.ok w k j is.length) : PgOk w k (is.set j x) := fun i y hy => by
  rw [List.length_set]
  rw [List.getElem?_set] at hy
  by_cases c : j = i
  · rw [if_pos c] at hy
    by_cases c2 : j < is.length
    · rw [if_pos c2] at hy
      have := Option.some.inj hy
      subst this
      subst c
      exact hx
    · rw [if_neg c2] at hy
      cases hy
  · rw [if_neg c] at hy
    exact h i y hy
theorem treesSum_big (is : List Ins) : treesSum is = (is.map Ins.big).sum := by
  unfold treesSum
  induction is with
  | nil => rfl
  | cons i r ih =>
    rw [List.map_cons, List.sum_cons, ← ih]
    cases i with
    | set a t => rfl
    | move a b => exact (Nat.zero_add _).symm
    | cons a b c => exact (Nat.zero_add _).symm
    | head a b => exact (Nat.zero_add _).symm
    | tail a b => exact (Nat.zero_add _).symm
    | jump a n => exact (Nat.zero_add _).symm
theorem sum_set (v : Nat) : ∀ (l : List Nat) (j : Nat), (l.set j v).sum ≤ l.sum + v
  | [], j => by
    rw [List.set_nil]
    omega
  | x :: l, 0 => by
    rw [List.set_cons_zero, List.sum_cons, List.sum_cons]
    omega
  | x :: l, j + 1 => by
    have := sum_set v l j
    rw [List.set_cons_succ, List.sum_cons, List.sum_cons]
    omega
theorem treesSum_set (is : List Ins) (j : Nat) (x : Ins) : treesSum (is.set j x) ≤ treesSum is + x.big := by
  rw [treesSum_big, treesSum_big, List.map_set]
  exact sum_set _ _ _
theorem treesSum_rep {i : Ins} (h : i.big = 0) (n : Nat) : treesSum (List.replicate n i) = 0 := by
  rw [treesSum_big, List.map_replicate, h]
  induction n with
  | zero => rfl
  | succ n ih =>
    rw [List.replicate_succ, List.sum_cons, ih]
/-- nested in the heads and the tails by turns -/
def spT : Nat → Tr
  | 0 => .leaf
  | n + 1 => .node (.node .leaf (spT n)) .leaf
theorem spT_sg (n : Nat) : (spT n).sg = repL n [49, 49, 48] ++ repL (n + 1) [48] := by
  induction n with
  | zero => rfl
  | succ n ih =>
    show 49 :: ((49 :: ([48] ++ (spT n).sg)) ++ [48]) = _
    have h : repL (n + 1 + 1) [48] = repL (n + 1) [48] ++ [48] := by
      rw [repL_one, repL_one]
      exact List.replicate_succ'
    have h2 : repL (n + 1) [49, 49, 48] = [49, 49, 48] ++ repL n [49, 49, 48] := by
      unfold repL
      rw [List.replicate_succ, List.flatten_cons]
    rw [ih, h, h2]
    simp only [List.cons_append, List.nil_append, List.append_assoc]
theorem spT_len (n : Nat) : (spT n).sg.length = 4 * n + 1 := by
  rw [spT_sg, List.length_append, repL_len, repL_len]
  show n * 3 + (n + 1) * 1 = _
  omega
theorem sp_str (n : Nat) : stS (repL n (Str.ofString "110").cps.toList) ++ stS (repL (n + 1) (Str.ofString "0").cps.toList) = (spT n).str := by
  rw [s0, show (Str.ofString "110").cps.toList = [49, 49, 48] by decide +kernel, stS_app]
  show _ = stS (spT n).sg
  rw [spT_sg]
  rfl
theorem len110 (n : Nat) : (stS (repL n (Str.ofString "110").cps.toList)).length = 3 * n := by
  rw [stS_len, repL_len, show (Str.ofString "110").cps.toList.length = 3 by decide +kernel]
  omega
theorem ixN_nat {n j : Nat} (h : j < n) : ixN n (j : Int) = some j := by
  unfold ixN
  rw [if_pos (by omega), if_pos (by omega)]
  rfl
theorem rows_put2 {H : Hp} {as : List Addr} {is : List Ins} {p T : Addr} {ys zs : List V} {x : Ins} (j : Nat) (h : Rows H as is) (hp : H p = some (.lst ys)) (hT : H T = some (.tup x.vs)) : Rows (upd H p (.lst zs)) (as.set j T) (is.set j x) := by
  have no : ∀ a (vs : List V), H a = some (.tup vs) → a ≠ p := fun a vs q z => by
    rw [z, hp] at q
    cases q
  refine Paired.set ?_ j (Paired.imp (fun a i q => ?_) h)
  · rw [upd_ne (no T _ hT)]
    exact hT
  · rw [upd_ne (no a _ q)]
    exact q
theorem PgOk.up {w k k2 : Nat} {is : List Ins} (h : PgOk w k is) (hk : k ≤ k2) : PgOk w k2 is := fun i x hx => by
  have := h i x hx
  cases x with
  | set a t => exact ⟨this.1, Nat.le_trans this.2 hk⟩
  | _ => exact this
theorem code_bound {i : Ins} (h : i.small) : i.codeT.sg.length ≤ 7000 + i.big := by
  rw [code_len]
  have n5 := no_le i
  have r : ∀ a : Nat, a < 1000 → (numT a).sg.length ≤ 1999 := fun a ha => by
    rw [numT_len]
    omega
  cases i with
  | set a t =>
    have h1 := r a h.1
    show 1 + (2 * 0 + 1) + (Tr.node (numT a) t).sg.length ≤ 7000 + t.sg.length
    rw [node_len]
    omega
  | move a b =>
    have h1 := r a h.1
    have h2 := r b h.2
    show 1 + (2 * 1 + 1) + (Tr.node (numT a) (numT b)).sg.length ≤ 7000 + 0
    rw [node_len]
    omega
  | cons a b c =>
    have h1 := r a h.1
    have h2 := r b h.2.1
    have h3 := r c h.2.2
    show 1 + (2 * 2 + 1) + (Tr.node (numT a) (.node (numT b) (numT c))).sg.length ≤ 7000 + 0
    rw [node_len, node_len]
    omega
  | head a b =>
    have h1 := r a h.1
    have h2 := r b h.2
    show 1 + (2 * 3 + 1) + (Tr.node (numT a) (numT b)).sg.length ≤ 7000 + 0
    rw [node_len]
    omega
  | tail a b =>
    have h1 := r a h.1
    have h2 := r b h.2
    show 1 + (2 * 4 + 1) + (Tr.node (numT a) (numT b)).sg.length ≤ 7000 + 0
    rw [node_len]
    omega
  | jump a n =>
    have h1 := r a h.1
    have h2 := wayT_len n
    have h3 : n.natAbs < 1000 := h.2
    show 1 + (2 * 5 + 1) + (Tr.node (numT a) (wayT n)).sg.length ≤ 7000 + 0
    rw [node_len]
    omega
theorem codeT_bound {is : List Ins} (h : ∀ i ∈ is, i.small) : (codeT is).sg.length ≤ is.length * 7001 + treesSum is + 1 := by
  unfold codeT
  rw [lstT_len, List.length_map, treesSum_big, List.map_map]
  induction is with
  | nil => exact Nat.le_refl _
  | cons i r ih =>
    have h1 := code_bound (h i (List.mem_cons_self ..))
    have h2 := ih fun x hx => h x (List.mem_cons_of_mem _ hx)
    rw [List.map_cons, List.map_cons, List.sum_cons, List.sum_cons, List.length_cons, Nat.succ_mul]
    show r.length + 1 + (i.codeT.sg.length + _) + 1 ≤ _
    omega
theorem PgAt.vd {H : Hp} {p : Addr} {is : List Ins} (h : PgAt H p is) (hl : is.length ≤ 1000000) (hb : ∀ i ∈ is, i.big ≤ sizeLine) : Vd H (.ref p) (progD is) := by
  obtain ⟨as, h1, h2⟩ := h
  exact .lst h1 (by rw [List.length_map, Paired.len h2]; exact hl) (rows_vd h2 hb)
theorem cutV_end (xs : List V) (v : V) : cutV (xs ++ [v]) (some (-1)) none = [v] := by
  show ((xs ++ [v]).drop (HT.sIx (xs ++ [v]).length 0 (some (-1)))).take ((xs ++ [v]).length - HT.sIx (xs ++ [v]).length 0 (some (-1))) = [v]
  have e : HT.sIx (xs ++ [v]).length 0 (some (-1)) = xs.length := by
    show (if (-1 : Int) < 0 then ((-1 : Int) + ((xs ++ [v]).length : Nat)).toNat else min (-1 : Int).toNat (xs ++ [v]).length) = _
    rw [if_pos (by decide), List.length_append, List.length_singleton]
    omega
  rw [e, List.drop_left' rfl, List.length_append, Nat.add_sub_cancel_left]
  rfl
end Nx

/-! Steps of programs. -/
namespace Nx
open PySem PySem.Spec PyProof.Rows L2
def reg (rs : List Tr) (b : Nat) : Tr := rs.getD b .leaf
def Ins.isJ : Ins → Bool
  | .jump _ _ => true
  | _ => false
/-- the tree that an instruction other than a jump makes -/
def newT (i : Ins) (rs : List Tr) : Tr := match i with
  | .set _ t => t
  | .move _ b => reg rs b
  | .cons _ b c => .node (reg rs b) (reg rs c)
  | .head _ b => (reg rs b).hd
  | .tail _ b => (reg rs b).tl
  | .jump _ _ => .leaf
def stepAt (i : Ins) (k : Int) (rs : List Tr) : Int := match i with
  | .jump a n => if reg rs a = .leaf then k + 1 else k + n
  | _ => k + 1
def stepRs (i : Ins) (rs : List Tr) : List Tr := match i with
  | .jump _ _ => rs
  | _ => rs.set i.a (newT i rs)
theorem stepRs_no {i : Ins} (h : i.isJ = false) (rs : List Tr) : stepRs i rs = rs.set i.a (newT i rs) := by
  cases i with
  | jump a n => cases h
  | _ => rfl
theorem stepAt_no {i : Ins} (h : i.isJ = false) (k : Int) (rs : List Tr) : stepAt i k rs = k + 1 := by
  cases i with
  | jump a n => cases h
  | _ => rfl
theorem stepRs_len (i : Ins) (rs : List Tr) : (stepRs i rs).length = rs.length := by
  cases i with
  | jump a n => rfl
  | _ => exact List.length_set ..
theorem reg_get {rs : List Tr} {b : Nat} (h : b < rs.length) : rs[b]? = some (reg rs b) := by
  unfold reg
  rw [List.getD_eq_getElem?_getD, List.getElem?_eq_getElem h]
  rfl
theorem reg_at {rs : List Tr} {b : Nat} (h : b < rs.length) : atI (trV rs) (b : Int) = some (.str (reg rs b).str) := atI_nat (by
  unfold trV
  rw [List.getElem?_map, reg_get h]
  rfl)
theorem reg_mem {rs : List Tr} {b : Nat} (h : b < rs.length) : reg rs b ∈ rs := List.mem_of_getElem? (reg_get h)
theorem hd_len (t : Tr) : t.hd.sg.length ≤ t.sg.length := by
  cases t with
  | leaf => exact Nat.le_refl _
  | node a b =>
    rw [node_len]
    show a.sg.length ≤ _
    omega
theorem tl_len (t : Tr) : t.tl.sg.length ≤ t.sg.length := by
  cases t with
  | leaf => exact Nat.le_refl _
  | node a b =>
    rw [node_len]
    show b.sg.length ≤ _
    omega
/-- all registers below n -/
def Ins.below (i : Ins) (n : Nat) : Prop := ∀ r ∈ i.regs, r < n
theorem Ins.ok_below {w k j n : Nat} {i : Ins} (h : i.ok w k j n) : i.below w := by
  intro r hr
  cases i with
  | set a t => rw [List.mem_singleton.mp hr]; exact h.1
  | jump a m => rw [List.mem_singleton.mp hr]; exact h.1
  | move a b =>
    rcases List.mem_cons.mp hr with rfl | hr
    · exact h.1
    · rw [List.mem_singleton.mp hr]; exact h.2
  | head a b =>
    rcases List.mem_cons.mp hr with rfl | hr
    · exact h.1
    · rw [List.mem_singleton.mp hr]; exact h.2
  | tail a b =>
    rcases List.mem_cons.mp hr with rfl | hr
    · exact h.1
    · rw [List.mem_singleton.mp hr]; exact h.2
  | cons a b c =>
    rcases List.mem_cons.mp hr with rfl | hr
    · exact h.1
    · rcases List.mem_cons.mp hr with rfl | hr
      · exact h.2.1
      · rw [List.mem_singleton.mp hr]; exact h.2.2
theorem Ins.below_a {i : Ins} {n : Nat} (h : i.below n) : i.a < n := by
  cases i <;> exact h _ (List.mem_cons_self ..)
theorem newT_len {i : Ins} {rs : List Tr} {n : Nat} (hi : i.below rs.length) (hs : i.big ≤ n) (hr : ∀ t ∈ rs, t.sg.length ≤ n) (h1 : 1 ≤ n) : (newT i rs).sg.length ≤ 2 * n + 1 := by
  cases i with
  | set a t =>
    have : t.sg.length ≤ n := hs
    show t.sg.length ≤ _
    omega
  | move a b =>
    have := hr _ (reg_mem (hi b (by simp [Ins.regs])))
    show (reg rs b).sg.length ≤ _
    omega
  | cons a b c =>
    have h2 := hr _ (reg_mem (hi b (by simp [Ins.regs])))
    have h3 := hr _ (reg_mem (hi c (by simp [Ins.regs])))
    show (Tr.node (reg rs b) (reg rs c)).sg.length ≤ _
    rw [node_len]
    omega
  | head a b =>
    have h2 := hr _ (reg_mem (hi b (by simp [Ins.regs])))
    have h3 := hd_len (reg rs b)
    show (reg rs b).hd.sg.length ≤ _
    omega
  | tail a b =>
    have h2 := hr _ (reg_mem (hi b (by simp [Ins.regs])))
    have h3 := tl_len (reg rs b)
    show (reg rs b).tl.sg.length ≤ _
    omega
  | jump a m =>
    show 1 ≤ _
    omega
theorem stepRs_le {i : Ins} {rs : List Tr} {m : Nat} (hr : ∀ t ∈ rs, t.sg.length ≤ m) (hn : i.isJ = false → (newT i rs).sg.length ≤ m) : ∀ t ∈ stepRs i rs, t.sg.length ≤ m := by
  cases h : i.isJ with
  | true =>
    cases i with
    | jump a n => exact hr
    | _ => cases h
  | false =>
    rw [stepRs_no h]
    intro t ht
    rcases List.mem_or_eq_of_mem_set ht with h2 | h2
    · exact hr t h2
    · rw [h2]
      exact hn h
theorem trV_set (rs : List Tr) (j : Nat) (t : Tr) : (trV rs).set j (.str t.str) = trV (rs.set j t) := by
  unfold trV
  rw [List.map_set]
/-! ### states as data -/
def rsD (rs : List Tr) : PyData := .tuple (rs.map fun t => .str t.str)
def stD (k : Int) (rs : List Tr) : PyData := .tuple [.int k, rsD rs]
theorem rsD_dp {K : PySem.W.Frag} {H : Hp} {r : Addr} {rs : List Tr} (h : H r = some (.tup (trV rs))) : Dp K H (.ref r) (rsD rs) := .tup (SqT.of h) (trD_all rs)
theorem stD_dp {K : PySem.W.Frag} {H : Hp} {q r : Addr} {k : Int} {rs : List Tr} (h : H q = some (.tup [.int k, .ref r])) (g : H r = some (.tup (trV rs))) : Dp K H (.ref q) (stD k rs) := .tup (SqT.of h) (.cons (.int _) (.cons (rsD_dp g) .nil))
theorem rsD_lay (rs : List Tr) : (rsD rs).canLay0 = true := trD_lay rs
theorem rsD_deep (rs : List Tr) : (rsD rs).depth = 1 := by
  show PyData.depthAll (rs.map fun t => PyData.str t.str) + 1 = 1
  rw [trD_deep]
theorem rsD_shaped (rs : List Tr) : SeqAt.shaped (rsD rs) = true := by
  show ((rsD rs).canLay0 && decide ((rsD rs).depth ≤ 64)) = true
  rw [rsD_lay, rsD_deep]
  rfl
theorem stD_shaped (k : Int) (rs : List Tr) : SeqAt.shaped (stD k rs) = true := by
  show ((true && ((rsD rs).canLay0 && true)) && decide (max 0 (max (rsD rs).depth 0) + 1 ≤ 64)) = true
  rw [rsD_lay, rsD_deep]
  rfl
/-! ### what changes at one address alone -/
def But (g : Addr) (H H' : Hp) : Prop := ∀ b o, b ≠ g → H b = some o → H' b = some o
theorem _root_.L2.Same.but {g : Addr} {H H' : Hp} (s : Same H H') : But g H H' := fun b o _ h => s b o h
theorem But.trans {g : Addr} {H H1 H2 : Hp} (a : But g H H1) (b : But g H1 H2) : But g H H2 := fun c o n h => b c o n (a c o n h)
theorem rows_but {g : Addr} {H H' : Hp} {as : List Addr} {is : List Ins} {ys : List V} (h : Rows H as is) (e : But g H H') (hg : H g = some (.lst ys)) : Rows H' as is := Paired.imp (fun a i q => e a _ (fun z => by
  rw [z, hg] at q
  cases q) q) h
theorem PgAt.but {g p : Addr} {H H' : Hp} {is : List Ins} {ys : List V} (h : PgAt H p is) (n : p ≠ g) (e : But g H H') (hg : H g = some (.lst ys)) : PgAt H' p is := by
  obtain ⟨as, h1, h2⟩ := h
  exact ⟨as, e _ _ n h1, rows_but h2 e hg⟩
theorem Strm.but {g st : Addr} {H H' : Hp} {rs : List Tr} (s : Strm H st) (n : st ≠ g) (e : But g H H') (hg : H g = some (.lst (trV rs))) (hr : rs ≠ []) : Strm H' st := by
  obtain ⟨l, ns, c, i, m, h1, h2, h3⟩ := s
  refine ⟨l, ns, c, i, m, e _ _ n h1, e _ _ (fun z => ?_) h2, h3⟩
  rw [z, hg] at h2
  have h4 := HO.lst.inj (Option.some.inj h2)
  cases rs with
  | nil => exact hr rfl
  | cons t r =>
    cases ns with
    | nil => cases h4
    | cons x y => cases (List.cons.inj h4).1
theorem stepAt_ok {w k : Nat} {is : List Ins} {i : Ins} {rs : List Tr} (h : PgOk w k is) {j : Nat} (hi : is[j]? = some i) : ∃ j2 : Nat, stepAt i j rs = (j2 : Int) ∧ j2 ≤ is.length := by
  have hl := (List.getElem?_eq_some_iff.mp hi).1
  have h1 := h j i hi
  cases hj : i.isJ with
  | false => exact ⟨j + 1, by rw [stepAt_no hj]; rfl, by omega⟩
  | true =>
    cases i with
    | jump a n =>
      obtain ⟨_, h2, h3⟩ := h1
      by_cases c : reg rs a = .leaf
      · exact ⟨j + 1, if_pos c, by omega⟩
      · refine ⟨((j : Int) + n).toNat, ?_, by omega⟩
        have : stepAt (.jump a n) j rs = (j : Int) + n := if_neg c
        rw [this]
        omega
    | _ => cases hj
theorem strs_trV {ys : List V} {n : Nat} (h : ∀ y ∈ ys, ∃ t : Tr, y = .str t.str ∧ t.sg.length ≤ n) : ∃ rs : List Tr, ys = trV rs ∧ ∀ t ∈ rs, t.sg.length ≤ n := trV_of h
theorem leafs (n : Nat) : (List.replicate n [V.str "0"]).flatten = trV (List.replicate n .leaf) := by
  rw [sleaf]
  unfold trV
  induction n with
  | zero => rfl
  | succ n ih =>
    rw [List.replicate_succ, List.flatten_cons, ih, List.replicate_succ]
    rfl
end Nx

/-! A method within a try; a text read from its end. -/
namespace Nx
open PySem PySem.Spec PyProof.Rows L2
/-- o.m(e, ..) where what is raised is told by the slots -/
def tMS (C : Addr) (m : Str) (sp : Sp) (EE : L2.St → XK) (to_ : TE) (tas : TA) : TE := fun σ H Q => to_ σ H fun o H1 =>
  ∃ a dx fs, o = .ref a ∧ H1 a = some (.ins C dx fs) ∧ fs.lookup m = none ∧ tas σ H1 fun ws H2 => sp (o :: ws) H2 Q (EE σ)
section
variable {X : Cx}
theorem pe_mS {CX : CXT} {lv : Nat} {g C : Addr} {fun_ : FuncData} {names : List Str} {sp : Sp} {EE : L2.St → XK} {m : Str} {p1 p2 : Pos} {a1 ob : Expr} {more : List Expr} {to_ : TE} {tas : TA} {pl : Sem Bool}
    (ho : PE X ob to_) (hC : Cls X.K C) (hM : Meth X.K C m g) (hF : FnOk X.prog X.w X.K X.mg X.base CX lv g fun_ names sp) (hR : Room lv X.A) (hB : Binds X.K fun_ names [])
    (hE : ∀ σ, PassesAt CX X σ (EE σ)) (hA : PA X (a1 :: more) tas)
    (hn : starEach (a1 :: more) X.env = (false, eval a1 X.env) :: starEach more X.env := by rfl) (hk : (backTo p1 (starEach more X.env)).any (·.1) = false := by rfl)
    (hv : eval (.Call (.Attribute ob m p2) (a1 :: more) [] p1) X.env = (do
      let self ← eval ob X.env
      standAt p2.atName
      let (g, front) ← holding [self] (getMethod self m pl)
      callWith p1 g front (backTo p1 (starEach (a1 :: more) X.env)) (backToKw p1 (keywordEach [] X.env))) := by rfl) :
    PE X (.Call (.Attribute ob m p2) (a1 :: more) [] p1) (tMS C m sp EE to_ tas) := by
  constructor
  intro pins s σ H Q I h
  apply PySem.W.methodCall_KW (pl := pl) _ hv
  refine thn (ho.run pins s σ H _ I h) ?_
  rintro u s1 ⟨x, H1, I1, rx, a, dx, fs, rfl, ea, none_, q⟩
  cases rx
  refine getmeth_ok I1 ea hC hM none_ (PySem.W.callWith_K (first := [.ref a]) (h₀ := X.base) I.ok.mod.kin hM.kp ?_ hn hk)
  refine thn (hA.run p1 pins s1 σ H1 _ I1 q) ?_
  rintro us s2 ⟨ws, H2, I2, r, q2⟩
  exact ⟨I2.kIn, run_fnS (us := .ref a :: us) (vs := .ref a :: ws) hF hR hB (hE σ) I2 (.cons rfl r) q2⟩
end
/-! ### reversed(text) -/
theorem str_norev : typeLookup (.type "str") "__reversed__" = pure none := by
  rw [typeLookup_type, builtinLookup_eq_fast]
  kernel_rfl
def revOb (x : Str) (t : Tok) (i : Int) : Obj := { cls := .type "reversed", data := .fields #[.str x t, rawInt i] }
def AtRev (h : Heap) (q : Addr) (x : Str) (i : Int) : Prop := ∃ o t, h.get? q = some o ∧ o.cls = .type "reversed" ∧ o.data = .fields #[.str x t, rawInt i]
theorem AtRev.on {h h' : Heap} {q : Addr} {x : Str} {i : Int} (z : AtRev h q x i) (k : ∀ o, h.get? q = some o → h'.get? q = some o) : AtRev h' q x i := by
  obtain ⟨o, t, ho, c, d⟩ := z
  exact ⟨o, t, k _ ho, c, d⟩
section
variable {prog : Program} {w : World} {A : Around} {E : Value → Shared → Prop} {s : Shared}
theorem rev_code {x : Str} {t : Tok} {R : Value → Shared → Prop} (hx : x.length ≤ sizeLine)
    (h : R (.ref s.heap.objs.size) { s with heap := s.heap.push (revOb x t ((x.length : Int) - 1)), toks := s.toks + 1 + 1 }) :
    codeAny (model prog w) A (.call (.builtin "reversed.__new__") ⟨[.type "reversed", .str x t], []⟩) (wants R E) s := by
  have hT : s.TypeIs (.str x t) "str" := typeIs_str s x t
  apply codeAny_of_tree
  show wpAny _ A.in1 (checkBuiltinCall "reversed.__new__" ⟨[.type "reversed", .str x t], []⟩ >>= fun _ => again (.builtin "reversed.__new__" ⟨[.type "reversed", .str x t], []⟩)) _ _ s
  apply wpAny_bind
  refine wpAny_of_eq (F.newCall_reversed_1 _) (wpAny_pure ⟨plainId_quiet F.plain_reversed_new _, codeAny_builtin F.entry_reversed_new ?_⟩)
  rw [Around.under_plainId F.plain_reversed_new _]
  unfold Builtin.«reversed.__new__»
  apply wpAny_bind
  refine wpAny_of_eq (newClass_reversed _) ?_
  try dsimp only
  apply wpAny_bind
  refine wpAny_of_eq (a := ()) (by first | rfl | kernel_rfl) ?_
  try dsimp only
  apply wpAny_bind
  refine wpAny_of_eq (a := ()) (by first | rfl | kernel_rfl) ?_
  try dsimp only
  apply wpAny_bind
  refine wpAny_specialOf hT str_norev ?_
  try dsimp only
  apply wpAny_bind
  wp_delta
  apply wpAny_bind
  refine wpAny_isInstance (T := "str") (U := "dict") (b := false) hT PySem.F.sub_str_dict ?_
  try dsimp only
  rw [if_neg Bool.false_ne_true]
  apply wpAny_bind
  refine wpAny_specialOf hT PySem.F.slot_str_getitem.lookup ?_
  try dsimp only
  first | rw [if_pos (by decide +kernel)] | skip
  apply wpAny_pure
  try dsimp only
  rw [if_neg (by decide)]
  apply wpAny_bind
  have hn := line63
  refine len_str (x := x) (t := t) (by omega) ?_
  apply wpAny_bind
  refine wpAny_of_eq (a := some ((x.length : Nat) : Int)) rfl ?_
  try dsimp only
  apply wpAny_bind
  show wpAny _ _ (newObj (.type "reversed") (.fields #[.str x t, rawInt ((x.length : Int) - 1)])) _ _ _
  exact wpAny_newObj_type (wpAny_pure h)
theorem rev_call {x : Str} {t : Tok} {Q : Value → Shared → Prop} (hx : x.length ≤ sizeLine)
    (h : Q (.ref s.heap.objs.size) { s with heap := s.heap.push (revOb x t ((x.length : Int) - 1)), toks := s.toks + 1 + 1 }) :
    wpAny (model prog w) A (call (.type "reversed") [.str x t]) Q E s := by
  refine callType_codes (Q₁ := fun ob s₁ => s₁.TypeIs ob "reversed" ∧ Q ob s₁) RT.called_rt (F.typeCall_reversed_1 _) F.entry_object_init
    (rev_code hx ⟨⟨_, Heap.get?_push_size _ rfl, rfl⟩, h⟩) ?_
  intro ob s₁ h₁
  exact ⟨h₁.1, F.args_object_init_2 ob _, object_init_meets RT.called_rt.init.lookup RT.called_rt.made (by decide) prog w A.in1 _ s₁ ⟨h₁.1, rfl, h₁.2⟩⟩
theorem rev_next {q : Addr} {x : Str} {i c : Nat} {Q : Option Value → Shared → Prop} (z : AtRev s.heap q x (i : Int)) (hc : x.cps[i]? = some c) (hx : x.length ≤ sizeLine)
    (k : ∀ h' t tk, AtRev h' q x ((i : Int) - 1) → Heap.SameBut q s.heap h' → Q (some (.str ⟨#[c]⟩ t)) { s with heap := h', toks := tk }) : wpAny (model prog w) A (pyNext (.ref q)) Q E s := by
  obtain ⟨o, t, ho, oc, od⟩ := id z
  have hi : i < x.length := (Array.getElem?_eq_some_iff.mp hc).1
  have hq : s.TypeIs (.ref q) "reversed" := ⟨o, ho, oc⟩
  have hn := line63
  have hT : s.TypeIs (.str x t) "str" := typeIs_str s x t
  unfold pyNext
  apply wpAny_bind
  refine wpAny_attempt (wpAny_callSpecial?_slot (name := Str.ofString "__next__") hq RT.slot_rt_next (wpAny_call_entry RT.slot_rt_next hq RT.entry_rt_next ?_ (RT.args_rt_next _)))
  unfold Builtin.«reversed.__next__»
  apply wpAny_bind
  refine wpAny_of_eq (a := (Value.ref q, [])) rfl ?_
  try dsimp only
  apply wpAny_bind
  refine wpAny_field ho od (x := .str x t) rfl ?_
  apply wpAny_bind
  refine wpAny_field ho od (x := rawInt (i : Int)) rfl ?_
  show wpAny _ _ (if (i : Int) < 0 then _ else _) _ _ s
  rw [if_neg (by omega)]
  apply wpAny_bind
  refine wpAny_specialOf hT PySem.F.slot_str_getitem.lookup ?_
  try dsimp only
  rw [if_neg (by decide)]
  apply wpAny_bind
  refine wpAny_mkInt ?_
  apply wpAny_bind
  apply wpAny_attempt
  have at_ : (seqIndex? (i : Int) x.length).bind (x.cps[·]?) = some c := by
    rw [seqIndex_of (k := i) (by omega) (by omega)]
    exact hc
  refine getItem_str (s := { s with toks := s.toks + 1 }) (by simp only [Bool.or_eq_false_iff, decide_eq_false_iff_not]; omega) at_ ?_
  try dsimp only
  apply wpAny_bind
  refine wpAny_field (s := { s with toks := s.toks + 1 + 1 }) ho od (x := rawInt (i : Int)) rfl ?_
  try dsimp only
  apply wpAny_bind
  refine wpAny_setField (s := { s with toks := s.toks + 1 + 1 }) ho od (by simp) ?_
  have fin : AtRev (s.heap.update q (Obj.mapFields (·.setIfInBounds 1 (rawInt ((i : Int) - 1))))) q x ((i : Int) - 1) :=
    ⟨_, t, Heap.get?_update_self _ ho (Obj.isFreed_of_fields (Obj.data_mapFields od _)), (Obj.cls_mapFields ..).trans oc, by rw [Obj.data_mapFields od]; simp⟩
  first
  | exact wpAny_pure ⟨_, rfl, wpAny_pure (k _ _ _ fin (Heap.SameBut.update ..))⟩
  | exact wpAny_bind (wpAny_pure (wpAny_pure ⟨_, rfl, wpAny_pure (k _ _ _ fin (Heap.SameBut.update ..))⟩))
theorem rev_done {q : Addr} {x : Str} {Q : Option Value → Shared → Prop} (hh : A.handled = none) (z : AtRev s.heap q x (-1))
    (k : ∀ h', Heap.ExtBut q s.heap h' → Q none { s with heap := h' }) : wpAny (model prog w) A (pyNext (.ref q)) Q E s := by
  obtain ⟨o, t, ho, oc, od⟩ := id z
  have hq : s.TypeIs (.ref q) "reversed" := ⟨o, ho, oc⟩
  unfold pyNext
  apply wpAny_bind
  refine wpAny_attempt (wpAny_callSpecial?_slot (name := Str.ofString "__next__") hq RT.slot_rt_next (wpAny_call_entry RT.slot_rt_next hq RT.entry_rt_next ?_ (RT.args_rt_next _)))
  unfold Builtin.«reversed.__next__»
  apply wpAny_bind
  refine wpAny_of_eq (a := (Value.ref q, [])) rfl ?_
  try dsimp only
  apply wpAny_bind
  refine wpAny_field ho od (x := .str x t) rfl ?_
  apply wpAny_bind
  refine wpAny_field ho od (x := rawInt (-1)) rfl ?_
  show wpAny _ _ (if (-1 : Int) < 0 then _ else _) _ _ s
  rw [if_pos (by decide)]
  apply wpAny_bind
  apply wpAny_rule
  apply wpAny_bind
  wp_delta
  apply wpAny_bind
  refine wpAny_setField ho od (by simp) ?_
  have ho2 := Heap.get?_update_self (Obj.mapFields (·.setIfInBounds 1 (rawInt (-1)))) ho (Obj.isFreed_of_fields (Obj.data_mapFields od _))
  refine wpAny_setField (s := { s with heap := s.heap.update q (Obj.mapFields (·.setIfInBounds 1 (rawInt (-1)))) }) ho2 (Obj.data_mapFields od _) (by simp) ?_
  try dsimp only
  first
  | show wpAny _ _ (newExc (.type "StopIteration") [] >>= _) _ _ _
  | (apply wpAny_bind; show wpAny _ _ (newExc (.type "StopIteration") [] >>= _) _ _ _)
  | (apply wpAny_bind; wp_delta; show wpAny _ _ (newExc (.type "StopIteration") [] >>= _) _ _ _)
  apply wpAny_bind
  simp only [newExc, newTuple]
  apply wpAny_bind
  refine wpAny_newObj_type ?_ (by size_fits)
  apply wpAny_bind (m := firstArgMember _ _)
  refine wpAny_of_eq (a := Value.none) (by first | rfl | (simp only [firstArgMember]; rfl)) ?_
  refine wpAny_newObj_type ?_ (by size_fits)
  simp only [raiseNew]
  apply wpAny_bind
  apply wpAny_handled
  first | rw [show A.in1.handled = none from hh] | rw [hh]
  refine wpAny_bind (wpAny_pure (wpAny_throw ?_))
  apply wpAny_bind
  refine wpAny_isInstance (T := "StopIteration") (b := true) ⟨_, Heap.get?_push_size _ rfl, rfl⟩ isSubtype_stop ?_
  apply wpAny_pure
  apply k
  have e0 : Heap.ExtBut q s.heap ((s.heap.update q (Obj.mapFields (·.setIfInBounds 1 (rawInt (-1))))).update q (Obj.mapFields (·.setIfInBounds 0 .none))) :=
    fun b ob hb e => (Heap.get?_update_other _ _ (Ne.symm hb)).trans ((Heap.get?_update_other _ _ (Ne.symm hb)).trans e)
  exact (e0.push _).push _
theorem rev_iter {q : Addr} {x : Str} {i : Int} {Q : Value → Shared → Prop} (z : AtRev s.heap q x i) (h : Q (.ref q) s) : wpAny (model prog w) A (pyIter (.ref q)) Q E s := by
  obtain ⟨o, t, ho, oc, od⟩ := id z
  have hq : s.TypeIs (.ref q) "reversed" := ⟨o, ho, oc⟩
  refine wpAny_pyIter_slot hq RT.slot_rt_iter (wpAny_call_entry RT.slot_rt_iter hq RT.entry_rt_iter ?_ (RT.args_rt_iter _))
  show wpAny _ _ (ret (.ref q)) _ _ s
  exact wpAny_pure ⟨_, rfl, "reversed", _, hq, RT.slot_rt_next.lookup, h⟩
end
/-- the signs of x from the last one on -/
def ItR (x : Str) : It := ⟨fun i _ => i < x.cps.size, fun i H v H' => H' = H ∧ ∃ c, x.cps[x.cps.size - 1 - i]? = some c ∧ v = .str ⟨#[c]⟩, fun i _ => x.cps.size ≤ i⟩
theorem turn_revS {P : Program} {w : World} {K : PySem.W.Frag} {tg : Expr} (q : Addr) (x : Str) (hx : x.cps.size ≤ sizeLine) :
    Turn P w K tg (ItR x) [q] q (fun i h => i ≤ x.cps.size ∧ AtRev h q x ((x.cps.size : Int) - 1 - (i : Nat))) where
  mem := List.mem_singleton.mpr rfl
  obj := by
    rintro i h ⟨_, o, t, e, c, d⟩ b hb
    cases List.mem_singleton.mp hb
    exact ⟨o, e, fun v z => by rw [d] at z; cases z⟩
  keep := fun i h h' st k => ⟨st.1, st.2.on fun o e => k q (List.mem_singleton.mpr rfl) o e⟩
  item := by
    intro X hP hw hK hc i pins s σ H E I hf st hg
    subst hP hw hK
    obtain ⟨f0, f1, f2, f3, f4, f5⟩ := hf q (List.mem_singleton.mpr rfl)
    obtain ⟨le, z⟩ := st
    have lt : i < x.cps.size := hg
    have e1 : (x.cps.size : Int) - 1 - ((i : Nat) : Int) = ((x.cps.size - 1 - i : Nat) : Int) := by omega
    have hcp : x.cps[x.cps.size - 1 - i]? = some x.cps[x.cps.size - 1 - i] := Array.getElem?_eq_getElem (by omega)
    rw [e1] at z
    refine rev_next z hcp hx fun h' t tk z' sb => ?_
    have e2 : ((x.cps.size - 1 - i : Nat) : Int) - 1 = (x.cps.size : Int) - 1 - ((i + 1 : Nat) : Int) := by omega
    rw [e2] at z'
    have I1 : Inv X pins σ H { s with heap := h', toks := tk } := I.turned (t' := tk) (fun b o hb e => (sb.2 b hb).trans e) f0 f1 f3 f4 f5
    obtain ⟨o, t', e, c, d⟩ := id z'
    exact ⟨_, rfl, go_of (s := { s with heap := h', toks := tk }) e c d (by decide) ⟨.str ⟨#[x.cps[x.cps.size - 1 - i]]⟩, H, I1, ⟨t, rfl⟩, ⟨rfl, _, hcp, rfl⟩, ⟨lt, z'⟩, fun b hb => (hf b hb).1⟩⟩
  done := by
    intro X hP hw hK hc i pins s σ H E I hf st hg
    subst hP hw hK
    obtain ⟨f0, f1, f2, f3, f4, f5⟩ := hf q (List.mem_singleton.mpr rfl)
    obtain ⟨le, z⟩ := st
    have ge : x.cps.size ≤ i := hg
    have e1 : (x.cps.size : Int) - 1 - ((i : Nat) : Int) = -1 := by omega
    rw [e1] at z
    exact rev_done (I.ok.hd hc) z fun h' eb => ⟨rfl, I.turned (t' := s.toks) (fun b o hb e => eb b o hb e) f0 f1 f3 f4 f5⟩
  self := fun A i s Q E st h => rev_iter st.2 h
def iRevS (te : TE) : TI := fun σ H R => te σ H fun v H1 => ∃ x, v = .str x ∧ x.cps.size ≤ sizeLine ∧ R (ItR x) H1
theorem pi_revS {X : Cx} {tg e : Expr} {te : TE} {p pos : Pos} (hg : Gl X "reversed") (hm : X.mg "reversed" = none) (he : PE X e te) (hs : starEach [e] X.env = (false, eval e X.env) :: starEach [] X.env := by rfl) :
    PI X tg (.Call (.Name "reversed" p) [e] [] pos) (iRevS te) := by
  constructor
  intro pins s σ H R I h
  refine Call_ (ld_blt I hg hm PyProof.Rows.boot_reversed (PyProof.Rows.callWith_type1 (args_cons (thn (he.run pins s σ H _ I h) ?_) hs) hs rfl))
  rintro u s1 ⟨v, H1, I1, r1, x, rfl, hx, q⟩
  obtain ⟨t, rfl⟩ := r1
  refine args_nil (rev_call hx (rev_iter (x := x) (i := (x.cps.size : Int) - 1) ⟨_, t, Heap.get?_push_size _ rfl, rfl, rfl⟩ ?_))
  refine pi_one (tk := s1.toks + 1 + 1) I1 _ (turn_revS _ x hx) ⟨Nat.zero_le _, ?_⟩ q
  have e1 : (x.cps.size : Int) - 1 - ((0 : Nat) : Int) = (x.cps.size : Int) - 1 := by omega
  rw [e1]
  exact ⟨_, t, Heap.get?_push_size _ rfl, rfl, rfl⟩
/-- a loop over a text's signs from the end: what is left, what is done -/
theorem for_revS {x : Str} {g : TG} {tb : TS} {D : Ends} {σ : L2.St} {H : Hp} (Pv : List Nat → List Nat → L2.St → Hp → Prop) (h0 : Pv x.cps.toList [] σ H)
    (hs : ∀ a c r σ H, a ++ c :: r = x.cps.toList → Pv (a ++ [c]) r σ H → g (.str (stS [c])) σ H fun σ2 H2 => tb { D with nx := Pv a (c :: r), ct := Pv a (c :: r), bk := D.nx } σ2 H2)
    (hd : ∀ σ H, Pv [] x.cps.toList σ H → D.nx σ H) :
    ∃ W : Nat → Nat → L2.St → Hp → Prop, (∃ m, W 0 m σ H) ∧ ∀ i m σ H, W i m σ H →
      ((ItR x).stop i H ∧ D.nx σ H) ∨ ((ItR x).go i H ∧ ∃ N : L2.St → Hp → Prop, (∀ σ' H', N σ' H' → ∃ m', m' < m ∧ W (i + 1) m' σ' H') ∧ ∀ v H', (ItR x).yld i H v H' → g v σ H' fun σ2 H2 => tb { D with nx := N, ct := N, bk := D.nx } σ2 H2) := by
  have hz : x.cps.toList.length = x.cps.size := Array.length_toList
  let n := x.cps.size
  refine ⟨fun i m σ H => m = n - i ∧ i ≤ n ∧ Pv (x.cps.toList.take (n - i)) (x.cps.toList.drop (n - i)) σ H, ⟨_, rfl, Nat.zero_le _, ?_⟩, ?_⟩
  · have e1 : x.cps.toList.take (n - 0) = x.cps.toList := List.take_of_length_le (by omega)
    have e2 : x.cps.toList.drop (n - 0) = [] := List.drop_eq_nil_of_le (by omega)
    rw [e1, e2]
    exact h0
  · rintro i m σ H ⟨rfl, hi, p⟩
    by_cases lt : i < n
    · have e0 : n - i = (n - 1 - i) + 1 := by omega
      have hl : n - 1 - i < x.cps.toList.length := by omega
      have e1 := List.drop_eq_getElem_cons hl
      have e2 : x.cps.toList.take (n - 1 - i + 1) = x.cps.toList.take (n - 1 - i) ++ [x.cps.toList[n - 1 - i]] := by
        rw [List.take_add_one, List.getElem?_eq_getElem hl]
        rfl
      have e3 : n - 1 - i = n - (i + 1) := by omega
      refine .inr ⟨lt, Pv (x.cps.toList.take (n - (i + 1))) (x.cps.toList.drop (n - (i + 1))), fun σ' H' p' => ⟨n - (i + 1), by omega, rfl, lt, p'⟩, ?_⟩
      rintro v H' ⟨rfl, c, hc, rfl⟩
      have ec : c = x.cps.toList[n - 1 - i] := by
        have : x.cps[n - 1 - i]? = some x.cps.toList[n - 1 - i] := by
          rw [← Array.getElem?_toList]
          exact List.getElem?_eq_getElem hl
        exact Option.some.inj (hc.symm.trans this)
      have hy : x.cps.toList[n - 1 - i]? = some c := by rw [ec]; exact List.getElem?_eq_getElem hl
      rw [← ec] at e1 e2
      clear ec hc
      rw [e0, e2] at p
      have := hs (x.cps.toList.take (n - 1 - i)) c (x.cps.toList.drop (n - 1 - i + 1)) σ _ (by rw [← e1, List.take_append_drop]) p
      rw [← e1, e3] at this
      exact this
    · have e : n - i = 0 := by omega
      rw [e] at p
      exact .inl ⟨Nat.le_of_not_lt lt, hd σ H p⟩
end Nx

/-! Trees by their numbers; many steps. -/
namespace Nx
open PySem PySem.Spec PyProof.Rows L2
/-! ### reading a tree from its end -/
def stO : List Nat → Option (List Tr)
  | [] => some []
  | c :: r => if c = 49 then (match stO r with
    | some (a :: b :: q) => some (.node a b :: q)
    | _ => none) else (stO r).map (.leaf :: ·)
theorem stO_tree : ∀ (t : Tr) (r : List Nat) (us : List Tr), stO r = some us → stO (t.sg ++ r) = some (t :: us)
  | .leaf, r, us, h => by
    show (stO r).map (Tr.leaf :: ·) = _
    rw [h]
    rfl
  | .node a b, r, us, h => by
    have hb := stO_tree b r us h
    have ha := stO_tree a (b.sg ++ r) (b :: us) hb
    have e : (Tr.node a b).sg ++ r = 49 :: (a.sg ++ (b.sg ++ r)) := by
      show 49 :: (a.sg ++ b.sg) ++ r = _
      rw [List.cons_append, List.append_assoc]
    rw [e]
    show (match stO (a.sg ++ (b.sg ++ r)) with
      | some (a :: b :: q) => some (Tr.node a b :: q)
      | _ => none) = _
    rw [ha]
theorem stO_suf : ∀ (a r : List Nat) (us : List Tr), stO (a ++ r) = some us → ∃ vs, stO r = some vs
  | [], r, us, h => ⟨us, h⟩
  | c :: a, r, us, h => by
    have h : (if c = 49 then (match stO (a ++ r) with
      | some (a :: b :: q) => some (Tr.node a b :: q)
      | _ => none) else (stO (a ++ r)).map (Tr.leaf :: ·)) = some us := h
    cases e : stO (a ++ r) with
    | none =>
      rw [e] at h
      split at h <;> cases h
    | some vs => exact stO_suf a r vs e
theorem stO_one {t : Tr} : stO t.sg = some [t] := by
  have := stO_tree t [] [] rfl
  rwa [List.append_nil] at this
theorem stO_49 {r : List Nat} {us : List Tr} (h : stO (49 :: r) = some us) : ∃ a b q, stO r = some (a :: b :: q) ∧ us = .node a b :: q := by
  have h : (match stO r with
    | some (a :: b :: q) => some (Tr.node a b :: q)
    | _ => none) = some us := h
  split at h
  · rename_i a b q e
    exact ⟨a, b, q, e, (Option.some.inj h).symm⟩
  · cases h
theorem stO_48 {r : List Nat} {us : List Tr} (h : stO (48 :: r) = some us) : ∃ q, stO r = some q ∧ us = .leaf :: q := by
  have h : (stO r).map (Tr.leaf :: ·) = some us := h
  cases e : stO r with
  | none =>
    rw [e] at h
    cases h
  | some q =>
    rw [e] at h
    exact ⟨q, rfl, (Option.some.inj h).symm⟩
/-! ### the table -/
def Ext (T T' : List Tr) : Prop := ∀ (k : Nat) (s : Tr), T[k]? = some s → T'[k]? = some s
theorem Ext.refl (T : List Tr) : Ext T T := fun _ _ h => h
theorem Ext.trans {T T1 T2 : List Tr} (a : Ext T T1) (b : Ext T1 T2) : Ext T T2 := fun k s h => b k s (a k s h)
theorem Ext.app (T r : List Tr) : Ext T (T ++ r) := fun k s h => by
  rw [List.getElem?_append_left (List.getElem?_eq_some_iff.mp h).1]
  exact h
structure Tb (hs ts : List Nat) (T : List Tr) : Prop where
  lh : hs.length = T.length
  lt : ts.length = T.length
  z : T[0]? = some .leaf
  at_ : ∀ (n : Nat) (t : Tr), T[n]? = some t → ∃ h k : Nat, hs[n]? = some h ∧ ts[n]? = some k ∧ T[h]? = some t.hd ∧ T[k]? = some t.tl
  no : ∀ (n : Nat) (t : Tr), n ≠ 0 → T[n]? = some t → t ≠ .leaf
theorem one_at {n : Nat} {t : Tr} (h : [Tr.leaf][n]? = some t) : n = 0 ∧ t = .leaf := by
  cases n with
  | zero => exact ⟨rfl, (Option.some.inj h).symm⟩
  | succ n => cases h
theorem Tb.new : Tb [0] [0] [.leaf] := ⟨rfl, rfl, rfl, fun n t h => by
  obtain ⟨rfl, rfl⟩ := one_at h
  exact ⟨0, 0, rfl, rfl, rfl, rfl⟩, fun n t n0 e => absurd (one_at e).1 n0⟩
theorem Tb.push {hs ts : List Nat} {T : List Tr} {a b : Nat} {s t : Tr} (h : Tb hs ts T) (ha : T[a]? = some s) (hb : T[b]? = some t) : Tb (hs ++ [a]) (ts ++ [b]) (T ++ [.node s t]) := by
  have e := Ext.app T [.node s t]
  have last : ∀ (n : Nat) (u : Tr), (T ++ [Tr.node s t])[n]? = some u → T[n]? = some u ∨ (n = T.length ∧ u = .node s t) := fun n u hn => by
    have hl := (List.getElem?_eq_some_iff.mp hn).1
    rw [List.length_append, List.length_singleton] at hl
    by_cases c : n < T.length
    · rw [List.getElem?_append_left c] at hn
      exact .inl hn
    · have c2 : n = T.length := by omega
      rw [c2, List.getElem?_append_right (Nat.le_refl _), Nat.sub_self] at hn
      exact .inr ⟨c2, (Option.some.inj hn).symm⟩
  refine ⟨by rw [List.length_append, List.length_append, h.lh]; rfl, by rw [List.length_append, List.length_append, h.lt]; rfl, e _ _ h.z, fun n u hn => ?_, fun n u n0 hn => ?_⟩
  · rcases last n u hn with h1 | ⟨rfl, rfl⟩
    · obtain ⟨x, y, e1, e2, e3, e4⟩ := h.at_ n u h1
      exact ⟨x, y, by rw [List.getElem?_append_left (List.getElem?_eq_some_iff.mp e1).1]; exact e1, by rw [List.getElem?_append_left (List.getElem?_eq_some_iff.mp e2).1]; exact e2, e _ _ e3, e _ _ e4⟩
    · exact ⟨a, b, by rw [← h.lh, List.getElem?_append_right (Nat.le_refl _), Nat.sub_self]; rfl, by rw [← h.lt, List.getElem?_append_right (Nat.le_refl _), Nat.sub_self]; rfl, e _ _ ha, e _ _ hb⟩
  · rcases last n u hn with h1 | ⟨rfl, rfl⟩
    · exact h.no n u n0 h1
    · exact fun z => by cases z
/-- the trees that the numbers stand for -/
abbrev Nums (T : List Tr) : List Nat → List Tr → Prop := Paired fun (n : Nat) t => T[n]? = some t
theorem Nums.ext {T T' : List Tr} {ns : List Nat} {us : List Tr} (h : Nums T ns us) (e : Ext T T') : Nums T' ns us := Paired.imp (fun n t q => e n t q) h
theorem nums_0 {T : List Tr} (h : T[0]? = some .leaf) : ∀ n : Nat, Nums T (List.replicate n 0) (List.replicate n .leaf)
  | 0 => .nil
  | n + 1 => .cons h (nums_0 h n)
/-! ### many steps -/
def bigS (i : Ins) (rs : List Tr) : Bool := match i with
  | .cons _ b c => decide (200000 < (Tr.node (reg rs b) (reg rs c)).sg.length)
  | _ => false
/-- a jump leads nowhere else -/
def JOk (is : List Ins) : Prop := ∀ (j : Nat) (i : Ins) (rs : List Tr), is[j]? = some i → ∃ j2 : Nat, stepAt i j rs = (j2 : Int) ∧ j2 ≤ is.length
def go (is : List Ins) : Nat → Nat → List Tr → Option (Nat × List Tr × Nat)
  | 0, k, rs => some (k, rs, 0)
  | n + 1, k, rs => match is[k]? with
    | none => some (k, rs, 0)
    | some i => if bigS i rs then none else (go is n (stepAt i k rs).toNat (stepRs i rs)).map fun q => (q.1, q.2.1, q.2.2 + 1)
def addN (j : Nat) (q : Option (Nat × List Tr × Nat)) : Option (Nat × List Tr × Nat) := q.map fun q => (q.1, q.2.1, q.2.2 + j)
theorem addN_0 (q : Option (Nat × List Tr × Nat)) : addN 0 q = q := by
  cases q <;> rfl
theorem go_end {is : List Ins} {n k : Nat} {rs : List Tr} (h : is[k]? = none) : go is n k rs = some (k, rs, 0) := by
  cases n with
  | zero => rfl
  | succ n =>
    unfold go
    rw [h]
theorem go_big {is : List Ins} {n k : Nat} {rs : List Tr} {i : Ins} (h : is[k]? = some i) (g : bigS i rs = true) : go is (n + 1) k rs = none := by
  unfold go
  rw [h]
  exact if_pos g
theorem go_succ (is : List Ins) (n k : Nat) (rs : List Tr) : go is (n + 1) k rs = match is[k]? with
    | none => some (k, rs, 0)
    | some i => if bigS i rs then none else addN 1 (go is n (stepAt i k rs).toNat (stepRs i rs)) := rfl
theorem go_on {is : List Ins} {n k : Nat} {rs : List Tr} {i : Ins} (h : is[k]? = some i) (g : bigS i rs = false) : go is (n + 1) k rs = addN 1 (go is n (stepAt i k rs).toNat (stepRs i rs)) := by
  rw [go_succ, h]
  show (if bigS i rs = true then _ else _) = _
  rw [g]
  rfl
theorem addN_addN (a b : Nat) (q : Option (Nat × List Tr × Nat)) : addN a (addN b q) = addN (b + a) q := by
  cases q with
  | none => rfl
  | some q => 
    show some _ = some _
    simp [Nat.add_assoc]
theorem go_le {is : List Ins} {M : Nat} (hM : 200000 ≤ M) (hb : ∀ i ∈ is, i.below 20 ∧ i.big ≤ M) : ∀ (n k : Nat) (rs : List Tr) {k' d : Nat} {rs' : List Tr}, rs.length = 20 → (∀ t ∈ rs, t.sg.length ≤ M) → go is n k rs = some (k', rs', d) → ∀ t ∈ rs', t.sg.length ≤ M
  | 0, k, rs, k', d, rs', _, h, e => by
    cases e
    exact h
  | n + 1, k, rs, k', d, rs', hl, h, e => by
    cases hi : is[k]? with
    | none =>
      rw [go_end hi] at e
      cases e
      exact h
    | some i =>
      cases hg : bigS i rs with
      | true =>
        rw [go_big hi hg] at e
        cases e
      | false =>
        rw [go_on hi hg] at e
        cases e2 : go is n (stepAt i k rs).toNat (stepRs i rs) with
        | none =>
          rw [e2] at e
          cases e
        | some q =>
          rw [e2] at e
          obtain ⟨q1, q2, q3⟩ := q
          cases e
          obtain ⟨b1, b2⟩ := hb i (List.mem_of_getElem? hi)
          refine go_le hM hb n _ _ (by rw [stepRs_len]; exact hl) (stepRs_le h fun hj => ?_) e2
          have rg : ∀ b, b ∈ i.regs → (reg rs b).sg.length ≤ M := fun b hbr => h _ (reg_mem (by rw [hl]; exact b1 b hbr))
          cases i with
          | jump a m => cases hj
          | set a t => exact b2
          | move a b => exact rg b (by simp [Ins.regs])
          | head a b => exact Nat.le_trans (hd_len _) (rg b (by simp [Ins.regs]))
          | tail a b => exact Nat.le_trans (tl_len _) (rg b (by simp [Ins.regs]))
          | cons a b c =>
            have hg : decide (200000 < (Tr.node (reg rs b) (reg rs c)).sg.length) = false := hg
            have := of_decide_eq_false hg
            show (Tr.node (reg rs b) (reg rs c)).sg.length ≤ M
            omega
theorem go_more {is : List Ins} : ∀ (n k : Nat) (rs : List Tr) {k' d : Nat} {rs' : List Tr}, go is n k rs = some (k', rs', d) → d ≤ n ∧ (k' < is.length → d = n) ∧ (k ≤ is.length → is.length ≤ k' → d = 0 ∨ k < is.length)
  | 0, k, rs, k', d, rs', e => by
    cases e
    exact ⟨Nat.le_refl _, fun _ => rfl, fun _ _ => .inl rfl⟩
  | n + 1, k, rs, k', d, rs', e => by
    cases hi : is[k]? with
    | none =>
      rw [go_end hi] at e
      cases e
      have := List.getElem?_eq_none_iff.mp hi
      exact ⟨Nat.zero_le _, fun h => by omega, fun _ _ => .inl rfl⟩
    | some i =>
      have hk := (List.getElem?_eq_some_iff.mp hi).1
      cases hg : bigS i rs with
      | true =>
        rw [go_big hi hg] at e
        cases e
      | false =>
        rw [go_on hi hg] at e
        cases e2 : go is n (stepAt i k rs).toNat (stepRs i rs) with
        | none =>
          rw [e2] at e
          cases e
        | some q =>
          rw [e2] at e
          obtain ⟨q1, q2, q3⟩ := q
          cases e
          obtain ⟨h1, h2, h3⟩ := go_more n _ _ e2
          exact ⟨by show q3 + 1 ≤ n + 1; omega, fun h => by rw [h2 h], fun _ _ => .inr hk⟩
/-- fewer steps: what needs d of them is not done before -/
theorem go_less {is : List Ins} (hJ : JOk is) : ∀ (n k : Nat) (rs : List Tr) {d : Nat} {rs' : List Tr}, go is n k rs = some (is.length, rs', d) → go is d k rs = some (is.length, rs', d) ∧ ∀ m, m < d → ∃ k2 rs2, go is m k rs = some (k2, rs2, m) ∧ k2 < is.length
  | 0, k, rs, d, rs', e => by
    cases e
    exact ⟨rfl, fun m h => by omega⟩
  | n + 1, k, rs, d, rs', e => by
    cases hi : is[k]? with
    | none =>
      rw [go_end hi] at e
      cases e
      exact ⟨rfl, fun m h => by omega⟩
    | some i =>
      have hk := (List.getElem?_eq_some_iff.mp hi).1
      cases hg : bigS i rs with
      | true =>
        rw [go_big hi hg] at e
        cases e
      | false =>
        rw [go_on hi hg] at e
        cases e2 : go is n (stepAt i k rs).toNat (stepRs i rs) with
        | none =>
          rw [e2] at e
          cases e
        | some q =>
          rw [e2] at e
          obtain ⟨q1, q2, q3⟩ := q
          cases e
          obtain ⟨h1, h2⟩ := go_less hJ n _ _ e2
          refine ⟨by rw [go_on hi hg, h1]; rfl, fun m hm => ?_⟩
          have hm : m < q3 + 1 := hm
          cases m with
          | zero => exact ⟨k, rs, rfl, hk⟩
          | succ m =>
            obtain ⟨k2, rs2, g1, g2⟩ := h2 m (by omega)
            exact ⟨k2, rs2, by rw [go_on hi hg, g1]; rfl, g2⟩
theorem go_small {i : Ins} {rs : List Tr} (hl : rs.length = 20) (hb : i.below 20) (h : ∀ t ∈ rs, t.sg.length ≤ 3000) : bigS i rs = false := by
  cases i with
  | cons a b c =>
    have h1 := h _ (reg_mem (by rw [hl]; exact hb b (by simp [Ins.regs])))
    have h2 := h _ (reg_mem (by rw [hl]; exact hb c (by simp [Ins.regs])))
    have h3 := node_len (reg rs b) (reg rs c)
    exact decide_eq_false (by omega)
  | _ => rfl
theorem notTold_tree (t : Tr) : notTold (.str t.str) := by
  have ne : ∀ z : Str, (z.cps.toList.all fun c => c == 48 || c == 49) = false → PyData.eqv (.str z) (.str t.str) = false := fun z hz => by
    cases e : PyData.eqv (.str z) (.str t.str) with
    | false => rfl
    | true =>
      exfalso
      have e : (z == t.str) = true := e
      have e2 := eq_of_beq e
      rw [e2] at hz
      have := (all01_iff t.sg).mpr t.sg_01
      rw [show t.str.cps.toList = t.sg from rfl, this] at hz
      cases hz
  refine ⟨?_, ne _ (by decide +kernel), ne _ (by decide +kernel), ne _ (by decide +kernel)⟩
  show ((PyData.strOk t.str && true) && decide (max 0 0 + 1 ≤ 64)) = true
  rw [show t.str = stS t.sg from rfl, strOk_01 t.sg_01]
  rfl
def rs0 (x : Tr) : List Tr := x :: List.replicate 19 .leaf
/-! ### the heap of a machine -/
def natsV (ns : List Nat) : List V := ns.map fun n : Nat => V.int (n : Int)
def sizV (T : List Tr) : List V := T.map fun t => V.int (t.sg.length : Int)
theorem natsV_len (ns : List Nat) : (natsV ns).length = ns.length := List.length_map _
theorem sizV_len (T : List Tr) : (sizV T).length = T.length := List.length_map _
theorem natsV_at {ns : List Nat} {j n : Nat} (h : ns[j]? = some n) : atI (natsV ns) (j : Int) = some (.int n) := atI_nat (by
  unfold natsV
  rw [List.getElem?_map, h]
  rfl)
theorem sizV_at {T : List Tr} {j : Nat} {t : Tr} (h : T[j]? = some t) : atI (sizV T) (j : Int) = some (.int t.sg.length) := atI_nat (by
  unfold sizV
  rw [List.getElem?_map, h]
  rfl)
theorem natsV_app (ns : List Nat) (n : Nat) : natsV ns ++ [.int n] = natsV (ns ++ [n]) := by
  unfold natsV
  rw [List.map_append]
  rfl
theorem sizV_app (T : List Tr) (t : Tr) : sizV T ++ [.int t.sg.length] = sizV (T ++ [t]) := by
  unfold sizV
  rw [List.map_append]
  rfl
theorem natsV_pop (ns : List Nat) (n : Nat) : (natsV (ns ++ [n]))[(natsV (ns ++ [n])).length - 1]? = some (.int n) := by
  rw [← natsV_app, List.length_append, List.length_singleton, Nat.add_sub_cancel, List.getElem?_append_right (Nat.le_refl _), Nat.sub_self]
  rfl
theorem natsV_drop (ns : List Nat) (n : Nat) : (natsV (ns ++ [n])).dropLast = natsV ns := by
  rw [← natsV_app, List.dropLast_concat]
theorem stO_len : ∀ (r : List Nat) (us : List Tr), stO r = some us → us.length ≤ r.length
  | [], us, h => by
    cases h
    exact Nat.le_refl _
  | c :: r, us, h => by
    obtain ⟨vs, hv⟩ := stO_suf [c] r us h
    have ih := stO_len r vs hv
    rw [List.length_cons]
    by_cases e : c = 49
    · subst e
      obtain ⟨a, b, q, h1, rfl⟩ := stO_49 h
      rw [hv] at h1
      cases h1
      simp only [List.length_cons] at ih ⊢
      omega
    · have h : (if c = 49 then (match stO r with
        | some (a :: b :: q) => some (Tr.node a b :: q)
        | _ => none) else (stO r).map (Tr.leaf :: ·)) = some us := h
      rw [if_neg e, hv] at h
      cases h
      rw [List.length_cons]
      omega
theorem c49 (r : List Nat) : (49 :: r).count 49 = r.count 49 + 1 := List.count_cons_self
/-- an instruction at k as the machine notes it; n: the number of a tree that is set -/
def plV (i : Ins) (k : Int) (n : Nat) : List V := match i with
  | .set a _ => [.str "set", .int a, .int n, .int 0]
  | .jump a m => [.str "jump", .int a, .int (k + m), .int 0]
  | .cons a b c => [.str "cons", .int a, .int b, .int c]
  | .move a b => [.str "move", .int a, .int b, .int 0]
  | .head a b => [.str "head", .int a, .int b, .int 0]
  | .tail a b => [.str "tail", .int a, .int b, .int 0]
/-- the tree that is set -/
def SetN (T : List Tr) (i : Ins) (n : Nat) : Prop := ∀ a t, i = .set a t → T[n]? = some t
theorem SetN.ext {T T' : List Tr} {i : Ins} {n : Nat} (h : SetN T i n) (e : Ext T T') : SetN T' i n := fun a t z => e _ _ (h a t z)
theorem pairs_le (t : Tr) : t.pairs ≤ t.sg.length := by
  have := t.sg_len
  omega
structure FsOk (fs : List (Str × V)) (Ah At As : Addr) : Prop where
  h : fs.lookup ("heads" : Str) = some (.ref Ah)
  t : fs.lookup ("tails" : Str) = some (.ref At)
  s : fs.lookup ("sizes" : Str) = some (.ref As)
  pair : fs.lookup ("pair" : Str) = none
  joined : fs.lookup ("joined" : Str) = none
  enter : fs.lookup ("enter" : Str) = none
  planned : fs.lookup ("planned" : Str) = none
  advance : fs.lookup ("advance" : Str) = none
  tree_of : fs.lookup ("tree_of" : Str) = none
theorem look_no {α : Type} {k g : Str} {v : α} {r : List (Str × α)} (h : (k == g) = false) : ((g, v) :: r).lookup k = r.lookup k := by
  show (match k == g with | true => some v | false => r.lookup k) = _
  rw [h]
theorem look_is {α : Type} {k : Str} {v : α} {r : List (Str × α)} : ((k, v) :: r).lookup k = some v := by
  show (match k == k with | true => some v | false => r.lookup k) = _
  rw [beq_self_eq_true k]
def m3 (Ah At As : Addr) (r : List (Str × V)) : List (Str × V) := ("heads", .ref Ah) :: ("tails", .ref At) :: ("sizes", .ref As) :: r
def mAt (k : Int) (r : List (Str × V)) : List (Str × V) := ("at", .int k) :: r
def mRg (R : Addr) (r : List (Str × V)) : List (Str × V) := ("registers", .ref R) :: r
def mPl (L : Addr) : List (Str × V) := [("plan", .ref L)]
theorem m3_no {Ah At As : Addr} {r : List (Str × V)} {k : Str} (h : (k == "heads" || k == "tails" || k == "sizes") = false) : (m3 Ah At As r).lookup k = r.lookup k := by
  simp only [Bool.or_eq_false_iff] at h
  exact (look_no h.1.1).trans ((look_no h.1.2).trans (look_no h.2))
theorem m3_ok {Ah At As : Addr} {r : List (Str × V)} (h1 : r.lookup ("pair" : Str) = none) (h2 : r.lookup ("joined" : Str) = none) (h3 : r.lookup ("enter" : Str) = none) (h4 : r.lookup ("planned" : Str) = none) (h5 : r.lookup ("advance" : Str) = none) (h6 : r.lookup ("tree_of" : Str) = none) : FsOk (m3 Ah At As r) Ah At As :=
  ⟨look_is, (look_no (by decide +kernel)).trans look_is, (look_no (by decide +kernel)).trans ((look_no (by decide +kernel)).trans look_is), (m3_no (by decide +kernel)).trans h1, (m3_no (by decide +kernel)).trans h2, (m3_no (by decide +kernel)).trans h3, (m3_no (by decide +kernel)).trans h4, (m3_no (by decide +kernel)).trans h5, (m3_no (by decide +kernel)).trans h6⟩
theorem m4_ok (Ah At As : Addr) (k : Int) : FsOk (m3 Ah At As (mAt k [])) Ah At As := m3_ok (look_no (by decide +kernel)) (look_no (by decide +kernel)) (look_no (by decide +kernel)) (look_no (by decide +kernel)) (look_no (by decide +kernel)) (look_no (by decide +kernel))
theorem m5_ok (Ah At As R : Addr) (k : Int) : FsOk (m3 Ah At As (mAt k (mRg R []))) Ah At As := by
  have f : ∀ z : Str, (z == "at") = false → (z == "registers") = false → (mAt k (mRg R [])).lookup z = none := fun z a b => (look_no a).trans (look_no b)
  exact m3_ok (f _ (by decide +kernel) (by decide +kernel)) (f _ (by decide +kernel) (by decide +kernel)) (f _ (by decide +kernel) (by decide +kernel)) (f _ (by decide +kernel) (by decide +kernel)) (f _ (by decide +kernel) (by decide +kernel)) (f _ (by decide +kernel) (by decide +kernel))
abbrev m6 (Ah At As R L : Addr) (k : Int) : List (Str × V) := m3 Ah At As (mAt k (mRg R (mPl L)))
theorem m6_ok (Ah At As R L : Addr) (k : Int) : FsOk (m6 Ah At As R L k) Ah At As := by
  have f : ∀ z : Str, (z == "at") = false → (z == "registers") = false → (z == "plan") = false → (mAt k (mRg R (mPl L))).lookup z = none := fun z a b c => (look_no a).trans ((look_no b).trans (look_no c))
  exact m3_ok (f _ (by decide +kernel) (by decide +kernel) (by decide +kernel)) (f _ (by decide +kernel) (by decide +kernel) (by decide +kernel)) (f _ (by decide +kernel) (by decide +kernel) (by decide +kernel)) (f _ (by decide +kernel) (by decide +kernel) (by decide +kernel)) (f _ (by decide +kernel) (by decide +kernel) (by decide +kernel)) (f _ (by decide +kernel) (by decide +kernel) (by decide +kernel))
theorem m6_at (Ah At As R L : Addr) (k : Int) : (m6 Ah At As R L k).lookup ("at" : Str) = some (.int k) := (m3_no (by decide +kernel)).trans look_is
theorem m6_rg (Ah At As R L : Addr) (k : Int) : (m6 Ah At As R L k).lookup ("registers" : Str) = some (.ref R) := (m3_no (by decide +kernel)).trans ((look_no (by decide +kernel)).trans look_is)
theorem m6_pl (Ah At As R L : Addr) (k : Int) : (m6 Ah At As R L k).lookup ("plan" : Str) = some (.ref L) := (m3_no (by decide +kernel)).trans ((look_no (by decide +kernel)).trans ((look_no (by decide +kernel)).trans look_is))
theorem put_is {f : Str} {v x : V} {r : List (Str × V)} : putF f v ((f, x) :: r) = (f, v) :: r := if_pos rfl
theorem put_no {f g : Str} {v x : V} {r : List (Str × V)} (h : ¬ g = f) : putF f v ((g, x) :: r) = (g, x) :: putF f v r := if_neg h
theorem m3_new (Ah At As : Addr) : putF ("sizes" : Str) (.ref As) (putF ("tails" : Str) (.ref At) (putF ("heads" : Str) (.ref Ah) [])) = m3 Ah At As [] := by
  show putF ("sizes" : Str) (.ref As) (putF ("tails" : Str) (.ref At) [("heads", .ref Ah)]) = _
  rw [put_no (by decide +kernel)]
  exact (put_no (by decide +kernel)).trans (congrArg _ (put_no (by decide +kernel)))
theorem m3_put {Ah At As : Addr} {r : List (Str × V)} {k : Str} {v : V} (h1 : ¬ ("heads" : Str) = k) (h2 : ¬ ("tails" : Str) = k) (h3 : ¬ ("sizes" : Str) = k) : putF k v (m3 Ah At As r) = m3 Ah At As (putF k v r) := by
  unfold m3
  rw [put_no h1, put_no h2, put_no h3]
theorem m4_new (Ah At As : Addr) (k : Int) : putF ("at" : Str) (.int k) (m3 Ah At As []) = m3 Ah At As (mAt k []) := m3_put (by decide +kernel) (by decide +kernel) (by decide +kernel)
theorem m5_new (Ah At As R : Addr) (k : Int) : putF ("registers" : Str) (.ref R) (m3 Ah At As (mAt k [])) = m3 Ah At As (mAt k (mRg R [])) := (m3_put (by decide +kernel) (by decide +kernel) (by decide +kernel)).trans (congrArg _ (put_no (by decide +kernel)))
theorem m6_new (Ah At As R L : Addr) (k : Int) : putF ("plan" : Str) (.ref L) (m3 Ah At As (mAt k (mRg R []))) = m6 Ah At As R L k := (m3_put (by decide +kernel) (by decide +kernel) (by decide +kernel)).trans (congrArg _ ((put_no (by decide +kernel)).trans (congrArg _ (put_no (by decide +kernel)))))
theorem m6_put (Ah At As R L : Addr) (k j : Int) : putF ("at" : Str) (.int j) (m6 Ah At As R L k) = m6 Ah At As R L j := (m3_put (by decide +kernel) (by decide +kernel) (by decide +kernel)).trans (congrArg _ put_is)
structure MacAt (H : Hp) (Ah At As : Addr) (T : List Tr) : Prop where
  get : ∃ hs ts : List Nat, H Ah = some (.lst (natsV hs)) ∧ H At = some (.lst (natsV ts)) ∧ H As = some (.lst (sizV T)) ∧ Tb hs ts T
  ht : Ah ≠ At
  hs : Ah ≠ As
  ts : At ≠ As
/-- what stands but at some addresses -/
def ButL (as : List Addr) (H H' : Hp) : Prop := ∀ b o, b ∉ as → H b = some o → H' b = some o
theorem ButL.refl (as : List Addr) (H : Hp) : ButL as H H := fun _ _ _ h => h
theorem ButL.trans {as : List Addr} {H H1 H2 : Hp} (a : ButL as H H1) (b : ButL as H1 H2) : ButL as H H2 := fun c o n h => b c o n (a c o n h)
theorem _root_.L2.Same.butL {as : List Addr} {H H' : Hp} (s : Same H H') : ButL as H H' := fun b o _ h => s b o h
theorem ButL.upd {as : List Addr} {H : Hp} {a : Addr} {o : HO} (h : a ∈ as) : ButL as H (upd H a o) := fun b x n e => by
  rw [upd_ne (fun z => n (by rw [z]; exact h))]
  exact e
theorem MacAt.pos {H : Hp} {Ah At As : Addr} {T : List Tr} (h : MacAt H Ah At As T) : 0 < T.length := by
  obtain ⟨hs, ts, _, _, _, g⟩ := h.get
  exact (List.getElem?_eq_some_iff.mp g.z).1
/-- other changes do not touch the table -/
theorem MacAt.but {as : List Addr} {H H' : Hp} {Ah At As : Addr} {T : List Tr} (h : MacAt H Ah At As T) (e : ButL as H H') (h1 : Ah ∉ as) (h2 : At ∉ as) (h3 : As ∉ as) : MacAt H' Ah At As T := by
  obtain ⟨hs, ts, a, b, c, g⟩ := h.get
  exact ⟨⟨hs, ts, e _ _ h1 a, e _ _ h2 b, e _ _ h3 c, g⟩, h.ht, h.hs, h.ts⟩
def PlAt (H : Hp) (T : List Tr) (qs : List Addr) (is : List Ins) : Prop := ∀ (j : Nat) (i : Ins), is[j]? = some i → ∃ (q : Addr) (n : Nat), qs[j]? = some q ∧ H q = some (.tup (plV i j n)) ∧ SetN T i n
theorem PlAt.on {H H' : Hp} {T T' : List Tr} {qs : List Addr} {is : List Ins} (h : PlAt H T qs is) (e : ∀ q xs, H q = some (.tup xs) → H' q = some (.tup xs)) (x : Ext T T') : PlAt H' T' qs is := fun j i hi => by
  obtain ⟨q, n, h1, h2, h3⟩ := h j i hi
  exact ⟨q, n, h1, e _ _ h2, h3.ext x⟩
/-- a machine at k: all that it holds -/
structure MacF (C : Addr) (H : Hp) (o dx Ah At As R L : Addr) (k : Nat) (T : List Tr) (ns : List Nat) (rs : List Tr) (is : List Ins) : Prop where
  ob : H o = some (.ins C dx (m6 Ah At As R L k))
  tb : MacAt H Ah At As T
  rg : H R = some (.lst (natsV ns))
  nr : Nums T ns rs
  pl : ∃ qs : List Addr, H L = some (.lst (qs.map V.ref)) ∧ qs.length = is.length ∧ PlAt H T qs is
  nR : R ∉ [Ah, At, As]
  nL : L ∉ [Ah, At, As]
  rl : R ≠ L
theorem tup_not {H : Hp} {Ah At As q : Addr} {T : List Tr} {xs : List V} (h : MacAt H Ah At As T) (e : H q = some (.tup xs)) : q ∉ [Ah, At, As] := fun z => by
  obtain ⟨hs, ts, h1, h2, h3, g⟩ := h.get
  simp only [List.mem_cons, List.not_mem_nil, or_false] at z
  rcases z with rfl | rfl | rfl
  · rw [h1] at e; cases e
  · rw [h2] at e; cases e
  · rw [h3] at e; cases e
theorem ins_not {H : Hp} {Ah At As q C dx : Addr} {T : List Tr} {fs : List (Str × V)} (h : MacAt H Ah At As T) (e : H q = some (.ins C dx fs)) : q ∉ [Ah, At, As] := fun z => by
  obtain ⟨hs, ts, h1, h2, h3, g⟩ := h.get
  simp only [List.mem_cons, List.not_mem_nil, or_false] at z
  rcases z with rfl | rfl | rfl
  · rw [h1] at e; cases e
  · rw [h2] at e; cases e
  · rw [h3] at e; cases e
theorem none_not {H : Hp} {Ah At As q : Addr} {T : List Tr} (h : MacAt H Ah At As T) (e : H q = none) : q ∉ [Ah, At, As] := fun z => by
  obtain ⟨hs, ts, h1, h2, h3, g⟩ := h.get
  simp only [List.mem_cons, List.not_mem_nil, or_false] at z
  rcases z with rfl | rfl | rfl
  · rw [h1] at e; cases e
  · rw [h2] at e; cases e
  · rw [h3] at e; cases e
def bigSum (is : List Ins) : Nat := (is.map Ins.big).sum
theorem bigSum_take {is : List Ins} {j : Nat} {i : Ins} (h : is[j]? = some i) : bigSum (is.take (j + 1)) = bigSum (is.take j) + i.big := by
  unfold bigSum
  rw [List.take_add_one, h, List.map_append, List.sum_append]
  rfl
theorem bigSum_le (is : List Ins) (j : Nat) : bigSum (is.take j) ≤ bigSum is := by
  have h : bigSum is = bigSum (is.take j) + bigSum (is.drop j) := by
    unfold bigSum
    rw [← List.sum_append, ← List.map_append, List.take_append_drop]
  omega
def plX (i : Ins) (k : Int) (n : Nat) : Int := match i with
  | .set _ _ => n
  | .jump _ m => k + m
  | .cons _ b _ => b
  | .move _ b => b
  | .head _ b => b
  | .tail _ b => b
def plY (i : Ins) : Int := match i with
  | .cons _ _ c => c
  | _ => 0
theorem plV_is (i : Ins) (k : Int) (n : Nat) : plV i k n = [.str i.word, .int i.a, .int (plX i k n), .int (plY i)] := by cases i <;> rfl
section
variable {C : Addr} {H H' : Hp} {o dx Ah At As R L : Addr} {k : Nat} {T T' : List Tr} {ns : List Nat} {rs : List Tr} {is : List Ins}
theorem MacF.notA (h : MacF C H o dx Ah At As R L k T ns rs is) : o ∉ [Ah, At, As] := ins_not h.tb h.ob
theorem MacF.oR (h : MacF C H o dx Ah At As R L k T ns rs is) : o ≠ R := fun z => by
  have h1 := h.ob
  rw [z, h.rg] at h1
  cases h1
theorem MacF.oL (h : MacF C H o dx Ah At As R L k T ns rs is) : o ≠ L := fun z => by
  obtain ⟨qs, e, _⟩ := h.pl
  have h1 := h.ob
  rw [z, e] at h1
  cases h1
/-- what changes the table alone -/
theorem MacF.grow (h : MacF C H o dx Ah At As R L k T ns rs is) (b : ButL [Ah, At, As] H H') (m : MacAt H' Ah At As T') (x : Ext T T') : MacF C H' o dx Ah At As R L k T' ns rs is := by
  obtain ⟨qs, e1, e2, e3⟩ := h.pl
  exact ⟨b _ _ h.notA h.ob, m, b _ _ h.nR h.rg, h.nr.ext x, ⟨qs, b _ _ h.nL e1, e2, e3.on (fun q xs e => b _ _ (tup_not h.tb e) e) x⟩, h.nR, h.nL, h.rl⟩
theorem MacF.setAt (h : MacF C H o dx Ah At As R L k T ns rs is) (j : Nat) : MacF C (upd H o (.ins C dx (m6 Ah At As R L j))) o dx Ah At As R L j T ns rs is := by
  obtain ⟨qs, e1, e2, e3⟩ := h.pl
  have n := h.notA
  simp only [List.mem_cons, List.not_mem_nil, or_false, not_or] at n
  refine ⟨upd_same, h.tb.but (as := [o]) (ButL.upd (List.mem_singleton.mpr rfl)) (fun z => n.1 (List.mem_singleton.mp z).symm) (fun z => n.2.1 (List.mem_singleton.mp z).symm) (fun z => n.2.2 (List.mem_singleton.mp z).symm), (upd_ne h.oR.symm).trans h.rg, h.nr, ⟨qs, (upd_ne h.oL.symm).trans e1, e2, e3.on (fun q xs e => ?_) (Ext.refl _)⟩, h.nR, h.nL, h.rl⟩
  rw [upd_ne (fun z => by rw [z, h.ob] at e; cases e)]
  exact e
theorem nums_set {T : List Tr} {n : Nat} {t : Tr} (hn : T[n]? = some t) : ∀ {ns : List Nat} {rs : List Tr} (a : Nat), Nums T ns rs → Nums T (ns.set a n) (rs.set a t)
  | _, _, _, .nil => .nil
  | _, _, 0, .cons _ h => .cons hn h
  | _, _, a + 1, .cons r h => .cons r (nums_set hn a h)
theorem MacF.setReg (h : MacF C H o dx Ah At As R L k T ns rs is) {n : Nat} {t : Tr} (hn : T[n]? = some t) (a : Nat) : MacF C (upd H R (.lst (natsV (ns.set a n)))) o dx Ah At As R L k T (ns.set a n) (rs.set a t) is := by
  obtain ⟨qs, e1, e2, e3⟩ := h.pl
  have n' := h.nR
  simp only [List.mem_cons, List.not_mem_nil, or_false, not_or] at n'
  refine ⟨(upd_ne h.oR).trans h.ob, h.tb.but (as := [R]) (ButL.upd (List.mem_singleton.mpr rfl)) (fun z => n'.1 (List.mem_singleton.mp z).symm) (fun z => n'.2.1 (List.mem_singleton.mp z).symm) (fun z => n'.2.2 (List.mem_singleton.mp z).symm), upd_same, nums_set hn a h.nr, ⟨qs, (upd_ne h.rl.symm).trans e1, e2, e3.on (fun q xs e => ?_) (Ext.refl _)⟩, h.nR, h.nL, h.rl⟩
  rw [upd_ne (fun z => by rw [z, h.rg] at e; cases e)]
  exact e
theorem MacF.reg (h : MacF C H o dx Ah At As R L k T ns rs is) {b : Nat} (hb : b < rs.length) : ∃ n, ns[b]? = some n ∧ T[n]? = some (Nx.reg rs b) := Paired.get (F := fun (n : Nat) (t : Tr) => T[n]? = some t) h.nr (reg_get hb)
theorem natsV_set (ns : List Nat) (a n : Nat) : (natsV ns).set a (.int n) = natsV (ns.set a n) := by
  unfold natsV
  rw [List.map_set]
end
def sgV (l : List Nat) : List V := (l.map fun c => stS [c]).map V.str
theorem sgV_app (l : List Nat) (c : Nat) : sgV l ++ [.str (stS [c])] = sgV (l ++ [c]) := by
  unfold sgV
  rw [List.map_append, List.map_append]
  rfl
theorem sgV_len (l : List Nat) : (sgV l).length = l.length := by
  unfold sgV
  rw [List.length_map, List.length_map]
theorem sgV_join (l : List Nat) : Txt.join (Str.ofString "") (l.map fun c => stS [c]) = stS l := by
  rw [join_none, List.map_map]
  congr 1
  induction l with
  | nil => rfl
  | cons c r ih =>
    rw [List.map_cons, List.flatten_cons, ih]
    rfl
theorem sgV_sum (l : List Nat) : ((l.map fun c => stS [c]).map fun x : Str => x.length).sum = l.length := by
  induction l with
  | nil => rfl
  | cons c r ih =>
    rw [List.map_cons, List.map_cons, List.sum_cons, ih, List.length_cons]
    show 1 + r.length = _
    omega
def sgs (us : List Tr) : List Nat := (us.map Tr.sg).flatten
theorem sgs_cons (u : Tr) (us : List Tr) : sgs (u :: us) = u.sg ++ sgs us := by
  unfold sgs
  rw [List.map_cons, List.flatten_cons]
theorem sgs_len (us : List Tr) : us.length ≤ (sgs us).length := by
  induction us with
  | nil => exact Nat.zero_le _
  | cons u r ih =>
    rw [sgs_cons, List.length_append, List.length_cons]
    have := u.sg_len
    omega
/-- a statement, and what follows it wherever it ends -/
theorem seq_join {t1 t2 : TS} {D : Ends} {σ : L2.St} {H : Hp} (P : Hp → Prop) (h1 : ∀ nx : L2.St → Hp → Prop, (∀ X, P X → nx σ X) → t1 { D with nx := nx } σ H) (h2 : ∀ X, P X → t2 D σ X) : tSeq t1 t2 D σ H := h1 _ h2
/-! ### deep trees -/
def zigT : Nat → Tr
  | 0 => .leaf
  | n + 1 => .node (.node .leaf (zigT n)) .leaf
theorem zigT_sg : ∀ n : Nat, (zigT n).sg = repL n [49, 49, 48] ++ List.replicate (n + 1) 48
  | 0 => rfl
  | n + 1 => by
    show 49 :: ((49 :: ([48] ++ (zigT n).sg)) ++ [48]) = _
    rw [zigT_sg n, show repL (n + 1) [49, 49, 48] = [49, 49, 48] ++ repL n [49, 49, 48] by unfold repL; rw [List.replicate_succ, List.flatten_cons], List.replicate_succ' (n := n + 1)]
    simp [List.append_assoc]
theorem zigT_len (n : Nat) : (zigT n).sg.length = 4 * n + 1 := by
  rw [zigT_sg, List.length_append, repL_len, List.length_replicate]
  show n * 3 + (n + 1) = _
  omega
theorem s110 : (Str.ofString "110").cps.toList = [49, 49, 48] := by decide +kernel
theorem zig_str (n : Nat) : stS (repL n (Str.ofString "110").cps.toList) ++ stS (repL (n + 1) (Str.ofString "0").cps.toList) = (zigT n).str := by
  rw [stS_app, s110]
  show stS _ = stS _
  rw [zigT_sg, show (Str.ofString "0").cps.toList = [48] by decide +kernel, repL_one]
theorem len110' (n : Nat) : (stS (repL n (Str.ofString "110").cps.toList)).length = 3 * n := by
  rw [stS_len, repL_len, s110]
  show n * 3 = _
  omega
theorem items_numT : ∀ n : Nat, (numT n).items.length = n
  | 0 => rfl
  | n + 1 => by
    show (numT n).items.length + 1 = n + 1
    rw [items_numT n]
theorem ten_str (y : Tr) : Str.ofString "10" ++ y.str = (Tr.node .leaf y).str := by
  rw [show Str.ofString "10" = stS [49, 48] by decide +kernel]
  show stS [49, 48] ++ stS y.sg = _
  rw [stS_app]
  rfl
def deepT : Nat → Nat → Tr
  | 0, n => chT n
  | 1, n => numT n
  | _ + 2, n => zigT n
end Nx

/-! max of a tuple of whole numbers; max with a default. -/
namespace Nx
open PySem PySem.Spec PyProof.Rows L2
theorem max_intTup {prog : Program} {w : World} {A : Around} {E : Value → Shared → Prop} {s : Shared} {l : Addr} {xs : Array (Int × Tok)} {Q : Value → Shared → Prop} (hh : A.handled = none) (hl : s.heap.IsTuple l (intItems xs)) (hne : 0 < xs.size)
    (h : ∀ v h' tk, (intItems xs)[argBest (fun i j => decide (numAt xs i > numAt xs j)) (xs.size - 1)]? = some v → (∀ b o, s.heap.get? b = some o → h'.get? b = some o) → Q v { s with heap := h', toks := tk }) :
    wpAny (model prog w) A (call (.builtin "max") [.ref l]) Q E s := by
  have hlt : l < s.heap.objs.size := by obtain ⟨_, e, _⟩ := hl; exact Heap.lt_size e
  refine call_max_walk (wpAny_pyIter_tuple hl ?_)
  refine ⟨_, [_, l], [_], _, _, _, _, rfl, Walks.tuple (A := A.in1) hh _ l (Nat.ne_of_lt hlt) (intItems xs), ⟨⟨_, Heap.get?_push_size _ rfl, rfl, rfl⟩, hl.push _⟩, fun b hb => ?_, by simpa [intItems] using hne, CmpOf.ints_gt (numAt xs) (fun _ _ => intItems_at), fun v h' tk hP hk => ?_⟩
  · show b < (s.heap.push _).objs.size
    rw [Heap.size_push]
    rcases List.mem_cons.mp hb with rfl | hb
    · exact Nat.lt_succ_self _
    · rcases List.mem_cons.mp hb with rfl | hb
      · exact Nat.lt_succ_of_lt hlt
      · cases hb
  · refine h v h' tk (by simpa [intItems] using hP) fun b o e => hk b o (fun hm => ?_) (Heap.get?_push_of_some _ e)
    rcases List.mem_cons.mp hm with e1 | hm
    · exact absurd (e1 ▸ Heap.lt_size e) (Nat.lt_irrefl _)
    · cases hm
theorem max_rawT {prog : Program} {w : World} {A : Around} {E : Value → Shared → Prop} {s : Shared} {l : Addr} {its : List Value} {ns : List Int} {Q : Value → Shared → Prop} (hh : A.handled = none) (hl : s.heap.IsTuple l its.toArray) (hi : IntsAre its ns) (hne : 0 < ns.length)
    (h : ∀ h' tk M t', (∀ b o, s.heap.get? b = some o → h'.get? b = some o) → M ∈ ns → (∀ a, a ∈ ns → a ≤ M) → Q (.int M t') { s with heap := h', toks := tk }) : wpAny (model prog w) A (call (.builtin "max") [.ref l]) Q E s := by
  obtain ⟨xs, e⟩ := hi.allInts.items
  have hn : numsOf (intItems xs).toList = ns := by rw [← e]; exact hi.numsOf
  rw [nums_intItems] at hn
  subst hn
  rw [e] at hl
  have hsz : 0 < xs.size := by simpa using hne
  refine max_intTup hh hl hsz fun v h' tk hv hk => ?_
  obtain ⟨t, rfl⟩ := intItems_at hv
  obtain ⟨h1, h2⟩ := argBest_gt (numAt xs) (xs.size - 1)
  refine h h' tk _ t hk ?_ fun a ha => ?_
  · rw [numAt_eq]; exact PySem.getD_mem (by rw [List.length_map, Array.length_toList]; omega)
  · obtain ⟨j, hj, rfl⟩ := mem_getD ha
    rw [List.length_map, Array.length_toList] at hj
    rw [← numAt_eq]; exact h2 j (by omega)
def rMaxT (K : PySem.W.Frag) : List V → Hp → VK → Prop := fun vs H Q => ∃ (a : Addr) (ns : List Int), vs = [V.ref a] ∧ SqT K H a (ns.map V.int) ∧ 0 < ns.length ∧ ∀ m, m ∈ ns → (∀ y, y ∈ ns → y ≤ m) → Q (.int m) H
theorem cr_maxT {X : Cx} (hc : X.calm = true) : CallR X (.builtin "max") (rMaxT X.K) := by
  intro pins s σ H vs us Q I r h
  obtain ⟨a, ns, rfl, hs, hne, q⟩ := h
  obtain ⟨its, rv, hl, _⟩ := I.tuple hs
  rw [Vals.ref1 r]
  exact max_rawT (I.ok.hd hc) hl rv.ints hne fun h' tk m t' hk h1 h2 => ⟨.int _, H, I.kept hk, ⟨_, rfl⟩, q m h1 h2⟩
theorem max_intListD {prog : Program} {w : World} {A : Around} {E : Value → Shared → Prop} {s : Shared} {l : Addr} {xs : Array (Int × Tok)} {d : Value} {Q : Value → Shared → Prop} (hh : A.handled = none) (hl : s.heap.IsList l (intItems xs))
    (h0 : xs.size = 0 → ∀ h' tk, (∀ b o, s.heap.get? b = some o → h'.get? b = some o) → Q d { s with heap := h', toks := tk })
    (h : 0 < xs.size → ∀ v h' tk, (intItems xs)[argBest (fun i j => decide (numAt xs i > numAt xs j)) (xs.size - 1)]? = some v → (∀ b o, s.heap.get? b = some o → h'.get? b = some o) → Q v { s with heap := h', toks := tk }) :
    wpAny (model prog w) A (call (.builtin "max") [.ref l] [(Str.ofString "default", d)]) Q E s := by
  have hz : (intItems xs).size = xs.size := by simp [intItems]
  refine call_max_walkD (PySem.W.iter_listW (A := A.in1) hh hl fun s₂ e W st hfp hw hk => ?_)
  refine ⟨_, _, _, _, _, _, _, s.heap, (fun i j => decide (numAt xs i > numAt xs j)), rfl, W, st, hfp, hw, hk, fun hn s' m => ?_, fun hp => ⟨fun i j vi vj s3 Q3 E3 _ hi hj hQ => CmpOf.ints_gt (numAt xs) (fun _ _ => intItems_at) i j vi vj s3 Q3 E3 hi hj hQ, fun v s' hP m => ?_⟩⟩
  · obtain ⟨h', tk, rfl, hk'⟩ := PySem.W.moved_old e rfl m
    exact h0 (by omega) h' tk hk'
  · obtain ⟨h', tk, rfl, hk'⟩ := PySem.W.moved_old e rfl m
    rw [hz] at hP
    exact h (by omega) v h' tk hP hk'
theorem max_rawD {prog : Program} {w : World} {A : Around} {E : Value → Shared → Prop} {s : Shared} {l : Addr} {its : List Value} {ns : List Int} {d : Value} {Q : Value → Shared → Prop} (hh : A.handled = none) (hl : s.heap.IsList l its.toArray) (hi : IntsAre its ns)
    (h0 : ns = [] → ∀ h' tk, (∀ b o, s.heap.get? b = some o → h'.get? b = some o) → Q d { s with heap := h', toks := tk })
    (h : ∀ h' tk M t', (∀ b o, s.heap.get? b = some o → h'.get? b = some o) → M ∈ ns → (∀ a, a ∈ ns → a ≤ M) → Q (.int M t') { s with heap := h', toks := tk }) : wpAny (model prog w) A (call (.builtin "max") [.ref l] [(Str.ofString "default", d)]) Q E s := by
  obtain ⟨xs, e⟩ := hi.allInts.items
  have hn : numsOf (intItems xs).toList = ns := by rw [← e]; exact hi.numsOf
  rw [nums_intItems] at hn
  subst hn
  rw [e] at hl
  refine max_intListD hh hl (fun hz h' tk hk => h0 (by
    have : xs.toList = [] := List.length_eq_zero_iff.mp (by rw [Array.length_toList]; exact hz)
    rw [this]
    rfl) h' tk hk) fun hp v h' tk hv hk => ?_
  obtain ⟨t, rfl⟩ := intItems_at hv
  obtain ⟨h1, h2⟩ := argBest_gt (numAt xs) (xs.size - 1)
  refine h h' tk _ t hk ?_ fun a ha => ?_
  · rw [numAt_eq]; exact PySem.getD_mem (by rw [List.length_map, Array.length_toList]; omega)
  · obtain ⟨j, hj, rfl⟩ := mem_getD ha
    rw [List.length_map, Array.length_toList] at hj
    rw [← numAt_eq]; exact h2 j (by omega)
/-- one value -/
def onX (f : V → Hp → Prop) : List V → Hp → Prop := fun xs H => match xs with
  | [x] => f x H
  | _ => False
theorem onX_one {f : V → Hp → Prop} {xs : List V} {H : Hp} (h : onX f xs H) : ∃ x, xs = [x] ∧ f x H := by
  match xs, h with
  | [x], h => exact ⟨x, rfl, h⟩
/-- max(xs, default=d) -/
def rMaxD (K : PySem.W.Frag) (x d : V) (H : Hp) (Q : VK) : Prop := ∃ (a : Addr) (ns : List Int), x = V.ref a ∧ SqL K H a (ns.map V.int) ∧ (ns = [] → Q d H) ∧ ∀ m, m ∈ ns → (∀ y, y ∈ ns → y ≤ m) → Q (.int m) H
def tMaxD (K : PySem.W.Frag) (te td : TE) : TE := fun σ H Q => te σ H fun x H1 => td σ H1 fun d H2 => rMaxD K x d H2 Q
theorem pe_maxD {X : Cx} {e d : Expr} {p pos kp : Pos} {te td : TE} (hc : X.calm = true) (hg : Gl X "max") (hm : X.mg "max" = none) (he : PE X e te) (hd : PE X d td) (hst : starEach [e] X.env = [(false, eval e X.env)] := by rfl) :
    PE X (.Call (.Name "max" p) [e] [⟨some "default", d, kp⟩] pos) (tMaxD X.K te td) := by
  refine ⟨fun pins s σ H Q I h => ?_⟩
  refine wpAny_Call_Name_kw (ld_blt I hg hm (u := .builtin "max") (by decide +kernel) ?_ (by decide) (by decide))
  refine PyProof.Rows.callWith_kw ?_ (by rw [hst]; rfl) (by rw [hst]; rfl) rfl rfl
  have ha : PA X [e] (tCons te tNil) := pa_cons he pa_nil hst
  have hk : PK X [⟨some "default", d, kp⟩] (tCons td tNil) := pk_cons hd pk_nil
  refine thn (ha.run pos pins s σ H (onX fun x H1 => td σ H1 fun d H2 => rMaxD X.K x d H2 Q) I h) fun us s1 ⟨vs, H1, I1, r1, q1⟩ => ?_
  obtain ⟨x, rfl, q1⟩ := onX_one q1
  refine thn (hk.run pos pins s1 σ H1 (onX fun d H2 => rMaxD X.K x d H2 Q) I1 q1) fun ws s2 ⟨zs, H2, I2, r2, q2⟩ => ?_
  obtain ⟨z, rfl, a, ns, rfl, hs, q0, q2⟩ := onX_one q2
  rw [Vals.ref1 r1]
  cases r2 with
  | cons rz rn =>
    cases rn
    obtain ⟨its, rv, hl, _⟩ := I2.list hs
    exact max_rawD (I2.ok.hd hc) hl.isList rv.ints (fun h0 h' tk hk => ⟨z, H2, I2.kept hk, rz, q0 h0⟩) fun h' tk m t' hk h1 h2 => ⟨.int m, H2, I2.kept hk, ⟨_, rfl⟩, q2 m h1 h2⟩
end Nx

/-! Runs: many steps as one. -/
namespace Nx
open PySem PySem.Spec PyProof.Rows L2
/-- n steps lead from one state to another, none of them too large -/
def Rn (is : List Ins) (n k : Nat) (rs : List Tr) (k' : Nat) (rs' : List Tr) : Prop := ∀ m, go is (n + m) k rs = addN n (go is m k' rs')
section
variable {is : List Ins} {n m k k' k2 : Nat} {rs rs' rs2 : List Tr}
theorem Rn.refl (is : List Ins) (k : Nat) (rs : List Tr) : Rn is 0 k rs k rs := fun m => by rw [Nat.zero_add, addN_0]
theorem Rn.trans (a : Rn is n k rs k' rs') (b : Rn is m k' rs' k2 rs2) : Rn is (n + m) k rs k2 rs2 := fun j => by
  rw [Nat.add_assoc, a, b, addN_addN, Nat.add_comm m n]
theorem Rn.one {i : Ins} (h : is[k]? = some i) (g : bigS i rs = false) (e : stepAt i k rs = (k' : Int)) : Rn is 1 k rs k' (stepRs i rs) := fun m => by
  rw [Nat.add_comm 1 m, go_on h g, e]
  rfl
theorem Rn.cast (a : Rn is n k rs k' rs') (e1 : n = m) (e2 : rs' = rs2) (e3 : k' = k2) : Rn is m k rs k2 rs2 := by
  subst e1 e2 e3
  exact a
theorem Rn.go (a : Rn is n k rs k' rs') : go is n k rs = some (k', rs', n) := by
  have := a 0
  rw [Nat.add_zero] at this
  rw [this]
  show some (k', rs', 0 + n) = _
  rw [Nat.zero_add]
theorem Rn.big (a : Rn is n k rs k' rs') {i : Ins} (h : is[k']? = some i) (g : bigS i rs' = true) (m : Nat) : Nx.go is (n + (m + 1)) k rs = none := by
  rw [a, go_big h g]
  rfl
theorem go_pre : ∀ (n k : Nat) (rs : List Tr) {k' : Nat} {rs' : List Tr}, go is n k rs = some (k', rs', n) → k' < is.length → ∀ m, m ≤ n → ∃ k2 rs2, go is m k rs = some (k2, rs2, m) ∧ k2 < is.length
  | 0, k, rs, k', rs', e, hk, m, hm => by
    have : m = 0 := by omega
    subst this
    exact ⟨k', rs', e, hk⟩
  | n + 1, k, rs, k', rs', e, hk, m, hm => by
    cases hi : is[k]? with
    | none =>
      rw [go_end hi] at e
      cases e
    | some i =>
      have hk1 := (List.getElem?_eq_some_iff.mp hi).1
      cases hg : bigS i rs with
      | true =>
        rw [go_big hi hg] at e
        cases e
      | false =>
        cases m with
        | zero => exact ⟨k, rs, rfl, hk1⟩
        | succ m =>
          rw [go_on hi hg] at e
          cases e2 : go is n (stepAt i k rs).toNat (stepRs i rs) with
          | none =>
            rw [e2] at e
            cases e
          | some q =>
            rw [e2] at e
            obtain ⟨q1, q2, q3⟩ := q
            have e : some (q1, q2, q3 + 1) = some (k', rs', n + 1) := e
            cases e
            obtain ⟨k2, rs2, g1, g2⟩ := go_pre n _ _ e2 hk m (by omega)
            exact ⟨k2, rs2, by rw [go_on hi hg, g1]; rfl, g2⟩
theorem Rn.pre (a : Rn is n k rs k' rs') (hk : k' < is.length) (hm : m ≤ n) : ∃ k2 rs2, Nx.go is m k rs = some (k2, rs2, m) ∧ k2 < is.length := go_pre n k rs a.go hk m hm
end
theorem reg_set {rs : List Tr} {a : Nat} (t : Tr) (h : a < rs.length) : reg (rs.set a t) a = t := by
  unfold reg
  rw [List.getD_eq_getElem?_getD, List.getElem?_set_self h]
  rfl
theorem reg_ne {rs : List Tr} {a b : Nat} (t : Tr) (h : a ≠ b) : reg (rs.set a t) b = reg rs b := by
  unfold reg
  rw [List.getD_eq_getElem?_getD, List.getElem?_set_ne h, ← List.getD_eq_getElem?_getD]
/-! ### what is_program finds -/
theorem Ins.ok_of {k n j : Nat} {i : Ins} (h : Nx.rowD i.data j n = true) (hb : i.big ≤ 2 * k + 1) : i.ok 20 k j n := by
  rw [i.data_eq, rowD_is (shapes_at i), i.shape_kinds, Bool.and_eq_true] at h
  obtain ⟨_, h⟩ := h
  have r : ∀ a : Nat, fitsD 114 (.int a) j n = true → a < 20 := fun a ha => by
    have ha : (decide (0 ≤ (a : Int)) && decide ((a : Int) < 20)) = true := ha
    rw [Bool.and_eq_true] at ha
    have := of_decide_eq_true ha.2
    omega
  cases i with
  | set a t =>
    have h : (fitsD 114 (.int a) j n && (fitsD 116 (.str t.str) j n && true)) = true := h
    rw [Bool.and_eq_true] at h
    have hb : t.sg.length ≤ 2 * k + 1 := hb
    have := t.sg_len
    exact ⟨r a h.1, by omega⟩
  | move a b =>
    have h : (fitsD 114 (.int a) j n && (fitsD 114 (.int b) j n && true)) = true := h
    rw [Bool.and_eq_true, Bool.and_eq_true] at h
    exact ⟨r a h.1, r b h.2.1⟩
  | cons a b c =>
    have h : (fitsD 114 (.int a) j n && (fitsD 114 (.int b) j n && (fitsD 114 (.int c) j n && true))) = true := h
    rw [Bool.and_eq_true, Bool.and_eq_true, Bool.and_eq_true] at h
    exact ⟨r a h.1, r b h.2.1, r c h.2.2.1⟩
  | head a b =>
    have h : (fitsD 114 (.int a) j n && (fitsD 114 (.int b) j n && true)) = true := h
    rw [Bool.and_eq_true, Bool.and_eq_true] at h
    exact ⟨r a h.1, r b h.2.1⟩
  | tail a b =>
    have h : (fitsD 114 (.int a) j n && (fitsD 114 (.int b) j n && true)) = true := h
    rw [Bool.and_eq_true, Bool.and_eq_true] at h
    exact ⟨r a h.1, r b h.2.1⟩
  | jump a m =>
    have h : (fitsD 114 (.int a) j n && ((decide (0 ≤ (j : Int) + m) && decide ((j : Int) + m ≤ n)) && true)) = true := h
    rw [Bool.and_true, Bool.and_eq_true, Bool.and_eq_true] at h
    exact ⟨r a h.1, of_decide_eq_true h.2.1, of_decide_eq_true h.2.2⟩
theorem progOk_ok {is : List Ins} (h : progOk (progD is) = true) : PgOk 20 100000 is ∧ is.length ≤ 600 ∧ treesSum is ≤ 200000 := by
  have h : (decide ((is.map Ins.data).length ≤ 600) && (rowsD (is.map Ins.data).length 0 (is.map Ins.data) && (decide ((((is.map Ins.data).filterMap treeD).map Str.length).sum ≤ 200000) && ((is.map Ins.data).filterMap treeD).all fun t => isT t.cps.toList))) = true := h
  rw [fm_trees, List.length_map, Bool.and_eq_true, Bool.and_eq_true, Bool.and_eq_true] at h
  obtain ⟨h1, h2, h3, _⟩ := h
  have e3 : (((is.filterMap Ins.tree).map Tr.str).map Str.length).sum = treesSum is := by
    unfold treesSum
    rw [List.map_map]
    rfl
  rw [e3] at h3
  have h3 := of_decide_eq_true h3
  refine ⟨fun j i hi => ?_, of_decide_eq_true h1, h3⟩
  have hb : i.big ≤ treesSum is := by
    rw [treesSum_big]
    exact le_sum _ (List.mem_map.mpr ⟨i, List.mem_of_getElem? hi, rfl⟩)
  have hr := (rowsD_iff _ _ _).mp h2 j i.data (by rw [List.getElem?_map, hi]; rfl)
  rw [Int.zero_add] at hr
  exact Ins.ok_of hr (by omega)
theorem PgAt.cat {H : Hp} {p q : Addr} {is js : List Ins} (h1 : PgAt H p is) (h2 : PgAt H q js) : ∃ xs ys : List V, H p = some (.lst xs) ∧ H q = some (.lst ys) ∧ xs.length = is.length ∧ ys.length = js.length ∧ ∀ r, H r = none → PgAt (upd H r (.lst (xs ++ ys))) r (is ++ js) := by
  obtain ⟨as, a1, a2⟩ := h1
  obtain ⟨bs, b1, b2⟩ := h2
  refine ⟨_, _, a1, b1, by rw [List.length_map, Paired.len a2], by rw [List.length_map, Paired.len b2], fun r n => ⟨as ++ bs, by rw [upd_same, List.map_append], Rows.same (Same.upd n) (Paired.app a2 b2)⟩⟩
theorem PgAt.one {H : Hp} {T p : Addr} {i : Ins} (n : upd H T (.tup i.vs) p = none) : PgAt (upd (upd H T (.tup i.vs)) p (.lst [.ref T])) p [i] :=
  ⟨[T], upd_same, .cons (Same.upd n _ _ upd_same) .nil⟩
theorem PgAt.rep {H : Hp} {p : Addr} {i : Ins} (h : PgAt H p [i]) : ∃ T, H p = some (.lst [.ref T]) ∧ ∀ (n : Nat) (r : Addr), H r = none → PgAt (upd H r (.lst (List.replicate n [V.ref T]).flatten)) r (List.replicate n i) := by
  obtain ⟨as, a1, a2⟩ := h
  cases a2 with
  | cons r t =>
    cases t with
    | nil => exact ⟨_, a1, fun n q nq => ⟨List.replicate n _, by rw [upd_same, rep_ref], rows_rep (Same.upd nq _ _ r) n⟩⟩
theorem rs0_len (x : Tr) : (rs0 x).length = 20 := rfl
theorem rs0_0 (x : Tr) : reg (rs0 x) 0 = x := rfl
end Nx

/-! Programs out of programs. -/
namespace Nx
open PySem PySem.Spec PyProof.Rows L2
/-- a value that is a program -/
def PgV (H : Hp) (v : V) (is : List Ins) : Prop := ∃ p, v = .ref p ∧ PgAt H p is
abbrev PgVs (H : Hp) (vs : List V) (iss : List (List Ins)) : Prop := Paired (PgV H) vs iss
/-- a list of programs -/
def PgsAt (H : Hp) (D : Addr) (iss : List (List Ins)) : Prop := ∃ vs, H D = some (.lst vs) ∧ PgVs H vs iss
theorem PgV.same {H H' : Hp} {v : V} {is : List Ins} (h : PgV H v is) (e : Same H H') : PgV H' v is := by
  obtain ⟨p, h1, h2⟩ := h
  exact ⟨p, h1, h2.same e⟩
theorem PgVs.same {H H' : Hp} {vs : List V} {iss : List (List Ins)} (h : PgVs H vs iss) (e : Same H H') : PgVs H' vs iss := Paired.imp (fun v is q => q.same e) h
theorem PgsAt.same {H H' : Hp} {D : Addr} {iss : List (List Ins)} (h : PgsAt H D iss) (e : Same H H') : PgsAt H' D iss := by
  obtain ⟨vs, h1, h2⟩ := h
  exact ⟨vs, e _ _ h1, PgVs.same h2 e⟩
def progsD (iss : List (List Ins)) : PyData := .list (iss.map progD)
theorem pgvs_dp {K : PySem.W.Frag} {H : Hp} : ∀ {vs : List V} {iss : List (List Ins)}, PgVs H vs iss → DpAll K H vs (iss.map progD)
  | _, _, .nil => .nil
  | _, _, .cons ⟨p, e, h⟩ t => e ▸ .cons h.dp (pgvs_dp t)
theorem PgsAt.dp {K : PySem.W.Frag} {H : Hp} {D : Addr} {iss : List (List Ins)} (h : PgsAt H D iss) : Dp K H (.ref D) (progsD iss) := by
  obtain ⟨vs, h1, h2⟩ := h
  exact .lst (SqL.of h1) (pgvs_dp h2)
theorem progD_deep (is : List Ins) : (progD is).depth ≤ 2 := by
  show PyData.depthAll (is.map Ins.data) + 1 ≤ 2
  have := prog_deep is
  omega
theorem progs_lay : ∀ iss : List (List Ins), PyData.canLayAll0 (iss.map progD) = true
  | [] => rfl
  | is :: r => by
    show (PyData.canLayAll0 (is.map Ins.data) && PyData.canLayAll0 (r.map progD)) = true
    rw [prog_lay, progs_lay r]
    rfl
theorem progs_deep : ∀ iss : List (List Ins), PyData.depthAll (iss.map progD) ≤ 2
  | [] => by decide
  | is :: r => by
    show max (progD is).depth (PyData.depthAll (r.map progD)) ≤ 2
    have h1 := progs_deep r
    have h2 := progD_deep is
    omega
theorem progsD_shaped (iss : List (List Ins)) : SeqAt.shaped (progsD iss) = true := by
  show (PyData.canLayAll0 (iss.map progD) && decide (PyData.depthAll (iss.map progD) + 1 ≤ 64)) = true
  have := progs_deep iss
  rw [progs_lay, decide_eq_true (by omega)]
  rfl
/-! ### a heap without one address -/
theorem PgAt.offD {H : Hp} {p D : Addr} {is : List Ins} {xs : List V} (h : PgAt H p is) (n : p ≠ D) (hD : H D = some (.lst xs)) : PgAt (off D H) p is := by
  obtain ⟨as, h1, h2⟩ := h
  refine ⟨as, (off_at n).trans h1, Paired.imp (fun a i q => (off_at (fun z => ?_)).trans q) h2⟩
  rw [z, hD] at q
  cases q
theorem off_new2 {D : Addr} {H : Hp} (h : H D = none) : Same H (off D H) := same_off h
/-- a comprehension whose elements are programs that are drawn -/
theorem lc_progs {n : Nat} {te : TE} {vs : List Nat} {j : Nat} {σ : L2.St} {H1 : Hp} {D : Addr} {Qd : Hp → Prop} {st : Addr} (P : List Ins → Prop) (hD : H1 D = none) (s1 : Strm H1 st) (hn : n < sizeLine)
    (hw : ∀ x, wipe ((wipe σ vs).set j (some x)) vs = wipe σ vs)
    (he : ∀ (i : Nat) H', i < n → Strm H' st → ∀ Q : VK, (∀ p is H2, H' p = none → PgAt H2 p is → P is → ExS st H' H2 → Strm H2 st → Q (.ref p) H2) → te ((wipe σ vs).set j (some (.int i))) H' Q)
    (hd : ∀ iss H', iss.length = n → (∀ is ∈ iss, P is) → ExS st H1 H' → Strm H' st → PgsAt H' D iss → Qd H') :
    ∃ W : Nat → Nat → Hp → Prop, (∃ m, W 0 m (upd H1 D (.lst []))) ∧ ∀ i m H, W i m H →
      ((Itr 0 n).stop i H ∧ Qd H) ∨ ((Itr 0 n).go i H ∧ ∃ Nx : Hp → Prop, (∀ H', Nx H' → ∃ m', m' < m ∧ W (i + 1) m' H') ∧ ∀ x H', (Itr 0 n).yld i H x H' → (gName j) x (wipe σ vs) H' fun σ2 H2 => wipe σ2 vs = wipe σ vs ∧ tYes σ2 H2 fun b H3 =>
        if b = true then te σ2 H3 fun y H4 => ∃ acc, H4 D = some (.lst acc) ∧ acc.length < sizeLine ∧ Nx (upd H4 D (.lst (acc ++ [y]))) else Nx H3) := by
  have nD : D ≠ st := s1.ne hD
  refine lc_range (lo := 0) (n := n) (fun i H' => ∃ (ys : List V) (iss : List (List Ins)), iss.length = i ∧ (∀ is ∈ iss, P is) ∧ PgVs (off D H') ys iss ∧ ExS st H1 H' ∧ Strm H' st ∧ H' D = some (.lst ys)) ⟨[], [], rfl, fun _ h => (by cases h), .nil, .off nD hD .refl, s1.off hD .refl s1, upd_same⟩ (fun i H' hi p => ?_) (fun H' p => ?_)
  · obtain ⟨ys, iss, e1, e2, e3, e4, e5, e6⟩ := p
    have el := Paired.len e3
    refine ⟨hw _, ?_⟩
    simp only [tYes, ↓reduceIte]
    have e0 : (0 : Int) + (i : Int) = (i : Int) := Int.zero_add _
    show te ((wipe σ vs).set j (some (.int ((0 : Int) + (i : Int))))) H' _
    rw [e0]
    refine he i H' hi e5 _ fun p is H2 np hp hP ex st2 => ⟨ys, ex _ _ nD e6, by omega, ys ++ [.ref p], iss ++ [is], by rw [List.length_append, e1]; rfl, fun z hz => ?_, ?_, .off nD hD (e4.trans ex), s1.off hD (e4.trans ex) st2, upd_same⟩
    · rcases List.mem_append.mp hz with q | q
      · exact e2 z q
      · rw [List.mem_singleton.mp q]
        exact hP
    · rw [off_upd]
      have npD : p ≠ D := fun z => by rw [z, e6] at np; cases np
      refine Paired.app (Paired.imp (fun v is h => ?_) e3) (.cons ⟨p, rfl, hp.offD npD (ex _ _ nD e6)⟩ .nil)
      obtain ⟨q, rfl, as, h1, h2⟩ := h
      have stO : st ≠ D := nD.symm
      have hne : ∀ (a : Addr) (o : HO), off D H' a = some o → (∀ l r, o ≠ .lst (.ref l :: r) ∨ a ≠ st) → True := fun _ _ _ _ => trivial
      have exO : ExS st (off D H') (off D H2) := ⟨fun a o na h => by
        by_cases c : a = D
        · subst c
          unfold off at h
          rw [if_pos rfl] at h
          cases h
        · rw [off_at c] at h ⊢
          exact ex a o na h, fun l r h => by
        rw [off_at stO] at h
        obtain ⟨r', h'⟩ := ex.hd l r h
        exact ⟨r', by rw [off_at stO]; exact h'⟩⟩
      have stOff : Strm (off D H') st := by
        obtain ⟨l, ns, c, i, m, g1, g2, g3⟩ := e5
        refine ⟨l, ns, c, i, m, by rw [off_at stO]; exact g1, ?_, g3⟩
        by_cases c1 : l = D
        · exfalso
          obtain ⟨l1, ns1, c1', i1, m1, k1, k2, _⟩ := s1
          obtain ⟨r', hr⟩ := e4.hd l1 _ k1
          rw [g1] at hr
          have hl : l = l1 := V.ref.inj (List.cons.inj (HO.lst.inj (Option.some.inj hr))).1
          rw [← hl, c1, hD] at k2
          cases k2
        · rw [off_at c1]
          exact g2
      have hq : q ≠ st := fun z => by
        obtain ⟨l, ns, c, i, m, g1, g2, g3⟩ := stOff
        rw [z, g1] at h1
        have h4 := HO.lst.inj (Option.some.inj h1)
        cases as with
        | nil => cases h4
        | cons b r =>
          cases r with
          | nil => cases (List.cons.inj h4).2
          | cons b2 r2 => cases (List.cons.inj (List.cons.inj h4).2).1
      exact ⟨q, rfl, PgAt.exs ⟨as, h1, h2⟩ stOff hq exO⟩
  · obtain ⟨ys, iss, e1, e2, e3, e4, e5, e6⟩ := p
    exact hd iss H' e1 e2 e4 e5 ⟨ys, e6, PgVs.same e3 off_same⟩
/-- a comprehension that copies programs -/
theorem lc_copies {K : PySem.W.Frag} {a : Addr} {xs : List V} {iss : List (List Ins)} {te : TE} {vs : List Nat} {j : Nat} {σ : L2.St} {H1 : Hp} {D : Addr} {Qd : Hp → Prop} (hD : H1 D = none) (hs : SqL K H1 a xs) (hr : PgVs H1 xs iss) (hz : xs.length < sizeLine)
    (hw : ∀ x, wipe ((wipe σ vs).set j (some x)) vs = wipe σ vs) (he : ∀ (p : Addr) (is : List Ins) (H' : Hp), is ∈ iss → PgAt H1 p is → Same H1 H' → ∀ Q : VK, (∀ q H2, Same H' H2 → H' q = none → PgAt H2 q is → Q (.ref q) H2) → te ((wipe σ vs).set j (some (.ref p))) H' Q)
    (hd : ∀ H', Same H1 H' → PgsAt H' D iss → Qd H') :
    ∃ W : Nat → Nat → Hp → Prop, (∃ m, W 0 m (upd H1 D (.lst []))) ∧ ∀ i m H, W i m H →
      ((Itl K a).stop i H ∧ Qd H) ∨ ((Itl K a).go i H ∧ ∃ Nx : Hp → Prop, (∀ H', Nx H' → ∃ m', m' < m ∧ W (i + 1) m' H') ∧ ∀ x H', (Itl K a).yld i H x H' → (gName j) x (wipe σ vs) H' fun σ2 H2 => wipe σ2 vs = wipe σ vs ∧ tYes σ2 H2 fun b H3 =>
        if b = true then te σ2 H3 fun y H4 => ∃ acc, H4 D = some (.lst acc) ∧ acc.length < sizeLine ∧ Nx (upd H4 D (.lst (acc ++ [y]))) else Nx H3) := by
  have hu : ∀ {H' : Hp} {o : HO}, Same H1 H' → Same H1 (upd H' D o) := fun {H' o} e b x q => by
    rw [upd_ne (ne_of_none q hD)]
    exact e b x q
  have hlen := Paired.len hr
  refine lc_list (xs := xs) (fun i H' => Same H1 H' ∧ ∃ ys : List V, H' D = some (.lst ys) ∧ PgVs (off D H') ys (iss.take i)) ⟨hu (.refl _), [], upd_same, .nil⟩ (fun i H' _ p => p.1.seq hs) (fun i x H' hi p => ?_) (fun H' p => ?_)
  · obtain ⟨sm, ys, hD', hr'⟩ := p
    obtain ⟨is, hij⟩ : ∃ is, iss[i]? = some is := ⟨_, List.getElem?_eq_getElem (by have := (List.getElem?_eq_some_iff.mp hi).1; omega)⟩
    obtain ⟨x2, h1, p, rfl, hp⟩ := Paired.get hr hij
    rw [hi] at h1
    cases h1
    refine ⟨hw _, ?_⟩
    simp only [tYes, ↓reduceIte]
    refine he p is H' (List.mem_of_getElem? hij) hp sm _ fun q H2 s2 nq hq => ⟨ys, s2 _ _ hD', ?_, hu (sm.trans s2), ys ++ [.ref q], by rw [upd_same], ?_⟩
    · have := Paired.len hr'
      rw [List.length_take] at this
      have := (List.getElem?_eq_some_iff.mp hi).1
      omega
    · rw [off_upd, List.take_add_one, hij]
      have nqD : q ≠ D := fun z => by rw [z, hD'] at nq; cases nq
      exact Paired.app (Paired.imp (fun v js h => h.same s2.offS) hr') (.cons ⟨q, rfl, hq.offD nqD (s2 _ _ hD')⟩ .nil)
  · obtain ⟨sm, ys, hD', hr'⟩ := p
    rw [hlen, List.take_length] at hr'
    exact hd H' sm ⟨ys, hD', PgVs.same hr' off_same⟩
/-- a comprehension over a list, value by value -/
theorem lc_ix {K : PySem.W.Frag} {a : Addr} {xs ys : List V} {te : TE} {vs : List Nat} {j : Nat} {σ : L2.St} {H1 : Hp} {D : Addr} {Qd : Hp → Prop} (hl : xs.length = ys.length) (hD : H1 D = none) (hs : SqL K H1 a xs) (hz : xs.length < sizeLine)
    (hw : ∀ x, wipe ((wipe σ vs).set j (some x)) vs = wipe σ vs) (he : ∀ (i : Nat) (x y : V) (H' : Hp), xs[i]? = some x → ys[i]? = some y → Same H1 H' → ∀ Q : VK, (∀ H2, Same H' H2 → Q y H2) → te ((wipe σ vs).set j (some x)) H' Q)
    (hd : ∀ H', Same H1 H' → H' D = some (.lst ys) → Qd H') :
    ∃ W : Nat → Nat → Hp → Prop, (∃ m, W 0 m (upd H1 D (.lst []))) ∧ ∀ i m H, W i m H →
      ((Itl K a).stop i H ∧ Qd H) ∨ ((Itl K a).go i H ∧ ∃ Nx : Hp → Prop, (∀ H', Nx H' → ∃ m', m' < m ∧ W (i + 1) m' H') ∧ ∀ x H', (Itl K a).yld i H x H' → (gName j) x (wipe σ vs) H' fun σ2 H2 => wipe σ2 vs = wipe σ vs ∧ tYes σ2 H2 fun b H3 =>
        if b = true then te σ2 H3 fun y H4 => ∃ acc, H4 D = some (.lst acc) ∧ acc.length < sizeLine ∧ Nx (upd H4 D (.lst (acc ++ [y]))) else Nx H3) := by
  have hu : ∀ {H' : Hp} {o : HO}, Same H1 H' → Same H1 (upd H' D o) := fun {H' o} e b x q => by
    rw [upd_ne (ne_of_none q hD)]
    exact e b x q
  refine lc_list (xs := xs) (fun i H' => Same H1 H' ∧ H' D = some (.lst (ys.take i))) ⟨hu (.refl _), upd_same⟩ (fun i H' _ p => p.1.seq hs) (fun i x H' hi p => ?_) (fun H' p => ?_)
  · have hil : i < ys.length := by
      have := (List.getElem?_eq_some_iff.mp hi).1
      omega
    have hy := List.getElem?_eq_getElem hil
    refine ⟨hw x, ?_⟩
    simp only [tYes, ↓reduceIte]
    refine he i x _ H' hi hy p.1 _ fun H2 e2 => ⟨_, e2 _ _ p.2, ?_, hu (p.1.trans e2), ?_⟩
    · rw [List.length_take]
      omega
    · rw [upd_same, List.take_add_one, hy]
      rfl
  · have e := p.2
    rw [hl, List.take_length] at e
    exact hd H' p.1 e
/-- a comprehension over a range whose elements are instructions -/
theorem lc_rows {lo : Int} {n : Nat} {te : TE} {vs : List Nat} {j : Nat} {σ : L2.St} {H1 : Hp} {D : Addr} {Qd : Hp → Prop} (f : Nat → Ins) (hD : H1 D = none) (hn : n < sizeLine)
    (hw : ∀ x, wipe ((wipe σ vs).set j (some x)) vs = wipe σ vs)
    (he : ∀ (i : Nat) H', i < n → Same H1 H' → ∀ Q : VK, (∀ T H2, Same H' H2 → H2 T = some (.tup (f i).vs) → Q (.ref T) H2) → te ((wipe σ vs).set j (some (.int (lo + i)))) H' Q)
    (hd : ∀ H', Same H1 H' → PgAt H' D ((List.range n).map f) → Qd H') :
    ∃ W : Nat → Nat → Hp → Prop, (∃ m, W 0 m (upd H1 D (.lst []))) ∧ ∀ i m H, W i m H →
      ((Itr lo n).stop i H ∧ Qd H) ∨ ((Itr lo n).go i H ∧ ∃ Nx : Hp → Prop, (∀ H', Nx H' → ∃ m', m' < m ∧ W (i + 1) m' H') ∧ ∀ x H', (Itr lo n).yld i H x H' → (gName j) x (wipe σ vs) H' fun σ2 H2 => wipe σ2 vs = wipe σ vs ∧ tYes σ2 H2 fun b H3 =>
        if b = true then te σ2 H3 fun y H4 => ∃ acc, H4 D = some (.lst acc) ∧ acc.length < sizeLine ∧ Nx (upd H4 D (.lst (acc ++ [y]))) else Nx H3) := by
  have hu : ∀ {H' : Hp} {o : HO}, Same H1 H' → Same H1 (upd H' D o) := fun {H' o} e b x q => by
    rw [upd_ne (ne_of_none q hD)]
    exact e b x q
  refine lc_range (lo := lo) (n := n) (fun i H' => Same H1 H' ∧ ∃ as : List Addr, H' D = some (.lst (as.map V.ref)) ∧ Rows H' as ((List.range i).map f)) ⟨hu (.refl _), [], upd_same, .nil⟩ (fun i H' hi p => ?_) (fun H' p => ?_)
  · obtain ⟨sm, as, hD', hr⟩ := p
    refine ⟨hw _, ?_⟩
    simp only [tYes, ↓reduceIte]
    refine he i H' hi sm _ fun T H2 s2 hT => ⟨_, s2 _ _ hD', ?_, hu (sm.trans s2), as ++ [T], by rw [upd_same, List.map_append]; rfl, ?_⟩
    · have := Paired.len hr
      rw [List.length_map, List.length_range] at this
      rw [List.length_map]
      omega
    · rw [List.range_succ, List.map_append]
      have hD2 := s2 _ _ hD'
      refine Paired.app (Paired.imp (fun a i q => ?_) (Rows.same s2 hr)) (.cons ?_ .nil)
      · exact (upd_ne (fun z => by rw [z, hD2] at q; cases q)).trans q
      · exact (upd_ne (fun z => by rw [z, hD2] at hT; cases hT)).trans hT
  · obtain ⟨sm, as, h1, h2⟩ := p
    exact hd H' sm ⟨as, h1, h2⟩
/-! ### the mathematics -/
/-- the cleaning of a program of this width -/
def cln (w : Nat) : List Ins := (List.range (w - 1)).map fun k => .set (k + 1) .leaf
theorem cln_len (w : Nat) : (cln w).length = w - 1 := by
  unfold cln
  rw [List.length_map, List.length_range]
def gw (iss : List (List Ins)) : Nat := (iss.map wid).foldl max 1
def chainP : List (List Ins) → List Ins
  | [] => []
  | p :: r => p ++ (r.flatMap fun q => cln (wid q) ++ q)
/-- what within_limits lets pass -/
def Fits (is : List Ins) : Prop := is.length ≤ 600 ∧ treesSum is ≤ 200000
theorem foldl_max_le {m : Nat} : ∀ (l : List Nat) (g : Nat), l.foldl max g ≤ m ↔ g ≤ m ∧ ∀ x ∈ l, x ≤ m
  | [], g => by simp
  | x :: l, g => by
    rw [List.foldl_cons, foldl_max_le l (max g x)]
    constructor
    · rintro ⟨h1, h2⟩
      refine ⟨by omega, fun y hy => ?_⟩
      rcases List.mem_cons.mp hy with rfl | hy
      · omega
      · exact h2 y hy
    · rintro ⟨h1, h2⟩
      have := h2 x (List.mem_cons_self ..)
      exact ⟨by omega, fun y hy => h2 y (List.mem_cons_of_mem _ hy)⟩
theorem foldl_max_mem : ∀ (l : List Nat) (g : Nat), l.foldl max g = g ∨ l.foldl max g ∈ l
  | [], g => .inl rfl
  | x :: l, g => by
    rw [List.foldl_cons]
    rcases foldl_max_mem l (max g x) with h | h
    · rw [h]
      rcases Nat.le_total g x with c | c
      · rw [Nat.max_eq_right c]
        exact .inr (List.mem_cons_self ..)
      · rw [Nat.max_eq_left c]
        exact .inl rfl
    · exact .inr (List.mem_cons_of_mem _ h)
theorem wid_pos (is : List Ins) : 1 ≤ wid is := Nat.succ_le_succ (Nat.zero_le _)
theorem gw_le {m : Nat} {iss : List (List Ins)} (hm : 1 ≤ m) : gw iss ≤ m ↔ ∀ is ∈ iss, wid is ≤ m := by
  unfold gw
  rw [foldl_max_le]
  constructor
  · rintro ⟨_, h⟩ is hi
    exact h _ (List.mem_map.mpr ⟨is, hi, rfl⟩)
  · intro h
    refine ⟨hm, fun x hx => ?_⟩
    obtain ⟨is, hi, rfl⟩ := List.mem_map.mp hx
    exact h is hi
/-- the greatest of the widths, as max finds it -/
theorem gw_is {iss : List (List Ins)} {m : Int} (h1 : m ∈ iss.map fun is => ((wid is : Nat) : Int)) (h2 : ∀ y ∈ iss.map fun is => ((wid is : Nat) : Int), y ≤ m) : m = (gw iss : Nat) := by
  obtain ⟨is, hi, rfl⟩ := List.mem_map.mp h1
  have h3 : ∀ js ∈ iss, wid js ≤ wid is := fun js hj => by
    have := h2 _ (List.mem_map.mpr ⟨js, hj, rfl⟩)
    omega
  have h4 : gw iss ≤ wid is := (gw_le (wid_pos is)).mpr h3
  have h5 := (gw_le (m := gw iss) (by
    rcases Nat.lt_or_ge (gw iss) 1 with c | c
    · have : gw iss ≤ gw iss := Nat.le_refl _
      unfold gw at this c
      have := ((foldl_max_le _ _).mp this).1
      omega
    · exact c)).mp (Nat.le_refl _) is hi
  omega
theorem gst_le {m : Nat} {is : List Ins} : wid is ≤ m + 1 ↔ ∀ i ∈ is, ∀ r ∈ i.regs, r ≤ m := by
  unfold wid gst
  rw [Nat.succ_le_succ_iff, foldl_max_le]
  constructor
  · rintro ⟨_, h⟩ i hi r hr
    exact h r (List.mem_flatMap.mpr ⟨i, hi, hr⟩)
  · intro h
    refine ⟨Nat.zero_le _, fun r hr => ?_⟩
    obtain ⟨i, hi, hr⟩ := List.mem_flatMap.mp hr
    exact h i hi r hr
theorem wid_below {n : Nat} {is : List Ins} (hn : 0 < n) : wid is ≤ n ↔ ∀ i ∈ is, i.below n := by
  obtain ⟨m, rfl⟩ : ∃ m, n = m + 1 := ⟨n - 1, by omega⟩
  rw [gst_le]
  exact ⟨fun h i hi r hr => Nat.lt_succ_of_le (h i hi r hr), fun h i hi r hr => Nat.le_of_lt_succ (h i hi r hr)⟩
theorem treesSum_app (a b : List Ins) : treesSum (a ++ b) = treesSum a + treesSum b := by
  rw [treesSum_big, treesSum_big, treesSum_big, List.map_append, List.sum_append]
theorem chainP_snoc (l : List (List Ins)) (q : List Ins) : chainP (l ++ [q]) = if l = [] then q else chainP l ++ (cln (wid q) ++ q) := by
  cases l with
  | nil =>
    rw [if_pos rfl]
    show q ++ [] = q
    rw [List.append_nil]
  | cons p r =>
    rw [if_neg (by intro z; cases z)]
    show p ++ ((r ++ [q]).flatMap fun q => cln (wid q) ++ q) = (p ++ r.flatMap fun q => cln (wid q) ++ q) ++ (cln (wid q) ++ q)
    rw [List.flatMap_append, List.append_assoc]
    congr 2
    show (cln (wid q) ++ q) ++ [] = _
    rw [List.append_nil]
theorem chainP_take {l : List (List Ins)} {j : Nat} {q : List Ins} (h : l[j]? = some q) : chainP (l.take (j + 1)) = if j = 0 then q else chainP (l.take j) ++ (cln (wid q) ++ q) := by
  rw [List.take_add_one, h]
  show chainP (l.take j ++ [q]) = _
  rw [chainP_snoc]
  have hl := (List.getElem?_eq_some_iff.mp h).1
  by_cases c : j = 0
  · subst c
    rfl
  · rw [if_neg c, if_neg]
    intro z
    have := congrArg List.length z
    rw [List.length_take] at this
    have h0 : ([] : List (List Ins)).length = 0 := rfl
    omega
theorem chainP_le (l : List (List Ins)) : ∀ (n j : Nat), l.length - j = n → j ≤ l.length → (chainP (l.take j)).length ≤ (chainP l).length
  | 0, j, h, hj => by
    rw [List.take_of_length_le (by omega)]
    exact Nat.le_refl _
  | n + 1, j, h, hj => by
    have hl : j < l.length := by omega
    refine Nat.le_trans ?_ (chainP_le l n (j + 1) (by omega) (by omega))
    rw [chainP_take (List.getElem?_eq_getElem hl)]
    by_cases c : j = 0
    · subst c
      rw [if_pos rfl]
      exact Nat.zero_le _
    · rw [if_neg c, List.length_append]
      omega
theorem chainP_take_le (l : List (List Ins)) {j : Nat} (hj : j ≤ l.length) : (chainP (l.take j)).length ≤ (chainP l).length := chainP_le l _ j rfl hj
theorem cln_mem {w : Nat} {i : Ins} (h : i ∈ cln w) : ∃ k, k < w - 1 ∧ i = .set (k + 1) .leaf := by
  obtain ⟨k, h1, h2⟩ := List.mem_map.mp h
  exact ⟨k, List.mem_range.mp h1, h2.symm⟩
theorem chainP_mem {l : List (List Ins)} {i : Ins} (h : i ∈ chainP l) : (∃ is ∈ l, i ∈ is) ∨ ∃ is ∈ l, i ∈ cln (wid is) := by
  cases l with
  | nil => cases h
  | cons p r =>
    rcases List.mem_append.mp h with h | h
    · exact .inl ⟨p, List.mem_cons_self .., h⟩
    · obtain ⟨q, hq, h⟩ := List.mem_flatMap.mp h
      rcases List.mem_append.mp h with h | h
      · exact .inr ⟨q, List.mem_cons_of_mem _ hq, h⟩
      · exact .inl ⟨q, List.mem_cons_of_mem _ hq, h⟩
theorem cln_big {w : Nat} {i : Ins} (h : i ∈ cln w) : i.big = 1 := by
  obtain ⟨k, _, rfl⟩ := cln_mem h
  rfl
/-- what stood before a new list was made stands when that list is changed -/
theorem _root_.L2.Same.but_new {H0 H H' : Hp} {g : Addr} (s : Same H0 H) (n : H0 g = none) (e : But g H H') : Same H0 H' := fun a o h => e a o (ne_of_none h n) (s a o h)
theorem But.upd {g : Addr} {H : Hp} {o : HO} : But g H (upd H g o) := fun b x n h => (upd_ne n).trans h
theorem same_new {H H' : Hp} {a : Addr} (s : Same H H') (n : H' a = none) : H a = none := by
  cases c : H a with
  | none => rfl
  | some o =>
    have := s _ _ c
    rw [n] at this
    cases this
theorem PgOk.app {w k : Nat} {a b : List Ins} (ha : PgOk w k a) (hb : PgOk w k b) : PgOk w k (a ++ b) := fun i x h => by
  rw [List.length_append]
  by_cases c : i < a.length
  · rw [List.getElem?_append_left c] at h
    have := ha i x h
    cases x with
    | jump r m => exact ⟨this.1, this.2.1, by have := this.2.2; omega⟩
    | _ => exact this
  · rw [List.getElem?_append_right (by omega)] at h
    have h1 := hb _ x h
    cases x with
    | jump r m => exact ⟨h1.1, by have := h1.2.1; omega, by have := h1.2.2; omega⟩
    | _ => exact h1
theorem PgOk.nil {w k : Nat} : PgOk w k [] := fun i x h => by simp at h
theorem PgOk.wide {w v k : Nat} {is : List Ins} (h : PgOk w k is) (hw : w ≤ v) : PgOk v k is := fun j x hx => by
  have h := h j x hx
  cases x with
  | set a t => exact ⟨Nat.lt_of_lt_of_le h.1 hw, h.2⟩
  | move a b => exact ⟨Nat.lt_of_lt_of_le h.1 hw, Nat.lt_of_lt_of_le h.2 hw⟩
  | head a b => exact ⟨Nat.lt_of_lt_of_le h.1 hw, Nat.lt_of_lt_of_le h.2 hw⟩
  | tail a b => exact ⟨Nat.lt_of_lt_of_le h.1 hw, Nat.lt_of_lt_of_le h.2 hw⟩
  | cons a b c => exact ⟨Nat.lt_of_lt_of_le h.1 hw, Nat.lt_of_lt_of_le h.2.1 hw, Nat.lt_of_lt_of_le h.2.2 hw⟩
  | jump a m => exact ⟨Nat.lt_of_lt_of_le h.1 hw, h.2⟩
theorem PgOk.wid {w k : Nat} {is : List Ins} (h : PgOk w k is) (hw : 0 < w) : Nx.wid is ≤ w := (wid_below hw).mpr fun i hi => by
  obtain ⟨j, hj⟩ := List.getElem?_of_mem hi
  exact Ins.ok_below (h j i hj)
theorem cln_ok {w v k : Nat} (hw : w ≤ v) : PgOk v k (cln w) := fun j x h => by
  obtain ⟨m, hm, rfl⟩ := cln_mem (List.mem_of_getElem? h)
  exact ⟨by omega, Nat.zero_le _⟩
theorem chainP_ok {w k : Nat} {iss : List (List Ins)} (h : ∀ is ∈ iss, PgOk w k is) (hw : 0 < w) : PgOk w k (chainP iss) := by
  have key : ∀ r : List (List Ins), (∀ is ∈ r, PgOk w k is) → PgOk w k (r.flatMap fun q => cln (Nx.wid q) ++ q) := fun r => by
    induction r with
    | nil => exact fun _ => PgOk.nil
    | cons q r ih =>
      intro hr
      rw [List.flatMap_cons]
      have hq := hr q (List.mem_cons_self ..)
      exact ((cln_ok (hq.wid hw)).app hq).app (ih fun is hi => hr is (List.mem_cons_of_mem _ hi))
  cases iss with
  | nil => exact PgOk.nil
  | cons p r => exact (h p (List.mem_cons_self ..)).app (key r fun is hi => h is (List.mem_cons_of_mem _ hi))
theorem chainP_bound {a b : Nat} {iss : List (List Ins)} (h : ∀ is ∈ iss, is.length ≤ a ∧ Nx.wid is ≤ b) : (chainP iss).length ≤ iss.length * (a + b) := by
  have key : ∀ r : List (List Ins), (∀ is ∈ r, is.length ≤ a ∧ Nx.wid is ≤ b) → (r.flatMap fun q => cln (Nx.wid q) ++ q).length ≤ r.length * (a + b) := fun r => by
    induction r with
    | nil => exact fun _ => Nat.zero_le _
    | cons q r ih =>
      intro hr
      have h1 := hr q (List.mem_cons_self ..)
      have h2 := ih fun is hi => hr is (List.mem_cons_of_mem _ hi)
      rw [List.flatMap_cons, List.length_append, List.length_append, cln_len, List.length_cons, Nat.succ_mul]
      omega
  cases iss with
  | nil => exact Nat.zero_le _
  | cons p r =>
    have h1 := h p (List.mem_cons_self ..)
    have h2 := key r fun is hi => h is (List.mem_cons_of_mem _ hi)
    show (p ++ _).length ≤ _
    rw [List.length_append, List.length_cons, Nat.succ_mul]
    omega
theorem trees_le {m : Nat} (l : List Ins) (h : ∀ i ∈ l, i.big ≤ m) : treesSum l ≤ l.length * m := by
  rw [treesSum_big]
  exact sum_le _ _ _ h
/-! ### towers -/
def towT : List (List Ins) → Tr → Tr
  | [], x => x
  | p :: r, x => .node (codeT p) (towT r x)
theorem towT_sg : ∀ (iss : List (List Ins)) (x : Tr), (towT iss x).sg = (iss.map fun is => 49 :: (codeT is).sg).flatten ++ x.sg
  | [], x => rfl
  | p :: r, x => by
    show 49 :: ((codeT p).sg ++ (towT r x).sg) = _
    rw [towT_sg r x, List.map_cons, List.flatten_cons, List.append_assoc]
    rfl
theorem towT_ge {iss : List (List Ins)} {is : List Ins} (x : Tr) (h : is ∈ iss) : (codeT is).sg.length < (towT iss x).sg.length := by
  induction iss with
  | nil => cases h
  | cons p r ih =>
    show _ < (Tr.node (codeT p) (towT r x)).sg.length
    rw [node_len]
    rcases List.mem_cons.mp h with rfl | h
    · omega
    · have := ih h
      omega
theorem towT_app (a b : List (List Ins)) (x : Tr) : towT (a ++ b) x = towT a (towT b x) := by
  induction a with
  | nil => rfl
  | cons p r ih =>
    show Tr.node (codeT p) (towT (r ++ b) x) = .node (codeT p) (towT r (towT b x))
    rw [ih]
theorem towT_le {m : Nat} {iss : List (List Ins)} (x : Tr) (h : ∀ is ∈ iss, (codeT is).sg.length ≤ m) : (towT iss x).sg.length ≤ iss.length * (m + 1) + x.sg.length := by
  induction iss with
  | nil =>
    show x.sg.length ≤ _
    omega
  | cons p r ih =>
    have h1 := h p (List.mem_cons_self ..)
    have h2 := ih fun is hi => h is (List.mem_cons_of_mem _ hi)
    show (Tr.node (codeT p) (towT r x)).sg.length ≤ _
    rw [node_len, List.length_cons, Nat.succ_mul]
    omega
end Nx

/-! Lines: instructions, marks, and jumps to marks. -/
namespace Nx
open PySem PySem.Spec PyProof.Rows L2
inductive Line where
  | ins (i : Ins)
  | mark (n : Str)
  | jmp (a : Nat) (n : Str)
def Line.vs : Line → List V
  | .ins i => i.vs
  | .mark n => [.str "mark", .str n]
  | .jmp a n => [.str "jump", .int a, .str n]
def LnR (H : Hp) (v : V) (l : Line) : Prop := ∃ a, v = .ref a ∧ H a = some (.tup l.vs)
abbrev Lns (H : Hp) (vs : List V) (ls : List Line) : Prop := Paired (LnR H) vs ls
theorem LnR.same {H H' : Hp} {v : V} {l : Line} (h : LnR H v l) (e : Same H H') : LnR H' v l := by
  obtain ⟨a, h1, h2⟩ := h
  exact ⟨a, h1, e _ _ h2⟩
theorem Lns.same {H H' : Hp} {vs : List V} {ls : List Line} (h : Lns H vs ls) (e : Same H H') : Lns H' vs ls := Paired.imp (fun v l q => q.same e) h
theorem rows_lns {H : Hp} : ∀ {as : List Addr} {is : List Ins}, Rows H as is → Lns H (as.map V.ref) (is.map Line.ins)
  | _, _, .nil => .nil
  | _, _, .cons r t => .cons ⟨_, rfl, r⟩ (rows_lns t)
def Line.isM : Line → Bool
  | .mark _ => true
  | _ => false
/-- how many instructions these lines are -/
def cnt (ls : List Line) : Nat := (ls.filter fun l => !l.isM).length
theorem cnt_nil : cnt [] = 0 := rfl
theorem cnt_app (a b : List Line) : cnt (a ++ b) = cnt a + cnt b := by
  unfold cnt
  rw [List.filter_append, List.length_append]
theorem cnt_ins (is : List Ins) : cnt (is.map Line.ins) = is.length := by
  unfold cnt
  rw [List.filter_eq_self.mpr (fun l hl => by
    obtain ⟨i, _, rfl⟩ := List.mem_map.mp hl
    rfl), List.length_map]
theorem cnt_le (ls : List Line) : cnt ls ≤ ls.length := List.length_filter_le _ _
def mstep (n : Str) (p : Nat × Option Nat) (l : Line) : Nat × Option Nat := match l with
  | .mark m => (p.1, if n = m then some p.1 else p.2)
  | _ => (p.1 + 1, p.2)
def mst (n : Str) (p : Nat × Option Nat) (ls : List Line) : Nat × Option Nat := ls.foldl (mstep n) p
/-- where the mark of this name stands -/
def mval (ls : List Line) (n : Str) : Option Nat := (mst n (0, none) ls).2
theorem mst_fst (n : Str) : ∀ (ls : List Line) (p : Nat × Option Nat), (mst n p ls).1 = p.1 + cnt ls
  | [], p => rfl
  | l :: r, p => by
    show (mst n (mstep n p l) r).1 = _
    rw [mst_fst n r, show (l :: r) = [l] ++ r from rfl, cnt_app]
    cases l with
    | mark m => show p.1 + cnt r = p.1 + (0 + cnt r); omega
    | ins i => show p.1 + 1 + cnt r = p.1 + (1 + cnt r); omega
    | jmp a m => show p.1 + 1 + cnt r = p.1 + (1 + cnt r); omega
theorem mst_app (n : Str) (a b : List Line) (p : Nat × Option Nat) : mst n p (a ++ b) = mst n (mst n p a) b := List.foldl_append
theorem mst_cons (n : Str) (l : Line) (b : List Line) (p : Nat × Option Nat) : mst n p (l :: b) = mst n (mstep n p l) b := rfl
theorem mst_nil (n : Str) (p : Nat × Option Nat) : mst n p [] = p := rfl
theorem mst_ins (n : Str) : ∀ (is : List Ins) (p : Nat × Option Nat), mst n p (is.map Line.ins) = (p.1 + is.length, p.2)
  | [], p => rfl
  | i :: r, p => by
    show mst n (p.1 + 1, p.2) (r.map Line.ins) = _
    rw [mst_ins n r]
    show (p.1 + 1 + r.length, p.2) = (p.1 + (r.length + 1), p.2)
    rw [show p.1 + 1 + r.length = p.1 + (r.length + 1) by omega]
theorem mval_snoc (ls : List Line) (l : Line) (n : Str) : mval (ls ++ [l]) n = match l with
    | .mark m => if n = m then some (cnt ls) else mval ls n
    | _ => mval ls n := by
  unfold mval
  rw [mst_app]
  have h := mst_fst n ls (0, none)
  cases l with
  | mark m =>
    show (if n = m then some (mst n (0, none) ls).1 else (mst n (0, none) ls).2) = _
    rw [h, Nat.zero_add]
  | ins i => rfl
  | jmp a m => rfl
/-- the instructions that the lines stand for -/
def plc (d : Str → Nat) : Nat → List Line → List Ins
  | _, [] => []
  | k, .ins i :: r => i :: plc d (k + 1) r
  | k, .jmp a n :: r => .jump a ((d n : Int) - k) :: plc d (k + 1) r
  | k, .mark _ :: r => plc d k r
theorem plc_app (d : Str → Nat) : ∀ (a b : List Line) (k : Nat), plc d k (a ++ b) = plc d k a ++ plc d (k + cnt a) b
  | [], b, k => rfl
  | l :: a, b, k => by
    have hc : cnt (l :: a) = cnt [l] + cnt a := cnt_app [l] a
    cases l with
    | ins i =>
      show i :: plc d (k + 1) (a ++ b) = i :: (plc d (k + 1) a ++ plc d (k + cnt (.ins i :: a)) b)
      rw [plc_app d a b, hc, show k + 1 + cnt a = k + (cnt [.ins i] + cnt a) by show k + 1 + cnt a = k + (1 + cnt a); omega]
    | jmp r m =>
      show _ :: plc d (k + 1) (a ++ b) = _ :: (plc d (k + 1) a ++ plc d (k + cnt (.jmp r m :: a)) b)
      rw [plc_app d a b, hc, show k + 1 + cnt a = k + (cnt [.jmp r m] + cnt a) by show k + 1 + cnt a = k + (1 + cnt a); omega]
    | mark m =>
      show plc d k (a ++ b) = plc d k a ++ plc d (k + cnt (.mark m :: a)) b
      rw [plc_app d a b, hc, show k + cnt a = k + (cnt [.mark m] + cnt a) by show k + cnt a = k + (0 + cnt a); omega]
theorem plc_ins (d : Str → Nat) : ∀ (is : List Ins) (k : Nat), plc d k (is.map Line.ins) = is
  | [], k => rfl
  | i :: r, k => by
    show i :: plc d (k + 1) (r.map Line.ins) = _
    rw [plc_ins d r]
theorem plc_len (d : Str → Nat) : ∀ (ls : List Line) (k : Nat), (plc d k ls).length = cnt ls
  | [], k => rfl
  | l :: r, k => by
    have hc : cnt (l :: r) = cnt [l] + cnt r := cnt_app [l] r
    cases l with
    | ins i =>
      show (plc d (k + 1) r).length + 1 = _
      rw [plc_len d r, hc]
      show _ = 1 + cnt r
      omega
    | jmp a m =>
      show (plc d (k + 1) r).length + 1 = _
      rw [plc_len d r, hc]
      show _ = 1 + cnt r
      omega
    | mark m =>
      show (plc d k r).length = _
      rw [plc_len d r, hc]
      show _ = 0 + cnt r
      omega
end Nx

/-! The programs of point 10. -/
namespace Nx
open PySem PySem.Spec PyProof.Rows L2
abbrev p100 : Tr := .node .leaf .leaf
def bothP (w : Nat) (p q : List Ins) : List Ins := .move w 0 :: (p ++ (.move (w + 1) 0 :: .move 0 w :: (cln (wid q) ++ (q ++ [.cons 0 (w + 1) 0]))))
def partL (p : List Ins) : Nat := (cln (wid p)).length + p.length
def choiceP (w : Nat) (c p q : List Ins) : List Ins :=
  .move w 0 :: (c ++ (.jump 0 ((partL q : Nat) + 4) :: .move 0 w :: (cln (wid q) ++ (q ++ (.set w p100 :: .jump w ((partL p : Nat) + 2) :: .move 0 w :: (cln (wid p) ++ p))))))
def choiceL (w : Nat) (c p q : List Ins) : List Line :=
  .ins (.move w 0) :: (c.map Line.ins ++ (.jmp 0 "first" :: .ins (.move 0 w) :: ((cln (wid q)).map Line.ins ++ (q.map Line.ins ++ (.ins (.set w p100) :: .jmp w "end" :: .mark "first" :: .ins (.move 0 w) :: ((cln (wid p)).map Line.ins ++ (p.map Line.ins ++ [.mark "end"])))))))
def loopP (w : Nat) (c p : List Ins) : List Ins :=
  .move w 0 :: (cln (wid c) ++ (c ++ (.jump 0 4 :: .move 0 w :: .set w p100 :: .jump w ((partL p : Nat) + 4) :: .move 0 w :: (cln (wid p) ++ (p ++ [.set w p100, .jump w (-((partL c : Nat) + (partL p : Nat) + 7))])))))
def loopL (w : Nat) (c p : List Ins) : List Line :=
  .mark "again" :: .ins (.move w 0) :: ((cln (wid c)).map Line.ins ++ (c.map Line.ins ++ (.jmp 0 "body" :: .ins (.move 0 w) :: .ins (.set w p100) :: .jmp w "end" :: .mark "body" :: .ins (.move 0 w) :: ((cln (wid p)).map Line.ins ++ (p.map Line.ins ++ [.ins (.set w p100), .jmp w "again", .mark "end"])))))
theorem n_fe : ¬ Str.ofString "first" = Str.ofString "end" := by decide +kernel
theorem n_ef : ¬ Str.ofString "end" = Str.ofString "first" := by decide +kernel
theorem n_ab : ¬ Str.ofString "again" = Str.ofString "body" := by decide +kernel
theorem n_ae : ¬ Str.ofString "again" = Str.ofString "end" := by decide +kernel
theorem n_ba : ¬ Str.ofString "body" = Str.ofString "again" := by decide +kernel
theorem n_be : ¬ Str.ofString "body" = Str.ofString "end" := by decide +kernel
theorem n_ea : ¬ Str.ofString "end" = Str.ofString "again" := by decide +kernel
theorem n_eb : ¬ Str.ofString "end" = Str.ofString "body" := by decide +kernel
theorem choice_first (w : Nat) (c p q : List Ins) : mval (choiceL w c p q) "first" = some (c.length + partL q + 5) := by
  unfold mval choiceL partL
  simp only [mst_cons, mst_app, mst_ins, mst_nil, mstep, if_neg n_fe, if_true]
  congr 1
  omega
theorem choice_end (w : Nat) (c p q : List Ins) : mval (choiceL w c p q) "end" = some (c.length + partL q + partL p + 6) := by
  unfold mval choiceL partL
  simp only [mst_cons, mst_app, mst_ins, mst_nil, mstep, if_neg n_ef, if_true]
  congr 1
  omega
def choiceD (c p q : List Ins) (n : Str) : Nat := if n = "first" then c.length + partL q + 5 else c.length + partL q + partL p + 6
theorem choice_is (w : Nat) (c p q : List Ins) : plc (choiceD c p q) 0 (choiceL w c p q) = choiceP w c p q := by
  have d1 : choiceD c p q "first" = c.length + partL q + 5 := if_pos rfl
  have d2 : choiceD c p q "end" = c.length + partL q + partL p + 6 := if_neg n_ef
  unfold choiceL choiceP
  simp only [plc, plc_app, plc_ins, cnt_ins, d1, d2, List.append_nil]
  congr 2
  have e1 : (((c.length + partL q + 5 : Nat) : Int) - ((0 + 1 + c.length : Nat) : Int)) = (partL q : Nat) + 4 := by omega
  have e2 : ∀ k : Nat, k = partL q → (((c.length + partL q + partL p + 6 : Nat) : Int) - ((0 + 1 + c.length + 1 + 1 + k + 1 : Nat) : Int)) = (partL p : Nat) + 2 := fun k hk => by omega
  rw [e1]
  congr 5
  have := e2 ((cln (wid q)).length + q.length) rfl
  rw [show 0 + 1 + c.length + 1 + 1 + ((cln (wid q)).length + q.length) + 1 = 0 + 1 + c.length + 1 + 1 + (cln (wid q)).length + q.length + 1 by omega] at this
  rw [this]
theorem loop_again (w : Nat) (c p : List Ins) : mval (loopL w c p) "again" = some 0 := by
  unfold mval loopL
  simp only [mst_cons, mst_app, mst_ins, mst_nil, mstep, if_neg n_ab, if_neg n_ae, if_true]
theorem loop_body (w : Nat) (c p : List Ins) : mval (loopL w c p) "body" = some (partL c + 5) := by
  unfold mval loopL partL
  simp only [mst_cons, mst_app, mst_ins, mst_nil, mstep, if_neg n_ba, if_neg n_be, if_true]
  congr 1
  omega
theorem loop_end (w : Nat) (c p : List Ins) : mval (loopL w c p) "end" = some (partL c + partL p + 8) := by
  unfold mval loopL partL
  simp only [mst_cons, mst_app, mst_ins, mst_nil, mstep, if_neg n_ea, if_neg n_eb, if_true]
  congr 1
  omega
def loopD (c p : List Ins) (n : Str) : Nat := if n = "again" then 0 else if n = "body" then partL c + 5 else partL c + partL p + 8
theorem loop_is (w : Nat) (c p : List Ins) : plc (loopD c p) 0 (loopL w c p) = loopP w c p := by
  have d1 : loopD c p "again" = 0 := if_pos rfl
  have d2 : loopD c p "body" = partL c + 5 := (if_neg n_ba).trans (if_pos rfl)
  have d3 : loopD c p "end" = partL c + partL p + 8 := (if_neg n_ea).trans (if_neg n_eb)
  unfold loopL loopP
  simp only [plc, plc_app, plc_ins, cnt_ins, d1, d2, d3, List.append_nil]
  have hc : partL c = (cln (wid c)).length + c.length := rfl
  have hp : partL p = (cln (wid p)).length + p.length := rfl
  have e1 : (((partL c + 5 : Nat) : Int) - ((0 + 1 + (cln (wid c)).length + c.length : Nat) : Int)) = 4 := by omega
  have e2 : (((partL c + partL p + 8 : Nat) : Int) - ((0 + 1 + (cln (wid c)).length + c.length + 1 + 1 + 1 : Nat) : Int)) = (partL p : Nat) + 4 := by omega
  have e3 : (((0 : Nat) : Int) - ((0 + 1 + (cln (wid c)).length + c.length + 1 + 1 + 1 + 1 + 1 + (cln (wid p)).length + p.length + 1 : Nat) : Int)) = -((partL c : Nat) + (partL p : Nat) + 7) := by omega
  rw [e1, e2, e3]
theorem nuMax2_nat (a b : Nat) : nuMax2 (.int a) (.int b) = some (.int (max a b : Nat)) := by
  show some (if decide ((a : Int) < (b : Int)) = true then V.int b else V.int a) = _
  by_cases c : a < b
  · rw [if_pos (decide_eq_true (by omega)), Nat.max_eq_right (by omega)]
  · rw [if_neg (fun z => c (by have := of_decide_eq_true z; omega)), Nat.max_eq_left (by omega)]
theorem nuMax3_nat (a b c : Nat) : nuMax3 (.int a) (.int b) (.int c) = some (.int (max (max a b) c : Nat)) := by
  unfold nuMax3
  rw [nuMax2_nat]
  exact nuMax2_nat _ _
theorem gw_two (p q : List Ins) : gw [p, q] = max (wid p) (wid q) := by
  show max (max 1 (wid p)) (wid q) = _
  rw [Nat.max_eq_right (wid_pos p)]
theorem gw_three (c p q : List Ins) : gw [c, p, q] = max (max (wid c) (wid p)) (wid q) := by
  show max (max (max 1 (wid c)) (wid p)) (wid q) = _
  rw [Nat.max_eq_right (wid_pos c)]
/-! ### they are programs -/
/-- instructions from the index o on, in a program of n -/
def OkAt (w k n o : Nat) (is : List Ins) : Prop := ∀ (i : Nat) (x : Ins), is[i]? = some x → x.ok w k (o + i) n
theorem OkAt.nil {w k n o : Nat} : OkAt w k n o [] := fun i x h => by simp at h
theorem OkAt.cons {w k n o : Nat} {x : Ins} {r : List Ins} (h : x.ok w k o n) (t : OkAt w k n (o + 1) r) : OkAt w k n o (x :: r) := fun i y hy => by
  cases i with
  | zero =>
    have hy : some x = some y := hy
    rw [← Option.some.inj hy]
    exact h
  | succ i =>
    have := t i y hy
    rw [show o + 1 + i = o + (i + 1) by omega] at this
    exact this
theorem OkAt.app {w k n o : Nat} {a b : List Ins} (ha : OkAt w k n o a) (hb : OkAt w k n (o + a.length) b) : OkAt w k n o (a ++ b) := fun i x h => by
  by_cases c : i < a.length
  · rw [List.getElem?_append_left c] at h
    exact ha i x h
  · rw [List.getElem?_append_right (by omega)] at h
    have := hb _ x h
    rw [show o + a.length + (i - a.length) = o + i by omega] at this
    exact this
theorem PgOk.at_ {v w k n o : Nat} {p : List Ins} (h : PgOk v k p) (hw : v ≤ w) (ho : o + p.length ≤ n) : OkAt w k n o p := fun i x hx => by
  have := (h.wide hw) i x hx
  cases x with
  | jump a m => exact ⟨this.1, by have := this.2.1; omega, by have := this.2.2; omega⟩
  | _ => exact this
theorem OkAt.all {w k : Nat} {is : List Ins} (h : OkAt w k is.length 0 is) : PgOk w k is := fun i x hx => by
  have := h i x hx
  rw [Nat.zero_add] at this
  exact this
section
variable {w k : Nat} {c p q : List Ins}
theorem bothP_ok (hw : w ≤ 16) (hp : PgOk 16 k p) (hq : PgOk 16 k q) : PgOk 20 k (bothP w p q) := by
  have hwq := hq.wid (by decide)
  have e := cln_len (wid q)
  refine OkAt.all ?_
  have hl : (bothP w p q).length = 4 + p.length + (cln (wid q)).length + q.length := by
    unfold bothP
    simp only [List.length_cons, List.length_append, List.length_nil]
    omega
  rw [hl]
  refine .cons ⟨by omega, by decide⟩ (.app (hp.at_ (by decide) (by omega)) (.cons ⟨by omega, by decide⟩ (.cons ⟨by decide, by omega⟩ (.app ((cln_ok hwq).at_ (by decide) (by omega)) (.app (hq.at_ (by decide) (by omega)) (.cons ⟨by decide, by omega, by decide⟩ .nil))))))
theorem choiceP_ok (hw : w ≤ 16) (hk : 1 ≤ k) (hc : PgOk 16 k c) (hp : PgOk 16 k p) (hq : PgOk 16 k q) : PgOk 20 k (choiceP w c p q) := by
  have hwq := hq.wid (by decide)
  have hwp := hp.wid (by decide)
  have ep : partL p = (cln (wid p)).length + p.length := rfl
  have eq : partL q = (cln (wid q)).length + q.length := rfl
  refine OkAt.all ?_
  have hl : (choiceP w c p q).length = 6 + c.length + partL q + partL p := by
    unfold choiceP
    simp only [List.length_cons, List.length_append]
    omega
  rw [hl]
  refine .cons ⟨by omega, by decide⟩ (.app (hc.at_ (by decide) (by omega)) (.cons ⟨by decide, by omega, by omega⟩ (.cons ⟨by decide, by omega⟩ (.app ((cln_ok hwq).at_ (by decide) (by omega)) (.app (hq.at_ (by decide) (by omega)) (.cons ⟨by omega, hk⟩ (.cons ⟨by omega, by omega, by omega⟩ (.cons ⟨by decide, by omega⟩ (.app ((cln_ok hwp).at_ (by decide) (by omega)) (hp.at_ (by decide) (by omega)))))))))))
theorem loopP_ok (hw : w ≤ 16) (hk : 1 ≤ k) (hc : PgOk 16 k c) (hp : PgOk 16 k p) : PgOk 20 k (loopP w c p) := by
  have hwc := hc.wid (by decide)
  have hwp := hp.wid (by decide)
  have ep : partL p = (cln (wid p)).length + p.length := rfl
  have ec : partL c = (cln (wid c)).length + c.length := rfl
  refine OkAt.all ?_
  have hl : (loopP w c p).length = 8 + partL c + partL p := by
    unfold loopP
    simp only [List.length_cons, List.length_append, List.length_nil]
    omega
  rw [hl]
  refine .cons ⟨by omega, by decide⟩ (.app ((cln_ok hwc).at_ (by decide) (by omega)) (.app (hc.at_ (by decide) (by omega)) (.cons ⟨by decide, by omega, by omega⟩ (.cons ⟨by decide, by omega⟩ (.cons ⟨by omega, hk⟩ (.cons ⟨by omega, by omega, by omega⟩ (.cons ⟨by decide, by omega⟩ (.app ((cln_ok hwp).at_ (by decide) (by omega)) (.app (hp.at_ (by decide) (by omega)) (.cons ⟨by omega, hk⟩ (.cons ⟨by omega, by omega, by omega⟩ .nil)))))))))))
theorem bothP_len : (bothP w p q).length = 4 + p.length + partL q := by
  unfold bothP partL
  simp only [List.length_cons, List.length_append, List.length_nil]
  omega
theorem choiceP_len : (choiceP w c p q).length = 6 + c.length + partL q + partL p := by
  unfold choiceP partL
  simp only [List.length_cons, List.length_append]
  omega
theorem loopP_len : (loopP w c p).length = 8 + partL c + partL p := by
  unfold loopP partL
  simp only [List.length_cons, List.length_append, List.length_nil]
  omega
end
/-! ### what is kept while lists are lengthened -/
theorem PgAt.butL {rs : List Addr} {H H' : Hp} {p : Addr} {is : List Ins} (h : PgAt H p is) (n : p ∉ rs) (e : ButL rs H H') (hr : ∀ r ∈ rs, ∃ ys, H r = some (.lst ys)) : PgAt H' p is := by
  obtain ⟨as, h1, h2⟩ := h
  refine ⟨as, e _ _ n h1, Paired.imp (fun a i q => e a _ (fun z => ?_) q) h2⟩
  obtain ⟨ys, hy⟩ := hr a z
  rw [hy] at q
  cases q
theorem ButL.same_new {rs : List Addr} {H0 H H' : Hp} (s : Same H0 H) (n : ∀ r ∈ rs, H0 r = none) (e : ButL rs H H') : Same H0 H' := fun a o h => e a o (fun z => by rw [n a z] at h; cases h) (s a o h)
theorem ButL.sub {rs ss : List Addr} {H H' : Hp} (h : ∀ r ∈ rs, r ∈ ss) (e : ButL rs H H') : ButL ss H H' := fun a o n q => e a o (fun z => n (h a z)) q
theorem pgs_three {H : Hp} {D : Addr} {c p q : List Ins} (h : PgsAt H D [c, p, q]) : ∃ a1 a2 a3, H D = some (.lst [.ref a1, .ref a2, .ref a3]) ∧ PgAt H a1 c ∧ PgAt H a2 p ∧ PgAt H a3 q := by
  obtain ⟨vs, h1, h2⟩ := h
  cases h2 with
  | cons r1 t1 =>
    cases t1 with
    | cons r2 t2 =>
      cases t2 with
      | cons r3 t3 =>
        cases t3
        obtain ⟨a1, rfl, e1⟩ := r1
        obtain ⟨a2, rfl, e2⟩ := r2
        obtain ⟨a3, rfl, e3⟩ := r3
        exact ⟨a1, a2, a3, h1, e1, e2, e3⟩
theorem PgAt.some {H : Hp} {p : Addr} {is : List Ins} (h : PgAt H p is) : H p ≠ none := fun z => by
  obtain ⟨as, h1, _⟩ := h
  rw [z] at h1
  cases h1
theorem PgAt.apart {H : Hp} {p r : Addr} {is : List Ins} (h : PgAt H p is) (n : H r = none) : p ≠ r := fun z => h.some (by rw [z]; exact n)
def callP : Nat → List Ins → List Ins → List Ins → List Ins
  | 0, a, b, c => chainP [a, b, c]
  | 1, a, b, _ => bothP (gw [a, b]) a b
  | 2, a, b, c => choiceP (gw [a, b, c]) a b c
  | _, a, b, _ => loopP (gw [a, b]) a b
def callW : Nat → List Ins → List Ins → List Ins → Nat
  | 0, a, b, c => gw [a, b, c]
  | 1, a, b, _ => gw [a, b]
  | 2, a, b, c => gw [a, b, c]
  | _, a, b, _ => gw [a, b]
end Nx

/-! Runs of composed programs. -/
namespace Nx
open PySem PySem.Spec PyProof.Rows L2
/-- n steps, none of them too large -/
inductive St (is : List Ins) : Nat → Nat → List Tr → Nat → List Tr → Prop where
  | refl (k : Nat) (rs : List Tr) : St is 0 k rs k rs
  | step {n k k1 k' : Nat} {rs rs' : List Tr} {i : Ins} (h : is[k]? = some i) (g : bigS i rs = false) (e : stepAt i k rs = (k1 : Int)) (t : St is n k1 (stepRs i rs) k' rs') : St is (n + 1) k rs k' rs'
section
variable {is A B : List Ins} {n m k k' k2 : Nat} {rs rs' rs2 : List Tr}
theorem St.rn (s : St is n k rs k' rs') : Rn is n k rs k' rs' := by
  induction s with
  | refl k rs => exact Rn.refl _ _ _
  | step h g e t ih => exact ((Rn.one h g e).trans ih).cast (Nat.add_comm _ _) rfl rfl
theorem St.trans (s : St is n k rs k' rs') (t : St is m k' rs' k2 rs2) : St is (n + m) k rs k2 rs2 := by
  induction s with
  | refl k rs =>
    rw [Nat.zero_add]
    exact t
  | @step n k k1 k' rs rs' i h g e _ ih =>
    rw [show n + 1 + m = (n + m) + 1 by omega]
    exact .step h g e (ih t)
theorem St.cast (s : St is n k rs k' rs') (e1 : n = m) (e2 : k' = k2) : St is m k rs k2 rs' := by
  subst e1 e2
  exact s
theorem St.len (s : St is n k rs k' rs') : rs'.length = rs.length := by
  induction s with
  | refl k rs => rfl
  | step h g e t ih => rw [ih, stepRs_len]
theorem St.left (s : St A n k rs k' rs') (B : List Ins) : St (A ++ B) n k rs k' rs' := by
  induction s with
  | refl k rs => exact .refl _ _
  | step h g e t ih =>
    have hl := (List.getElem?_eq_some_iff.mp h).1
    exact .step (by rw [List.getElem?_append_left hl]; exact h) g e ih
theorem stepAt_shift (i : Ins) (a : Nat) (k : Nat) (rs : List Tr) : stepAt i ((a + k : Nat) : Int) rs = (a : Int) + stepAt i (k : Nat) rs := by
  cases i with
  | jump r m =>
    show (if reg rs r = .leaf then _ else _) = _ + (if reg rs r = .leaf then _ else _)
    split <;> omega
  | _ => show ((a + k : Nat) : Int) + 1 = (a : Int) + ((k : Int) + 1); omega
theorem St.right (s : St B n k rs k' rs') (A : List Ins) : St (A ++ B) n (A.length + k) rs (A.length + k') rs' := by
  induction s with
  | refl k rs => exact .refl _ _
  | @step n k k1 k' rs rs' i h g e _ ih =>
    refine .step (k1 := A.length + k1) (by rw [List.getElem?_append_right (by omega), Nat.add_sub_cancel_left]; exact h) g ?_ ih
    rw [stepAt_shift, e]
    omega
theorem go_st (hJ : JOk is) : ∀ (n k : Nat) (rs : List Tr) {k' d : Nat} {rs' : List Tr}, go is n k rs = some (k', rs', d) → St is d k rs k' rs'
  | 0, k, rs, k', d, rs', e => by
    cases e
    exact .refl _ _
  | n + 1, k, rs, k', d, rs', e => by
    cases hi : is[k]? with
    | none =>
      rw [go_end hi] at e
      cases e
      exact .refl _ _
    | some i =>
      cases hg : bigS i rs with
      | true =>
        rw [go_big hi hg] at e
        cases e
      | false =>
        rw [go_on hi hg] at e
        cases e2 : go is n (stepAt i k rs).toNat (stepRs i rs) with
        | none =>
          rw [e2] at e
          cases e
        | some q =>
          rw [e2] at e
          obtain ⟨q1, q2, q3⟩ := q
          have e : some (q1, q2, q3 + 1) = some (k', rs', d) := e
          cases e
          obtain ⟨j2, h1, _⟩ := hJ k i rs hi
          exact .step hi hg (k1 := (stepAt i k rs).toNat) (by rw [h1]; rfl) (go_st hJ n _ _ e2)
/-- at the end -/
theorem St.go_end (s : St is n k rs is.length rs') (h : n ≤ m) : go is m k rs = some (is.length, rs', n) := by
  have := s.rn (m - n)
  rw [show n + (m - n) = m by omega, Nx.go_end (List.getElem?_eq_none (Nat.le_refl _))] at this
  rw [this]
  show some (is.length, rs', 0 + n) = _
  rw [Nat.zero_add]
/-- what runs behind A stays there -/
theorem St.inR (hB : JOk B) (s : St (A ++ B) n (A.length + k) rs k2 rs') : ∃ k', k2 = A.length + k' ∧ St B n k rs k' rs' := by
  generalize hx : A.length + k = x at s
  generalize hI : A ++ B = I at s
  induction s generalizing k with
  | refl y rs => exact ⟨k, hx.symm, .refl _ _⟩
  | @step n y k1 k' rs rs' i h g e _ ih =>
    subst hx hI
    rw [List.getElem?_append_right (by omega), Nat.add_sub_cancel_left] at h
    obtain ⟨j2, h1, h2⟩ := hB k i rs h
    rw [stepAt_shift, h1] at e
    obtain ⟨k3, e3, t3⟩ := ih (k := j2) (by omega)
    exact ⟨k3, e3, .step h g h1 t3⟩
/-- a run through A ++ B is one through A and one through B -/
theorem St.split (hA : JOk A) (hB : JOk B) (s : St (A ++ B) n k rs k2 rs') (hk : k ≤ A.length) (hk2 : A.length ≤ k2) : ∃ n1 n2 rs1 k3, n = n1 + n2 ∧ St A n1 k rs A.length rs1 ∧ St B n2 0 rs1 k3 rs' ∧ k2 = A.length + k3 := by
  generalize hI : A ++ B = I at s
  induction s with
  | refl y rs =>
    have : y = A.length := by omega
    subst this
    exact ⟨0, 0, rs, 0, rfl, .refl _ _, .refl _ _, rfl⟩
  | @step n y k1 k' rs rs' i h g e t ih =>
    subst hI
    by_cases c : y < A.length
    · rw [List.getElem?_append_left c] at h
      obtain ⟨j2, h1, h2⟩ := hA y i rs h
      rw [h1] at e
      have : j2 = k1 := by omega
      subst this
      obtain ⟨n1, n2, rs1, k3, e1, s1, s2, e2⟩ := ih h2 hk2
      exact ⟨n1 + 1, n2, rs1, k3, by omega, .step h g h1 s1, s2, e2⟩
    · have : y = A.length := by omega
      subst this
      have s : St (A ++ B) (n + 1) (A.length + 0) rs k' rs' := .step h g e t
      obtain ⟨k3, e3, t3⟩ := s.inR hB
      exact ⟨0, n + 1, rs, k3, by omega, .refl _ _, t3, e3⟩
/-- one behind the other -/
theorem St.seq {n1 n2 : Nat} {rs1 : List Tr} (a : St A n1 0 rs A.length rs1) (b : St B n2 0 rs1 k' rs') : St (A ++ B) (n1 + n2) 0 rs (A.length + k') rs' := (a.left B).trans (b.right A)
end
theorem JOk.app {A B : List Ins} (hA : JOk A) (hB : JOk B) : JOk (A ++ B) := fun j i rs h => by
  rw [List.length_append]
  by_cases c : j < A.length
  · rw [List.getElem?_append_left c] at h
    obtain ⟨j2, h1, h2⟩ := hA j i rs h
    exact ⟨j2, h1, by omega⟩
  · rw [List.getElem?_append_right (by omega)] at h
    obtain ⟨j2, h1, h2⟩ := hB _ i rs h
    refine ⟨A.length + j2, ?_, by omega⟩
    have := stepAt_shift i A.length (j - A.length) rs
    rw [show A.length + (j - A.length) = j by omega] at this
    rw [this, h1]
    omega
theorem PgOk.jok {w k : Nat} {is : List Ins} (h : PgOk w k is) : JOk is := fun _ _ _ hi => stepAt_ok h hi
/-! ### what the further registers hold does not matter -/
def Ag (w : Nat) (rs us : List Tr) : Prop := ∀ i, i < w → reg rs i = reg us i
section
variable {w : Nat} {i : Ins} {rs us : List Tr}
theorem Ag.big (h : Ag w rs us) (hb : i.below w) : bigS i rs = bigS i us := by
  cases i with
  | cons a b c =>
    show decide (200000 < (Tr.node (reg rs b) (reg rs c)).sg.length) = decide (200000 < (Tr.node (reg us b) (reg us c)).sg.length)
    rw [h b (hb b (by simp [Ins.regs])), h c (hb c (by simp [Ins.regs]))]
  | _ => rfl
theorem Ag.at_ (h : Ag w rs us) (hb : i.below w) (k : Int) : stepAt i k rs = stepAt i k us := by
  cases i with
  | jump a m =>
    show (if reg rs a = .leaf then _ else _) = (if reg us a = .leaf then _ else _)
    rw [h a (hb a (by simp [Ins.regs]))]
  | _ => rfl
theorem Ag.new (h : Ag w rs us) (hb : i.below w) : newT i rs = newT i us := by
  cases i with
  | set a t => rfl
  | jump a m => rfl
  | move a b => exact h b (hb b (by simp [Ins.regs]))
  | head a b => exact congrArg Tr.hd (h b (hb b (by simp [Ins.regs])))
  | tail a b => exact congrArg Tr.tl (h b (hb b (by simp [Ins.regs])))
  | cons a b c =>
    show Tr.node (reg rs b) (reg rs c) = .node (reg us b) (reg us c)
    rw [h b (hb b (by simp [Ins.regs])), h c (hb c (by simp [Ins.regs]))]
theorem reg_set_all {rs : List Tr} {a : Nat} (t : Tr) (j : Nat) (h : a < rs.length) : reg (rs.set a t) j = if a = j then t else reg rs j := by
  by_cases c : a = j
  · subst c
    rw [if_pos rfl, reg_set t h]
  · rw [if_neg c, reg_ne t c]
theorem Ag.step (h : Ag w rs us) (hb : i.below w) (l1 : w ≤ rs.length) (l2 : w ≤ us.length) : Ag w (stepRs i rs) (stepRs i us) := by
  cases hj : i.isJ with
  | true =>
    cases i with
    | jump a m => exact h
    | _ => cases hj
  | false =>
    have ha := Ins.below_a hb
    intro j hj2
    rw [stepRs_no hj, stepRs_no hj, reg_set_all _ _ (by omega), reg_set_all _ _ (by omega), h.new hb, h j hj2]
theorem step_out (hb : i.below w) {j : Nat} (hj : w ≤ j) : reg (stepRs i rs) j = reg rs j := by
  cases h : i.isJ with
  | true =>
    cases i with
    | jump a m => rfl
    | _ => cases h
  | false =>
    have ha := Ins.below_a hb
    rw [stepRs_no h, reg_ne _ (by omega)]
end
theorem St.agree {is : List Ins} {w n k k' : Nat} {rs rs' us : List Tr} (s : St is n k rs k' rs') (hb : ∀ i ∈ is, i.below w) (h : Ag w rs us) (l1 : w ≤ rs.length) (l2 : w ≤ us.length) : ∃ us', St is n k us k' us' ∧ Ag w rs' us' ∧ us'.length = us.length ∧ ∀ j, w ≤ j → reg us' j = reg us j := by
  induction s generalizing us with
  | refl k rs => exact ⟨us, .refl _ _, h, rfl, fun _ _ => rfl⟩
  | @step n k k1 k' rs rs' i hi g e _ ih =>
    have hbi := hb i (List.mem_of_getElem? hi)
    obtain ⟨us', s', a', l', o'⟩ := ih (us := stepRs i us) (h.step hbi l1 l2) (by rw [stepRs_len]; exact l1) (by rw [stepRs_len]; exact l2)
    exact ⟨us', .step hi (by rw [← h.big hbi]; exact g) (by rw [← h.at_ hbi]; exact e) s', a', by rw [l', stepRs_len], fun j hj => by rw [o' j hj, step_out hbi hj]⟩
theorem St.out {is : List Ins} {w n k k' : Nat} {rs rs' : List Tr} (s : St is n k rs k' rs') (hb : ∀ i ∈ is, i.below w) {j : Nat} (hj : w ≤ j) : reg rs' j = reg rs j := by
  induction s with
  | refl k rs => rfl
  | step hi g e _ ih => rw [ih, step_out (hb _ (List.mem_of_getElem? hi)) hj]
/-! ### cleanings -/
theorem cln_at {w j : Nat} (h : j < w - 1) : (cln w)[j]? = some (.set (j + 1) .leaf) := by
  unfold cln
  rw [List.getElem?_map, List.getElem?_range h]
  rfl
theorem cln_run (w : Nat) (rs : List Tr) (hw : w ≤ rs.length) : ∃ us, St (cln w) (w - 1) 0 rs (cln w).length us ∧ us.length = rs.length ∧ ∀ j, reg us j = if 1 ≤ j ∧ j < w then .leaf else reg rs j := by
  have key : ∀ m, m ≤ w - 1 → ∃ us, St (cln w) m 0 rs m us ∧ us.length = rs.length ∧ ∀ j, reg us j = if 1 ≤ j ∧ j < m + 1 then .leaf else reg rs j := fun m => by
    induction m with
    | zero => exact fun _ => ⟨rs, .refl _ _, rfl, fun j => by rw [if_neg (by omega)]⟩
    | succ m ih =>
      intro hm
      obtain ⟨us, s, l, r⟩ := ih (by omega)
      have one : St (cln w) 1 m us (m + 1) (stepRs (.set (m + 1) .leaf) us) := .step (cln_at (by omega)) rfl (k1 := m + 1) rfl (.refl _ _)
      refine ⟨_, s.trans one, by rw [stepRs_len, l], fun j => ?_⟩
      show reg (us.set (m + 1) .leaf) j = _
      rw [reg_set_all _ _ (by omega), r j]
      by_cases c : m + 1 = j
      · rw [if_pos c, if_pos (by omega)]
      · rw [if_neg c]
        by_cases c2 : 1 ≤ j ∧ j < m + 1
        · rw [if_pos c2, if_pos (by omega)]
        · rw [if_neg c2, if_neg (by omega)]
  obtain ⟨us, s, l, r⟩ := key (w - 1) (Nat.le_refl _)
  refine ⟨us, s.cast rfl (cln_len w).symm, l, fun j => ?_⟩
  rw [r j]
  by_cases c : 1 ≤ j ∧ j < w
  · rw [if_pos c, if_pos (by omega)]
  · rw [if_neg c, if_neg (by omega)]
/-- all runs of a cleaning -/
theorem cln_only {w n : Nat} {rs rs' : List Tr} (s : St (cln w) n 0 rs (cln w).length rs') (hw : w ≤ rs.length) : n = w - 1 ∧ ∀ j, reg rs' j = if 1 ≤ j ∧ j < w then .leaf else reg rs j := by
  obtain ⟨us, s2, _, r⟩ := cln_run w rs hw
  have e1 := s.go_end (m := n + (w - 1)) (by omega)
  have e2 := s2.go_end (m := n + (w - 1)) (by omega)
  rw [e1] at e2
  cases e2
  exact ⟨rfl, r⟩
/-! ### what a program returns -/
/-- from the first state on: n steps, none too large, to the end, where register 0 holds y -/
def Ret (is : List Ins) (n : Nat) (x y : Tr) : Prop := ∃ us, St is n 0 (rs0 x) is.length us ∧ reg us 0 = y
theorem rs0_reg (x : Tr) (j : Nat) : reg (rs0 x) j = if j = 0 then x else .leaf := by
  match j with
  | 0 => rfl
  | j + 1 =>
    rw [if_neg (by omega)]
    show (x :: List.replicate 19 Tr.leaf).getD (j + 1) .leaf = .leaf
    rw [List.getD_cons_succ, List.getD_eq_getElem?_getD, List.getElem?_replicate]
    split <;> rfl
section
variable {is A B : List Ins} {n m w : Nat} {x y z : Tr}
theorem Ret.of_go (hJ : JOk is) {d : Nat} {rs' : List Tr} (e : go is m 0 (rs0 x) = some (is.length, rs', d)) : Ret is d x (reg rs' 0) := ⟨rs', go_st hJ _ _ _ e, rfl⟩
theorem Ret.go (h : Ret is n x y) (hm : n ≤ m) : ∃ us, go is m 0 (rs0 x) = some (is.length, us, n) ∧ reg us 0 = y := by
  obtain ⟨us, s, e⟩ := h
  exact ⟨us, s.go_end hm, e⟩
theorem Ret.nil (x : Tr) : Ret [] 0 x x := ⟨rs0 x, .refl _ _, rfl⟩
theorem St.l20 {k k' : Nat} {us : List Tr} (s : St is n k (rs0 x) k' us) : us.length = 20 := s.len
theorem cln_ag {us vs : List Tr} (h : reg us 0 = y) (r : ∀ j, reg vs j = if 1 ≤ j ∧ j < w then .leaf else reg us j) : Ag w (rs0 y) vs := fun i hi => by
  rw [r i, rs0_reg]
  by_cases c : i = 0
  · subst c
    rw [if_pos rfl, if_neg (by omega), h]
  · rw [if_neg c, if_pos (by omega)]
theorem Ret.chain (hB : ∀ i ∈ B, i.below w) (h1 : 1 ≤ w) (hw : w ≤ 20) (a : Ret A n x y) (b : Ret B m y z) : Ret (A ++ (cln w ++ B)) (n + (w - 1 + m)) x z := by
  obtain ⟨us, sa, ea⟩ := a
  obtain ⟨zs, sb, eb⟩ := b
  obtain ⟨vs, sc, lc, rc⟩ := cln_run w us (by rw [sa.l20]; exact hw)
  obtain ⟨ws, sd, ag, _, _⟩ := sb.agree hB (cln_ag ea rc) hw (by rw [lc, sa.l20]; exact hw)
  refine ⟨ws, (sa.seq (sc.seq sd)).cast rfl ?_, ?_⟩
  · rw [List.length_append, List.length_append]
  · rw [← ag 0 h1, eb]
theorem cln_jok (w : Nat) : JOk (cln w) := (cln_ok (k := 0) (Nat.le_refl w)).jok
theorem Ret.parts (jA : JOk A) (jB : JOk B) (hB : ∀ i ∈ B, i.below w) (h1 : 1 ≤ w) (hw : w ≤ 20) {N : Nat} (h : Ret (A ++ (cln w ++ B)) N x z) : ∃ n m y, N = n + (w - 1 + m) ∧ Ret A n x y ∧ Ret B m y z := by
  obtain ⟨us, s, e⟩ := h
  obtain ⟨n1, n2, rs1, k3, e1, s1, s2, e2⟩ := s.split jA ((cln_jok w).app jB) (Nat.zero_le _) (by rw [List.length_append]; omega)
  have e3 : k3 = (cln w ++ B).length := by
    rw [List.length_append] at e2
    omega
  subst e3
  obtain ⟨n3, n4, rs2, k4, e4, s3, s4, e5⟩ := s2.split (cln_jok w) jB (Nat.zero_le _) (by rw [List.length_append]; omega)
  have e6 : k4 = B.length := by
    rw [List.length_append] at e5
    omega
  subst e6
  obtain ⟨e7, r⟩ := cln_only s3 (by rw [s1.l20]; exact hw)
  have ag : Ag w (rs0 (reg rs1 0)) rs2 := cln_ag rfl r
  obtain ⟨zs, sz, az, _, _⟩ := s4.agree hB (fun i hi => (ag i hi).symm) (by rw [s3.len, s1.l20]; exact hw) hw
  exact ⟨n1, n4, reg rs1 0, by omega, ⟨rs1, s1, rfl⟩, ⟨zs, sz, by rw [← az 0 h1, e]⟩⟩
end
theorem wid_bel (is : List Ins) : ∀ i ∈ is, i.below (wid is) := (wid_below (wid_pos is)).mp (Nat.le_refl _)
theorem chain2_is (p q : List Ins) : chainP [p, q] = p ++ (cln (wid q) ++ q) := by simp [chainP]
theorem chain3_is (p q r : List Ins) : chainP [p, q, r] = p ++ (cln (wid q) ++ (q ++ (cln (wid r) ++ r))) := by simp [chainP]
theorem chain_l (p q r : List Ins) : chainP [chainP [p, q], r] = chainP [p, q, r] := by simp [chainP]
theorem wid_nil : wid [] = 1 := rfl
theorem cln_1 : cln 1 = [] := rfl
theorem chain_e (p q r : List Ins) : chainP [p, [], q, r] = chainP [p, q, r] := by simp [chainP, wid_nil, cln_1]
theorem chain_n (p q r : List Ins) : chainP [[], p, q, [], r, []] = [] ++ (cln (wid p) ++ chainP [p, q, r]) := by simp [chainP, wid_nil, cln_1]
theorem bel_le {l : List Ins} {w : Nat} (h : wid l ≤ w) : ∀ i ∈ l, i.below w := (wid_below (Nat.le_trans (wid_pos l) h)).mp h
/-- three programs behind one another -/
theorem chain3_of {p q r : List Ins} {d : Nat} {x y : Tr} (jp : JOk p) (jq : JOk q) (jr : JOk r) (wq : wid q ≤ 20) (wr : wid r ≤ 20) (h : Ret (chainP [p, q, r]) d x y) : ∃ n m l s t, d = n + (wid q - 1 + m) + (wid r - 1 + l) ∧ Ret p n x s ∧ Ret q m s t ∧ Ret r l t y := by
  have e : chainP [p, q, r] = (p ++ (cln (wid q) ++ q)) ++ (cln (wid r) ++ r) := by simp [chainP]
  rw [e] at h
  obtain ⟨n, l, t, e1, a, c⟩ := h.parts (jp.app ((cln_jok _).app jq)) jr (wid_bel r) (wid_pos r) wr
  obtain ⟨n, m, s, e2, a, b⟩ := a.parts jp jq (wid_bel q) (wid_pos q) wq
  exact ⟨n, m, l, s, t, by omega, a, b, c⟩
theorem chain2_to {p q : List Ins} {n m : Nat} {x s t : Tr} (wq : wid q ≤ 20) (a : Ret p n x s) (b : Ret q m s t) : Ret (chainP [p, q]) (n + (wid q - 1 + m)) x t := by
  rw [chain2_is]
  exact a.chain (wid_bel q) (wid_pos q) wq b
/-- as point 11 says -/
theorem chain_r {p q r : List Ins} {k d : Nat} {x y : Tr} (hp : PgOk 4 k p) (hq : PgOk 4 k q) (hr : PgOk 4 k r) (h : Ret (chainP [p, q, r]) d x y) : ∃ n, n ≤ d + 6 ∧ Ret (chainP [p, chainP [q, r]]) n x y := by
  have h4 : ∀ {l : List Ins}, PgOk 4 k l → wid l ≤ 4 := fun hl => hl.wid (by decide)
  have w2 := h4 hq
  have w3 := h4 hr
  have w4 := h4 (chainP_ok (iss := [q, r]) (fun is hi => by simp at hi; rcases hi with rfl | rfl; exact hq; exact hr) (by decide))
  obtain ⟨n, m, l, s, t, e, a, b, c⟩ := chain3_of hp.jok hq.jok hr.jok (by omega) (by omega) h
  exact ⟨_, by omega, chain2_to (by omega) a (chain2_to (by omega) b c)⟩
theorem chain_s {p q r : List Ins} {k d : Nat} {x y : Tr} (hp : PgOk 4 k p) (hq : PgOk 4 k q) (hr : PgOk 4 k r) (h : Ret (chainP [p, q, r]) d x y) : ∃ n, n ≤ d + 6 ∧ Ret (chainP [[], p, q, [], r, []]) n x y := by
  have h4 : ∀ {l : List Ins}, PgOk 4 k l → wid l ≤ 4 := fun hl => hl.wid (by decide)
  have w1 := h4 hp
  have w2 := h4 hq
  have w3 := h4 hr
  obtain ⟨n, m, l, s, t, e, a, b, c⟩ := chain3_of hp.jok hq.jok hr.jok (by omega) (by omega) h
  have e2 : chainP [[], p, q, [], r, []] = (([] ++ (cln (wid p) ++ p)) ++ (cln (wid q) ++ q)) ++ (cln (wid r) ++ r) := by simp [chainP, wid_nil, cln_1]
  rw [e2]
  exact ⟨_, by omega, (((Ret.nil x).chain (wid_bel p) (wid_pos p) (by omega) a).chain (wid_bel q) (wid_pos q) (by omega) b).chain (wid_bel r) (wid_pos r) (by omega) c⟩
theorem pst {X : Hp} {st q : Addr} {js : List Ins} (hs : Strm X st) (hq : PgAt X q js) : q ≠ st := fun z => by
  obtain ⟨l, ns, c, i, m, g1, g2, g3⟩ := hs
  obtain ⟨as, h1, _⟩ := hq
  rw [z, g1] at h1
  have h4 := HO.lst.inj (Option.some.inj h1)
  cases as with
  | nil => cases h4
  | cons b r =>
    cases r with
    | nil => cases (List.cons.inj h4).2
    | cons b2 r2 => cases (List.cons.inj (List.cons.inj h4).2).1
theorem PgAt.draw {H H' : Hp} {st p : Addr} {is : List Ins} (h : PgAt H p is) (s : Strm H st) (e : ExS st H H') : PgAt H' p is := h.exs s (pst s h) e
theorem bigSum_mul {m : Nat} : ∀ l : List Ins, (∀ i ∈ l, i.big ≤ m) → bigSum l ≤ l.length * m
  | [], _ => Nat.zero_le _
  | i :: r, h => by
    have h1 := bigSum_mul r fun j hj => h j (.tail _ hj)
    have h2 := h i (.head _)
    have e : bigSum (i :: r) = i.big + bigSum r := by unfold bigSum; simp
    rw [e, List.length_cons, Nat.succ_mul]
    omega
theorem go_d {is : List Ins} : ∀ (n k : Nat) (rs : List Tr) {k' d : Nat} {rs' : List Tr}, go is n k rs = some (k', rs', d) → d ≤ n
  | 0, k, rs, k', d, rs', e => by
    cases e
    exact Nat.le_refl _
  | n + 1, k, rs, k', d, rs', e => by
    cases hi : is[k]? with
    | none =>
      rw [go_end hi] at e
      cases e
      exact Nat.zero_le _
    | some i =>
      cases hg : bigS i rs with
      | true =>
        rw [go_big hi hg] at e
        cases e
      | false =>
        rw [go_on hi hg] at e
        cases e2 : go is n (stepAt i k rs).toNat (stepRs i rs) with
        | none =>
          rw [e2] at e
          cases e
        | some q =>
          rw [e2] at e
          obtain ⟨q1, q2, q3⟩ := q
          have e : some (q1, q2, q3 + 1) = some (k', rs', d) := e
          cases e
          exact Nat.succ_le_succ (go_d n _ _ e2)
theorem chain2_len {p q : List Ins} (hq : wid q ≤ 4) : (chainP [p, q]).length ≤ p.length + q.length + 3 := by
  rw [chain2_is, List.length_append, List.length_append, cln_len]
  omega
end Nx

/-! What composed programs return. -/
namespace Nx
open PySem PySem.Spec PyProof.Rows L2
/-- not at the end after n steps, none of them too large -/
def Out (is : List Ins) (n : Nat) (x : Tr) : Prop := ∃ k us, St is n 0 (rs0 x) k us ∧ k < is.length
section
variable {is A B M N : List Ins} {n m k k' : Nat} {rs us : List Tr} {x y z : Tr}
theorem Out.go (h : Out is n x) (hm : m ≤ n) : ∃ k2 rs2, go is m 0 (rs0 x) = some (k2, rs2, m) ∧ k2 < is.length := by
  obtain ⟨k, us, s, hk⟩ := h
  exact s.rn.pre hk hm
theorem St.last (s : St is (n + 1) k rs k' us) : ∃ k1 rs1, St is n k rs k1 rs1 ∧ k1 < is.length := by
  generalize hN : n + 1 = N at s
  induction s generalizing n with
  | refl k rs => cases hN
  | @step j k k1 k' rs rs' i h g e t ih =>
    cases n with
    | zero => exact ⟨k, rs, .refl _ _, (List.getElem?_eq_some_iff.mp h).1⟩
    | succ n =>
      obtain ⟨k2, rs2, s2, h2⟩ := ih (n := n) (by omega)
      exact ⟨k2, rs2, .step h g e s2, h2⟩
/-- one step less is not enough -/
theorem Ret.less (h : Ret is (n + 1) x y) : Out is n x := by
  obtain ⟨us, s, _⟩ := h
  obtain ⟨k1, rs1, s1, h1⟩ := s.last
  exact ⟨k1, rs1, s1, h1⟩
theorem Out.of_go (hJ : JOk is) (e : Nx.go is n 0 (rs0 x) = some (k, us, n)) (hk : k < is.length) : Out is n x := ⟨k, us, go_st hJ _ _ _ e, hk⟩
/-- one instruction that is no jump -/
theorem St.one {i : Ins} (hj : i.isJ = false) (g : bigS i rs = false) : St [i] 1 0 rs 1 (stepRs i rs) := by
  refine .step (k1 := 1) rfl g ?_ (.refl _ _)
  cases i with
  | jump a m => cases hj
  | _ => rfl
/-- a jump that is not taken -/
theorem St.stay {r : Nat} {d : Int} (h : reg rs r = .leaf) : St [.jump r d] 1 0 rs 1 rs := by
  refine .step (k1 := 1) rfl rfl ?_ (.refl _ _)
  show (if reg rs r = .leaf then _ else _) = _
  rw [if_pos h]
  rfl
/-- a jump over M -/
theorem St.over {r : Nat} {d : Int} (h : reg rs r ≠ .leaf) (hd : d = (M.length : Nat) + 1) (b : St N n 0 rs k' us) : St (.jump r d :: (M ++ N)) (n + 1) 0 rs (M.length + 1 + k') us := by
  refine .step (k1 := M.length + 1) rfl rfl ?_ ?_
  · show (if reg rs r = .leaf then _ else _) = _
    rw [if_neg h, hd]
    omega
  · have := b.right (.jump r d :: M)
    rw [List.length_cons] at this
    exact this
theorem St.cons1 {i : Ins} (hj : i.isJ = false) (g : bigS i rs = false) (b : St N n 0 (stepRs i rs) k' us) : St (i :: N) (n + 1) 0 rs (1 + k') us := by
  have := (St.one (rs := rs) hj g).seq b
  rw [Nat.add_comm 1 n] at this
  exact this
theorem St.app {n1 n2 : Nat} {rs1 : List Tr} {e : Nat} (a : St A n1 0 rs e rs1) (he : e = A.length) (b : St B n2 0 rs1 k' us) : St (A ++ B) (n1 + n2) 0 rs (e + k') us := by
  subst he
  exact a.seq b
theorem St.inA {e : Nat} (a : St A n 0 rs e us) : St (A ++ B) n 0 rs e us := a.left B
end
/-! ### pieces -/
section
variable {p : List Ins} {n : Nat} {x y : Tr} {us : List Tr}
/-- p, where its registers are as at the start -/
theorem pc_run (h : Ret p n x y) (hw : wid p ≤ 20) (l : us.length = 20) (ag : Ag (wid p) (rs0 x) us) : ∃ vs, St p n 0 us p.length vs ∧ reg vs 0 = y ∧ vs.length = 20 ∧ ∀ j, wid p ≤ j → reg vs j = reg us j := by
  obtain ⟨zs, s, e⟩ := h
  obtain ⟨vs, s2, a2, l2, o2⟩ := s.agree (wid_bel p) ag hw (by omega)
  exact ⟨vs, s2, by rw [← a2 0 (wid_pos p), e], by omega, o2⟩
theorem pc_out (h : Out p n x) (hw : wid p ≤ 20) (l : us.length = 20) (ag : Ag (wid p) (rs0 x) us) : ∃ k vs, St p n 0 us k vs ∧ k < p.length := by
  obtain ⟨k, zs, s, e⟩ := h
  obtain ⟨vs, s2, _⟩ := s.agree (wid_bel p) ag hw (by omega)
  exact ⟨k, vs, s2, e⟩
/-- cleaned before -/
theorem pl_run (h : Ret p n x y) (hw : wid p ≤ 20) (l : us.length = 20) (e0 : reg us 0 = x) : ∃ vs, St (cln (wid p) ++ p) (wid p - 1 + n) 0 us (partL p) vs ∧ reg vs 0 = y ∧ vs.length = 20 ∧ ∀ j, wid p ≤ j → reg vs j = reg us j := by
  obtain ⟨zs, s, lz, rz⟩ := cln_run (wid p) us (by omega)
  obtain ⟨vs, s2, e2, l2, o2⟩ := pc_run h hw (by omega) (cln_ag e0 rz)
  refine ⟨vs, s.seq s2, e2, l2, fun j hj => ?_⟩
  rw [o2 j hj, rz j, if_neg (by omega)]
theorem pl_out (h : Out p n x) (hw : wid p ≤ 20) (l : us.length = 20) (e0 : reg us 0 = x) : ∃ k vs, St (cln (wid p) ++ p) (wid p - 1 + n) 0 us k vs ∧ k < partL p := by
  obtain ⟨zs, s, lz, rz⟩ := cln_run (wid p) us (by omega)
  obtain ⟨k, vs, s2, e2⟩ := pc_out h hw (by omega) (cln_ag e0 rz)
  exact ⟨_, vs, s.seq s2, by unfold partL; omega⟩
end
theorem reg_mv {us : List Tr} {a b : Nat} (j : Nat) (l : us.length = 20) (ha : a < 20) : reg (stepRs (.move a b) us) j = if a = j then reg us b else reg us j := reg_set_all _ _ (by show a < us.length; omega)
theorem reg_st {us : List Tr} {a : Nat} {t : Tr} (j : Nat) (l : us.length = 20) (ha : a < 20) : reg (stepRs (.set a t) us) j = if a = j then t else reg us j := reg_set_all _ _ (by show a < us.length; omega)
theorem ag_mv {x : Tr} {w v : Nat} (h : v ≤ w) (hw : w < 20) : Ag v (rs0 x) (stepRs (.move w 0) (rs0 x)) := fun i hi => by
  rw [reg_mv i (rs0_len x) hw, if_neg (by omega)]
/-! ### both -/
section
variable {w n m : Nat} {c p q : List Ins} {x y z : Tr}
theorem both_is : bothP w p q = .move w 0 :: (p ++ (.move (w + 1) 0 :: .move 0 w :: ((cln (wid q) ++ q) ++ [.cons 0 (w + 1) 0]))) := by simp [bothP]
theorem both_ret (hw : w ≤ 16) (wp : wid p ≤ w) (wq : wid q ≤ w) (hp : Ret p n x y) (hq : Ret q m x z) (hs : (Tr.node y z).sg.length ≤ 200000) : Ret (bothP w p q) (n + m + 4 + (wid q - 1)) x (.node y z) := by
  rw [both_is]
  have l0 := rs0_len x
  have h1 : reg (stepRs (.move w 0) (rs0 x)) w = x := by rw [reg_mv w l0 (by omega), if_pos rfl]; rfl
  have l1 : (stepRs (.move w 0) (rs0 x)).length = 20 := by rw [stepRs_len, l0]
  obtain ⟨v1, s1, e1, l2, o1⟩ := pc_run hp (by omega) l1 (ag_mv wp (by omega))
  have e2 : reg (stepRs (.move (w + 1) 0) v1) (w + 1) = y := by rw [reg_mv _ l2 (by omega), if_pos rfl, e1]
  have e3 : reg (stepRs (.move (w + 1) 0) v1) w = x := by rw [reg_mv _ l2 (by omega), if_neg (by omega), o1 w wp, h1]
  have l3 : (stepRs (.move (w + 1) 0) v1).length = 20 := by rw [stepRs_len, l2]
  generalize hv2 : stepRs (.move (w + 1) 0) v1 = v2 at e2 e3 l3
  have e4 : reg (stepRs (.move 0 w) v2) 0 = x := by rw [reg_mv _ l3 (by omega), if_pos rfl, e3]
  have e5 : reg (stepRs (.move 0 w) v2) (w + 1) = y := by rw [reg_mv _ l3 (by omega), if_neg (by omega), e2]
  have l4 : (stepRs (.move 0 w) v2).length = 20 := by rw [stepRs_len, l3]
  generalize hv3 : stepRs (.move 0 w) v2 = v3 at e4 e5 l4
  obtain ⟨v4, s4, e6, l5, o4⟩ := pl_run hq (by omega) l4 e4
  have e7 : reg v4 (w + 1) = y := by rw [o4 _ (by omega), e5]
  have s5 : St [.cons 0 (w + 1) 0] 1 0 v4 1 (stepRs (.cons 0 (w + 1) 0) v4) := .one rfl (by
    show decide (200000 < (Tr.node (reg v4 (w + 1)) (reg v4 0)).sg.length) = false
    rw [e7, e6]
    exact decide_eq_false (by omega))
  have s6 := s4.app (by unfold partL; rw [List.length_append]) s5
  subst hv3
  have s7 := St.cons1 (i := .move 0 w) rfl rfl s6
  subst hv2
  have s8 := St.cons1 (i := .move (w + 1) 0) rfl rfl s7
  have s9 := s1.seq s8
  have s10 := St.cons1 (i := .move w 0) (rs := rs0 x) rfl rfl s9
  refine ⟨_, s10.cast (by omega) ?_, ?_⟩
  · simp only [List.length_cons, List.length_append, List.length_nil, partL]
    omega
  · show reg (v4.set 0 (.node (reg v4 (w + 1)) (reg v4 0))) 0 = _
    rw [reg_set _ (by omega), e7, e6]
theorem both_out1 (hw : w ≤ 16) (wp : wid p ≤ w) (hp : Out p n x) : Out (bothP w p q) (n + 1) x := by
  rw [both_is]
  have l0 := rs0_len x
  have l1 : (stepRs (.move w 0) (rs0 x)).length = 20 := by rw [stepRs_len, l0]
  obtain ⟨k, v1, s1, e1⟩ := pc_out hp (by omega) l1 (ag_mv wp (by omega))
  refine ⟨_, _, St.cons1 (i := .move w 0) (rs := rs0 x) rfl rfl (s1.inA (B := _)), ?_⟩
  simp only [List.length_cons, List.length_append]
  omega
theorem both_out2 (hw : w ≤ 16) (wp : wid p ≤ w) (wq : wid q ≤ w) (hp : Ret p n x y) (hq : Out q m x) : Out (bothP w p q) (n + m + 3 + (wid q - 1)) x := by
  rw [both_is]
  have l0 := rs0_len x
  have h1 : reg (stepRs (.move w 0) (rs0 x)) w = x := by rw [reg_mv w l0 (by omega), if_pos rfl]; rfl
  have l1 : (stepRs (.move w 0) (rs0 x)).length = 20 := by rw [stepRs_len, l0]
  obtain ⟨v1, s1, e1, l2, o1⟩ := pc_run hp (by omega) l1 (ag_mv wp (by omega))
  have e3 : reg (stepRs (.move (w + 1) 0) v1) w = x := by rw [reg_mv _ l2 (by omega), if_neg (by omega), o1 w wp, h1]
  have l3 : (stepRs (.move (w + 1) 0) v1).length = 20 := by rw [stepRs_len, l2]
  generalize hv2 : stepRs (.move (w + 1) 0) v1 = v2 at e3 l3
  have e4 : reg (stepRs (.move 0 w) v2) 0 = x := by rw [reg_mv _ l3 (by omega), if_pos rfl, e3]
  have l4 : (stepRs (.move 0 w) v2).length = 20 := by rw [stepRs_len, l3]
  generalize hv3 : stepRs (.move 0 w) v2 = v3 at e4 l4
  obtain ⟨k, v4, s4, hk⟩ := pl_out hq (by omega) l4 e4
  have s6 := s4.inA (B := [.cons 0 (w + 1) 0])
  subst hv3
  have s7 := St.cons1 (i := .move 0 w) rfl rfl s6
  subst hv2
  have s8 := St.cons1 (i := .move (w + 1) 0) rfl rfl s7
  have s9 := s1.seq s8
  have s10 := St.cons1 (i := .move w 0) (rs := rs0 x) rfl rfl s9
  refine ⟨_, _, s10.cast (by omega) rfl, ?_⟩
  unfold partL at hk
  simp only [List.length_cons, List.length_append, List.length_nil]
  omega
end
/-! ### choice -/
section
variable {w n m : Nat} {c p q : List Ins} {t x y z : Tr}
theorem choice_t : choiceP w c p q = .move w 0 :: (c ++ (.jump 0 ((partL q : Nat) + 4) :: ((.move 0 w :: ((cln (wid q) ++ q) ++ [.set w p100, .jump w ((partL p : Nat) + 2)])) ++ (.move 0 w :: (cln (wid p) ++ p))))) := by simp [choiceP]
theorem choice_s : choiceP w c p q = .move w 0 :: (c ++ ([.jump 0 ((partL q : Nat) + 4)] ++ (.move 0 w :: ((cln (wid q) ++ q) ++ (.set w p100 :: (.jump w ((partL p : Nat) + 2) :: ((.move 0 w :: (cln (wid p) ++ p)) ++ []))))))) := by simp [choiceP]
theorem choice_o : choiceP w c p q = .move w 0 :: (c ++ (.jump 0 ((partL q : Nat) + 4) :: .move 0 w :: (cln (wid q) ++ (q ++ (.set w p100 :: .jump w ((partL p : Nat) + 2) :: .move 0 w :: (cln (wid p) ++ p)))))) := rfl
theorem choice_m : ((.move 0 w :: ((cln (wid q) ++ q) ++ [.set w p100, .jump w ((partL p : Nat) + 2)])) : List Ins).length = partL q + 3 := by
  simp only [List.length_cons, List.length_append, List.length_nil, partL]
theorem choice_n : ((.move 0 w :: (cln (wid p) ++ p)) : List Ins).length = partL p + 1 := by
  simp only [List.length_cons, List.length_append, partL]
theorem choice_out (hw : w ≤ 16) (wc : wid c ≤ w) (hc : Out c n x) : Out (choiceP w c p q) (n + 1) x := by
  rw [choice_o]
  have l0 := rs0_len x
  have l1 : (stepRs (.move w 0) (rs0 x)).length = 20 := by rw [stepRs_len, l0]
  obtain ⟨k, v1, s1, e1⟩ := pc_out hc (by omega) l1 (ag_mv wc (by omega))
  refine ⟨_, _, St.cons1 (i := .move w 0) (rs := rs0 x) rfl rfl (s1.inA (B := _)), ?_⟩
  simp only [List.length_cons, List.length_append, List.length_nil]
  omega
theorem choice_rt (hw : w ≤ 16) (wc : wid c ≤ w) (wp : wid p ≤ w) (hc : Ret c n x t) (ht : t ≠ .leaf) (hp : Ret p m x y) : Ret (choiceP w c p q) (3 + n + (wid p - 1) + m) x y := by
  rw [choice_t]
  have l0 := rs0_len x
  have h1 : reg (stepRs (.move w 0) (rs0 x)) w = x := by rw [reg_mv w l0 (by omega), if_pos rfl]; rfl
  have l1 : (stepRs (.move w 0) (rs0 x)).length = 20 := by rw [stepRs_len, l0]
  obtain ⟨v1, s1, e1, l2, o1⟩ := pc_run hc (by omega) l1 (ag_mv wc (by omega))
  have e3 : reg v1 w = x := by rw [o1 w wc, h1]
  have e4 : reg (stepRs (.move 0 w) v1) 0 = x := by rw [reg_mv _ l2 (by omega), if_pos rfl, e3]
  have l4 : (stepRs (.move 0 w) v1).length = 20 := by rw [stepRs_len, l2]
  generalize hv3 : stepRs (.move 0 w) v1 = v3 at e4 l4
  obtain ⟨v4, s4, e6, l5, o4⟩ := pl_run hp (by omega) l4 e4
  subst hv3
  have s7 := St.cons1 (i := .move 0 w) rfl rfl s4
  have s8 := St.over (d := (partL q : Nat) + 4) (M := .move 0 w :: ((cln (wid q) ++ q) ++ [.set w p100, .jump w ((partL p : Nat) + 2)])) (r := 0) (by rw [e1]; exact ht) (by rw [choice_m]; omega) s7
  have s10 := St.cons1 (i := .move w 0) (rs := rs0 x) rfl rfl (s1.seq s8)
  refine ⟨_, s10.cast (by omega) ?_, e6⟩
  simp only [List.length_cons, List.length_append, List.length_nil, partL]
  omega
theorem choice_rto (hw : w ≤ 16) (wc : wid c ≤ w) (wp : wid p ≤ w) (hc : Ret c n x t) (ht : t ≠ .leaf) (hp : Out p m x) : Out (choiceP w c p q) (3 + n + (wid p - 1) + m) x := by
  rw [choice_t]
  have l0 := rs0_len x
  have h1 : reg (stepRs (.move w 0) (rs0 x)) w = x := by rw [reg_mv w l0 (by omega), if_pos rfl]; rfl
  have l1 : (stepRs (.move w 0) (rs0 x)).length = 20 := by rw [stepRs_len, l0]
  obtain ⟨v1, s1, e1, l2, o1⟩ := pc_run hc (by omega) l1 (ag_mv wc (by omega))
  have e3 : reg v1 w = x := by rw [o1 w wc, h1]
  have e4 : reg (stepRs (.move 0 w) v1) 0 = x := by rw [reg_mv _ l2 (by omega), if_pos rfl, e3]
  have l4 : (stepRs (.move 0 w) v1).length = 20 := by rw [stepRs_len, l2]
  generalize hv3 : stepRs (.move 0 w) v1 = v3 at e4 l4
  obtain ⟨k, v4, s4, hk⟩ := pl_out hp (by omega) l4 e4
  subst hv3
  have s7 := St.cons1 (i := .move 0 w) rfl rfl s4
  have s8 := St.over (d := (partL q : Nat) + 4) (M := .move 0 w :: ((cln (wid q) ++ q) ++ [.set w p100, .jump w ((partL p : Nat) + 2)])) (r := 0) (by rw [e1]; exact ht) (by rw [choice_m]; omega) s7
  have s10 := St.cons1 (i := .move w 0) (rs := rs0 x) rfl rfl (s1.seq s8)
  refine ⟨_, _, s10.cast (by omega) rfl, ?_⟩
  unfold partL at hk
  simp only [List.length_cons, List.length_append, List.length_nil]
  omega
theorem choice_rf (hw : w ≤ 16) (wc : wid c ≤ w) (wq : wid q ≤ w) (hc : Ret c n x .leaf) (hq : Ret q m x y) : Ret (choiceP w c p q) (3 + n + (wid q - 1) + m + 2) x y := by
  rw [choice_s]
  have l0 := rs0_len x
  have h1 : reg (stepRs (.move w 0) (rs0 x)) w = x := by rw [reg_mv w l0 (by omega), if_pos rfl]; rfl
  have l1 : (stepRs (.move w 0) (rs0 x)).length = 20 := by rw [stepRs_len, l0]
  obtain ⟨v1, s1, e1, l2, o1⟩ := pc_run hc (by omega) l1 (ag_mv wc (by omega))
  have e3 : reg v1 w = x := by rw [o1 w wc, h1]
  have e4 : reg (stepRs (.move 0 w) v1) 0 = x := by rw [reg_mv _ l2 (by omega), if_pos rfl, e3]
  have l4 : (stepRs (.move 0 w) v1).length = 20 := by rw [stepRs_len, l2]
  generalize hv3 : stepRs (.move 0 w) v1 = v3 at e4 l4
  obtain ⟨v4, s4, e6, l5, o4⟩ := pl_run hq (by omega) l4 e4
  have e7 : reg (stepRs (.set w p100) v4) w = p100 := by rw [reg_st _ l5 (by omega), if_pos rfl]
  have e8 : reg (stepRs (.set w p100) v4) 0 = y := by rw [reg_st _ l5 (by omega), if_neg (by have := wid_pos q; omega), e6]
  have s5 := St.over (d := (partL p : Nat) + 2) (M := .move 0 w :: (cln (wid p) ++ p)) (N := []) (r := w) (by rw [e7]; exact fun z => by cases z) (by rw [choice_n]; omega) (.refl 0 (stepRs (.set w p100) v4))
  have s6 := s4.app (by unfold partL; rw [List.length_append]) (St.cons1 (i := .set w p100) rfl rfl s5)
  subst hv3
  have s7 := (St.stay (d := (partL q : Nat) + 4) (r := 0) e1).app rfl (St.cons1 (i := .move 0 w) rfl rfl s6)
  have s10 := St.cons1 (i := .move w 0) (rs := rs0 x) rfl rfl (s1.seq s7)
  refine ⟨_, s10.cast (by omega) ?_, e8⟩
  simp only [List.length_cons, List.length_append, List.length_nil, partL]
  omega
theorem choice_rfo (hw : w ≤ 16) (wc : wid c ≤ w) (wq : wid q ≤ w) (hc : Ret c n x .leaf) (hq : Out q m x) : Out (choiceP w c p q) (3 + n + (wid q - 1) + m) x := by
  rw [choice_s]
  have l0 := rs0_len x
  have h1 : reg (stepRs (.move w 0) (rs0 x)) w = x := by rw [reg_mv w l0 (by omega), if_pos rfl]; rfl
  have l1 : (stepRs (.move w 0) (rs0 x)).length = 20 := by rw [stepRs_len, l0]
  obtain ⟨v1, s1, e1, l2, o1⟩ := pc_run hc (by omega) l1 (ag_mv wc (by omega))
  have e3 : reg v1 w = x := by rw [o1 w wc, h1]
  have e4 : reg (stepRs (.move 0 w) v1) 0 = x := by rw [reg_mv _ l2 (by omega), if_pos rfl, e3]
  have l4 : (stepRs (.move 0 w) v1).length = 20 := by rw [stepRs_len, l2]
  generalize hv3 : stepRs (.move 0 w) v1 = v3 at e4 l4
  obtain ⟨k, v4, s4, hk⟩ := pl_out hq (by omega) l4 e4
  have s6 := s4.inA (B := .set w p100 :: (.jump w ((partL p : Nat) + 2) :: ((.move 0 w :: (cln (wid p) ++ p)) ++ [])))
  subst hv3
  have s7 := (St.stay (d := (partL q : Nat) + 4) (r := 0) e1).app rfl (St.cons1 (i := .move 0 w) rfl rfl s6)
  have s10 := St.cons1 (i := .move w 0) (rs := rs0 x) rfl rfl (s1.seq s7)
  refine ⟨_, _, s10.cast (by omega) rfl, ?_⟩
  unfold partL at hk
  simp only [List.length_cons, List.length_append, List.length_nil]
  omega
end
/-! ### loop: from a state with x in register 0 -/
section
variable {w n m : Nat} {c p : List Ins} {t x y z : Tr} {us : List Tr}
def Lup (is : List Ins) (n : Nat) (us vs : List Tr) (k : Nat) : Prop := St is n 0 us k vs
theorem loop_t : loopP w c p = (.move w 0 :: ((cln (wid c) ++ c) ++ (.jump 0 4 :: ([.move 0 w, .set w p100, .jump w ((partL p : Nat) + 4)] ++ (.move 0 w :: ((cln (wid p) ++ p) ++ [.set w p100])))))) ++ [.jump w (-((partL c : Nat) + (partL p : Nat) + 7))] := by simp [loopP]
theorem loop_s : loopP w c p = .move w 0 :: ((cln (wid c) ++ c) ++ ([.jump 0 4] ++ (.move 0 w :: .set w p100 :: (.jump w ((partL p : Nat) + 4) :: ((.move 0 w :: ((cln (wid p) ++ p) ++ [.set w p100, .jump w (-((partL c : Nat) + (partL p : Nat) + 7))])) ++ []))))) := by simp [loopP]
theorem loop_o : loopP w c p = .move w 0 :: ((cln (wid c) ++ c) ++ (.jump 0 4 :: .move 0 w :: .set w p100 :: .jump w ((partL p : Nat) + 4) :: .move 0 w :: (cln (wid p) ++ (p ++ [.set w p100, .jump w (-((partL c : Nat) + (partL p : Nat) + 7))])))) := by simp [loopP]
theorem loop_po : loopP w c p = .move w 0 :: ((cln (wid c) ++ c) ++ (.jump 0 4 :: ([.move 0 w, .set w p100, .jump w ((partL p : Nat) + 4)] ++ (.move 0 w :: ((cln (wid p) ++ p) ++ [.set w p100, .jump w (-((partL c : Nat) + (partL p : Nat) + 7))]))))) := by simp [loopP]
theorem loop_out (hw : w ≤ 16) (wc : wid c ≤ w) (l0 : us.length = 20) (e0 : reg us 0 = x) (hc : Out c n x) : ∃ k vs, St (loopP w c p) (1 + (wid c - 1) + n) 0 us k vs ∧ k < (loopP w c p).length := by
  rw [loop_o]
  have h1 : reg (stepRs (.move w 0) us) w = x := by rw [reg_mv w l0 (by omega), if_pos rfl, e0]
  have h0 : reg (stepRs (.move w 0) us) 0 = x := by rw [reg_mv 0 l0 (by omega), e0]; split <;> rfl
  have l1 : (stepRs (.move w 0) us).length = 20 := by rw [stepRs_len, l0]
  obtain ⟨k, v1, s1, hk⟩ := pl_out hc (by omega) l1 h0
  refine ⟨_, _, (St.cons1 (i := .move w 0) (rs := us) rfl rfl (s1.inA (B := _))).cast (by omega) rfl, ?_⟩
  unfold partL at hk
  simp only [List.length_cons, List.length_append]
  omega
theorem loop_end' (hw : w ≤ 16) (wc : wid c ≤ w) (w0 : 0 < w) (l0 : us.length = 20) (e0 : reg us 0 = x) (hc : Ret c n x .leaf) : ∃ vs, St (loopP w c p) (2 + (wid c - 1) + n + 3) 0 us (loopP w c p).length vs ∧ reg vs 0 = x := by
  rw [loop_s]
  have h1 : reg (stepRs (.move w 0) us) w = x := by rw [reg_mv w l0 (by omega), if_pos rfl, e0]
  have h0 : reg (stepRs (.move w 0) us) 0 = x := by rw [reg_mv 0 l0 (by omega), e0]; split <;> rfl
  have l1 : (stepRs (.move w 0) us).length = 20 := by rw [stepRs_len, l0]
  obtain ⟨v1, s1, e1, l2, o1⟩ := pl_run hc (by omega) l1 h0
  have e3 : reg v1 w = x := by rw [o1 w wc, h1]
  have e4 : reg (stepRs (.move 0 w) v1) 0 = x := by rw [reg_mv _ l2 (by omega), if_pos rfl, e3]
  have e5 : reg (stepRs (.move 0 w) v1) w = x := by
    rw [reg_mv _ l2 (by omega), e3]
    split <;> rfl
  have l4 : (stepRs (.move 0 w) v1).length = 20 := by rw [stepRs_len, l2]
  have e7 : reg (stepRs (.set w p100) (stepRs (.move 0 w) v1)) w = p100 := by rw [reg_st _ l4 (by omega), if_pos rfl]
  have e8 : reg (stepRs (.set w p100) (stepRs (.move 0 w) v1)) 0 = x := by rw [reg_st _ l4 (by omega), if_neg (by omega), e4]
  have s5 := St.over (d := (partL p : Nat) + 4) (M := .move 0 w :: ((cln (wid p) ++ p) ++ [.set w p100, .jump w (-((partL c : Nat) + (partL p : Nat) + 7))])) (N := []) (r := w) (by rw [e7]; exact fun z => by cases z) (by simp only [List.length_cons, List.length_append, List.length_nil, partL]; omega) (.refl 0 (stepRs (.set w p100) (stepRs (.move 0 w) v1)))
  have s7 := (St.stay (d := 4) (r := 0) e1).app rfl (St.cons1 (i := .move 0 w) rfl rfl (St.cons1 (i := .set w p100) rfl rfl s5))
  have s10 := St.cons1 (i := .move w 0) (rs := us) rfl rfl (s1.app (by unfold partL; rw [List.length_append]) s7)
  refine ⟨_, s10.cast (by omega) ?_, e8⟩
  simp only [List.length_cons, List.length_append, List.length_nil, partL]
  omega
theorem loop_pout (hw : w ≤ 16) (wc : wid c ≤ w) (wp : wid p ≤ w) (l0 : us.length = 20) (e0 : reg us 0 = x) (hc : Ret c n x t) (ht : t ≠ .leaf) (hp : Out p m x) : ∃ k vs, St (loopP w c p) (2 + (wid c - 1) + n + 1 + (wid p - 1) + m) 0 us k vs ∧ k < (loopP w c p).length := by
  rw [loop_po]
  have h1 : reg (stepRs (.move w 0) us) w = x := by rw [reg_mv w l0 (by omega), if_pos rfl, e0]
  have h0 : reg (stepRs (.move w 0) us) 0 = x := by rw [reg_mv 0 l0 (by omega), e0]; split <;> rfl
  have l1 : (stepRs (.move w 0) us).length = 20 := by rw [stepRs_len, l0]
  obtain ⟨v1, s1, e1, l2, o1⟩ := pl_run hc (by omega) l1 h0
  have e3 : reg v1 w = x := by rw [o1 w wc, h1]
  have e4 : reg (stepRs (.move 0 w) v1) 0 = x := by rw [reg_mv _ l2 (by omega), if_pos rfl, e3]
  have e5 : reg (stepRs (.move 0 w) v1) w = x := by
    rw [reg_mv _ l2 (by omega), e3]
    split <;> rfl
  have l4 : (stepRs (.move 0 w) v1).length = 20 := by rw [stepRs_len, l2]
  obtain ⟨k, v4, s4, hk⟩ := pl_out hp (by omega) l4 e4
  have s5 := St.cons1 (i := .move 0 w) rfl rfl (s4.inA (B := [.set w p100, .jump w (-((partL c : Nat) + (partL p : Nat) + 7))]))
  have s8 := St.over (d := 4) (M := [.move 0 w, .set w p100, .jump w ((partL p : Nat) + 4)]) (r := 0) (by rw [e1]; exact ht) rfl s5
  have s10 := St.cons1 (i := .move w 0) (rs := us) rfl rfl (s1.app (by unfold partL; rw [List.length_append]) s8)
  refine ⟨_, _, s10.cast (by omega) rfl, ?_⟩
  unfold partL at hk ⊢
  simp only [List.length_cons, List.length_append, List.length_nil]
  omega
theorem loop_round (hw : w ≤ 16) (wc : wid c ≤ w) (wp : wid p ≤ w) (w0 : 0 < w) (l0 : us.length = 20) (e0 : reg us 0 = x) (hc : Ret c n x t) (ht : t ≠ .leaf) (hp : Ret p m x y) : ∃ vs, St (loopP w c p) (2 + (wid c - 1) + n + (3 + (wid p - 1) + m)) 0 us 0 vs ∧ reg vs 0 = y ∧ vs.length = 20 := by
  rw [loop_t]
  have h1 : reg (stepRs (.move w 0) us) w = x := by rw [reg_mv w l0 (by omega), if_pos rfl, e0]
  have h0 : reg (stepRs (.move w 0) us) 0 = x := by rw [reg_mv 0 l0 (by omega), e0]; split <;> rfl
  have l1 : (stepRs (.move w 0) us).length = 20 := by rw [stepRs_len, l0]
  obtain ⟨v1, s1, e1, l2, o1⟩ := pl_run hc (by omega) l1 h0
  have e3 : reg v1 w = x := by rw [o1 w wc, h1]
  have e4 : reg (stepRs (.move 0 w) v1) 0 = x := by rw [reg_mv _ l2 (by omega), if_pos rfl, e3]
  have e5 : reg (stepRs (.move 0 w) v1) w = x := by
    rw [reg_mv _ l2 (by omega), e3]
    split <;> rfl
  have l4 : (stepRs (.move 0 w) v1).length = 20 := by rw [stepRs_len, l2]
  obtain ⟨v4, s4, e6, l5, o4⟩ := pl_run hp (by omega) l4 e4
  have e7 : reg (stepRs (.set w p100) v4) w = p100 := by rw [reg_st _ l5 (by omega), if_pos rfl]
  have e8 : reg (stepRs (.set w p100) v4) 0 = y := by rw [reg_st _ l5 (by omega), if_neg (by omega), e6]
  have l6 : (stepRs (.set w p100) v4).length = 20 := by rw [stepRs_len, l5]
  have s5 := St.cons1 (i := .move 0 w) rfl rfl (s4.app (by unfold partL; rw [List.length_append]) (St.one (i := .set w p100) rfl rfl))
  have s8 := St.over (d := 4) (M := [.move 0 w, .set w p100, .jump w ((partL p : Nat) + 4)]) (r := 0) (by rw [e1]; exact ht) rfl s5
  have s10 := St.cons1 (i := .move w 0) (rs := us) rfl rfl (s1.app (by unfold partL; rw [List.length_append]) s8)
  generalize hA : (Ins.move w 0 :: ((cln (wid c) ++ c) ++ (.jump 0 4 :: ([.move 0 w, .set w p100, .jump w ((partL p : Nat) + 4)] ++ (.move 0 w :: ((cln (wid p) ++ p) ++ [.set w p100])))))) = A at s10 ⊢
  have lA : A.length = partL c + partL p + 7 := by
    rw [← hA]
    simp only [List.length_cons, List.length_append, List.length_nil, partL]
    omega
  have s11 : St [Ins.jump w (-((partL c : Nat) + (partL p : Nat) + 7))] 0 0 (stepRs (.set w p100) v4) 0 (stepRs (.set w p100) v4) := .refl _ _
  have s12 := s10.inA (B := [Ins.jump w (-((partL c : Nat) + (partL p : Nat) + 7))])
  have s13 : St (A ++ [Ins.jump w (-((partL c : Nat) + (partL p : Nat) + 7))]) 1 A.length (stepRs (.set w p100) v4) 0 (stepRs (.set w p100) v4) := by
    refine .step (k1 := 0) List.getElem?_concat_length rfl ?_ (.refl _ _)
    show (if reg (stepRs (.set w p100) v4) w = .leaf then _ else _) = _
    rw [if_neg (by rw [e7]; exact fun z => by cases z), lA]
    omega
  refine ⟨_, ((s12.cast rfl ?_).trans s13).cast (by omega) rfl, e8, l6⟩
  rw [lA]
  simp only [List.length_cons, List.length_nil]
  omega
end
/-! ### what is told of a run: the result and the number of steps -/
inductive Res (is : List Ins) (x : Tr) : V → Nat → Prop where
  | large : Res is x (.str "large") 0
  | out {n : Nat} (hn : 200 ≤ n) (h : Out is n x) : Res is x .non 0
  | ret {d : Nat} {y : Tr} (h : Ret is d x y) (hd : d ≤ 200) (hy : y.sg.length ≤ 3000) : Res is x (.str y.str) d
/-- what a program that was put together is said to do -/
inductive Fin (is : List Ins) (x : Tr) : V → Nat → Prop where
  | out {n d : Nat} (hn : 200 ≤ n) (h : Out is n x) : Fin is x .non d
  | ret {d : Nat} {y : Tr} (h : Ret is d x y) : Fin is x (.str y.str) d
theorem not_large (t : Tr) : ¬ V.str "large" = V.str t.str := fun z => by
  have h1 := (notTold_tree t).2.2.1
  rw [← V.str.inj z] at h1
  revert h1
  decide +kernel
theorem trV_0 {rs : List Tr} (h : 0 < rs.length) : (trV rs)[0]? = some (.str (reg rs 0).str) := by
  cases rs with
  | nil => cases h
  | cons t r => rfl
theorem eqv_large (t : Tr) : PyData.eqv (.str t.str) (.str "large") = false := by
  cases e : PyData.eqv (.str t.str) (.str "large") with
  | false => rfl
  | true =>
    have e : (t.str == Str.ofString "large") = true := e
    exact absurd (congrArg V.str (eq_of_beq e).symm) (not_large t)
theorem leaf_str : Tr.leaf.str = Str.ofString "0" := by decide +kernel
theorem eqv_zero {t : Tr} (h : t ≠ .leaf) : PyData.eqv (.str t.str) (.str "0") = false := by
  cases e : PyData.eqv (.str t.str) (.str "0") with
  | false => rfl
  | true =>
    have e : (t.str == Str.ofString "0") = true := e
    exact absurd (Tr.str_inj ((eq_of_beq e).trans leaf_str.symm)) h
inductive LRes (is : List Ins) (x : Tr) : V → Nat → Prop where
  | large : LRes is x (.str "large") 0
  | fin {v : V} {d : Nat} (h : Fin is x v d) (hd : d ≤ 30000) : LRes is x v d
/-! ### a list of programs with what they are said to do -/
def FinAt (R : Addr) (H : Hp) (x : Tr) (v : V) : Prop := ∃ (t pr : Addr) (is : List Ins) (val : V) (d : Nat), v = .ref t ∧ H t = some (.tup [.ref pr, val, .int d]) ∧ pr ≠ R ∧ PgAt H pr is ∧ Fin is x val d ∧ d ≤ 30000 ∧ is.length ≤ 100 ∧ PgOk 20 1500 is
structure RowsAt (H0 : Hp) (R : Addr) (x : Tr) (n : Nat) (H : Hp) : Prop where
  new : H0 R = none
  sm : Same H0 H
  rows : ∃ vs, H R = some (.lst vs) ∧ vs.length ≤ n ∧ ∀ v ∈ vs, FinAt R H x v
theorem FinAt.same {R : Addr} {H H' : Hp} {x : Tr} {v : V} (h : FinAt R H x v) (e : Same H H') : FinAt R H' x v := by
  obtain ⟨t, pr, is, val, d, h1, h2, h3, h4, h5⟩ := h
  exact ⟨t, pr, is, val, d, h1, e _ _ h2, h3, h4.same e, h5⟩
theorem FinAt.put {R : Addr} {H : Hp} {x : Tr} {v : V} {vs ws : List V} (h : FinAt R H x v) (hR : H R = some (.lst vs)) : FinAt R (upd H R (.lst ws)) x v := by
  obtain ⟨t, pr, is, val, d, h1, h2, h3, h4, h5⟩ := h
  have nt : t ≠ R := fun z => by
    rw [z, hR] at h2
    cases h2
  exact ⟨t, pr, is, val, d, h1, by rw [upd_ne nt]; exact h2, h3, h4.but h3 .upd hR, h5⟩
theorem RowsAt.same {H0 H H' : Hp} {R : Addr} {x : Tr} {n : Nat} (h : RowsAt H0 R x n H) (e : Same H H') : RowsAt H0 R x n H' := by
  obtain ⟨vs, h1, h2, h3⟩ := h.rows
  exact ⟨h.new, h.sm.trans e, vs, e _ _ h1, h2, fun v hv => (h3 v hv).same e⟩
theorem RowsAt.up {H0 H : Hp} {R : Addr} {x : Tr} {n m : Nat} (h : RowsAt H0 R x n H) (e : n ≤ m) : RowsAt H0 R x m H := by
  obtain ⟨vs, h1, h2, h3⟩ := h.rows
  exact ⟨h.new, h.sm, vs, h1, Nat.le_trans h2 e, h3⟩
/-- one more -/
theorem RowsAt.push {H0 H : Hp} {R t pr : Addr} {x : Tr} {n d : Nat} {vs : List V} {val : V} {is : List Ins} (h : RowsAt H0 R x n H) (hR : H R = some (.lst vs)) (nt : H t = none) (npr : pr ≠ R) (hp : PgAt H pr is) (hf : Fin is x val d) (hd : d ≤ 30000) (hl : is.length ≤ 100) (ho : PgOk 20 1500 is) :
    RowsAt H0 R x (n + 1) (upd (upd H t (.tup [.ref pr, val, .int d])) R (.lst (vs ++ [.ref t]))) := by
  obtain ⟨vs2, h1, h2, h3⟩ := h.rows
  rw [hR] at h1
  cases h1
  have s1 := Same.upd (o := .tup [.ref pr, val, .int d]) nt
  have hR1 := s1 _ _ hR
  refine ⟨h.new, (h.sm.trans s1).but_new h.new .upd, _, upd_same, by rw [List.length_append]; show vs.length + 1 ≤ n + 1; omega, fun v hv => ?_⟩
  rcases List.mem_append.mp hv with hv | hv
  · exact ((h3 v hv).same s1).put hR1
  · cases List.mem_singleton.mp hv
    have : FinAt R (upd H t (.tup [.ref pr, val, .int d])) x (.ref t) := ⟨t, pr, is, val, d, rfl, upd_same, npr, hp.same s1, hf, hd, hl, ho⟩
    exact this.put hR1
theorem const_ret (x : Tr) : Ret [.set 0 x] 1 x x := ⟨_, St.one rfl rfl, by
  show reg ((rs0 x).set 0 x) 0 = x
  rw [reg_set _ (by rw [rs0_len]; decide)]⟩
theorem chain_fin {p q : List Ins} {x y : Tr} {d m : Nat} {v : V} (wq : wid q ≤ 20) (hp : Ret p d x y) (hq : Res q y v m) (hv : v ≠ .str "large") : Fin (chainP [p, q]) x v (d + (wid q - 1 + m)) := by
  cases hq with
  | large => exact absurd rfl hv
  | @out n hn ho =>
    refine .out (n := d + (wid q - 1 + n)) (by omega) ?_
    obtain ⟨k, us, s, hk⟩ := ho
    obtain ⟨vs, sp, e⟩ := hp
    rw [chain2_is]
    obtain ⟨k2, zs, s2, hk2⟩ := pl_out (p := q) (us := vs) ⟨k, us, s, hk⟩ wq sp.l20 e
    refine ⟨_, zs, sp.seq s2, ?_⟩
    unfold partL at hk2
    rw [List.length_append, List.length_append]
    omega
  | ret h hd hy =>
    exact .ret (chain2_to wq hp h)
theorem chain_fout {p q : List Ins} {x : Tr} {n d : Nat} (hn : 200 ≤ n) (hp : Out p n x) : Fin (chainP [p, q]) x .non d := by
  obtain ⟨k, us, s, hk⟩ := hp
  rw [chain2_is]
  exact .out hn ⟨k, us, s.inA, by rw [List.length_append]; omega⟩
theorem inV3 {a v1 v2 v3 : V} (h : ¬ inV a [v1, v2, v3] = true) (ha : eqV a a = true) : v1 ≠ a ∧ v2 ≠ a ∧ v3 ≠ a := by
  refine ⟨fun z => h ?_, fun z => h ?_, fun z => h ?_⟩
  · subst z
    show (eqV v1 v1 || (eqV v2 v1 || (eqV v3 v1 || false))) = true
    rw [ha]
    rfl
  · subst z
    show (eqV v1 v2 || (eqV v2 v2 || (eqV v3 v2 || false))) = true
    rw [ha]
    simp
  · subst z
    show (eqV v1 v3 || (eqV v2 v3 || (eqV v3 v3 || false))) = true
    rw [ha]
    simp
theorem Res.flat {is : List Ins} {x : Tr} {v : V} {d : Nat} (h : Res is x v d) : flatV v = true ∧ d ≤ 200 := by
  cases h with
  | large => exact ⟨rfl, Nat.zero_le _⟩
  | out => exact ⟨rfl, Nat.zero_le _⟩
  | ret h hd hy => exact ⟨rfl, hd⟩
def VF (v : V) : Prop := v = .str "large" ∨ v = .non ∨ ∃ t : Tr, v = .str t.str
theorem Res.vf {is : List Ins} {x : Tr} {v : V} {d : Nat} (h : Res is x v d) : VF v := by
  cases h with
  | large => exact .inl rfl
  | out => exact .inr (.inl rfl)
  | ret h hd hy => exact .inr (.inr ⟨_, rfl⟩)
theorem VF.dp {K : PySem.W.Frag} {H : Hp} {v : V} (h : VF v) (n : v ≠ .str "large") : ∃ d, Dp K H v d ∧ SeqAt.shaped d = true ∧ PyData.eqv d (.str "large") = false := by
  rcases h with h | h | ⟨t, h⟩
  · exact absurd h n
  · subst h
    exact ⟨.none, .non, by decide +kernel, by decide +kernel⟩
  · subst h
    exact ⟨.str t.str, .str _, shaped_01 t.sg_01, eqv_large t⟩
theorem PgOk.more {w k l : Nat} {is : List Ins} (h : PgOk w k is) (hk : k ≤ l) : PgOk w l is := fun j x hx => by
  have h2 := h j x hx
  cases x with
  | set a t => exact ⟨h2.1, Nat.le_trans h2.2 hk⟩
  | _ => exact h2
end Nx

/-! The world of the later laws: trees by their numbers, each tree once. -/
namespace Nx
open PySem PySem.Spec PyProof.Rows L2
def wKV (Ah At As Ap : Addr) : List (Key × V) := [(.inr "heads", .ref Ah), (.inr "tails", .ref At), (.inr "sizes", .ref As), (.inr "pairs", .ref Ap)]
theorem wKV_h {Ah At As Ap : Addr} : L2.valV (wKV Ah At As Ap) (.inr "heads") = some (.ref Ah) := valV_pos rfl
theorem wKV_t {Ah At As Ap : Addr} : L2.valV (wKV Ah At As Ap) (.inr "tails") = some (.ref At) :=
  (valV_neg (show ¬ (Sum.inr ("heads" : Str) : Key) = .inr ("tails" : Str) by decide +kernel)).trans (valV_pos rfl)
theorem wKV_s {Ah At As Ap : Addr} : L2.valV (wKV Ah At As Ap) (.inr "sizes") = some (.ref As) :=
  (valV_neg (show ¬ (Sum.inr ("heads" : Str) : Key) = .inr ("sizes" : Str) by decide +kernel)).trans ((valV_neg (show ¬ (Sum.inr ("tails" : Str) : Key) = .inr ("sizes" : Str) by decide +kernel)).trans (valV_pos rfl))
theorem wKV_p {Ah At As Ap : Addr} : L2.valV (wKV Ah At As Ap) (.inr "pairs") = some (.ref Ap) :=
  (valV_neg (show ¬ (Sum.inr ("heads" : Str) : Key) = .inr ("pairs" : Str) by decide +kernel)).trans ((valV_neg (show ¬ (Sum.inr ("tails" : Str) : Key) = .inr ("pairs" : Str) by decide +kernel)).trans ((valV_neg (show ¬ (Sum.inr ("sizes" : Str) : Key) = .inr ("pairs" : Str) by decide +kernel)).trans (valV_pos rfl)))
theorem wk_h {H : Hp} {W Ah At As Ap : Addr} (h : H W = some (.dK (wKV Ah At As Ap))) : DGet H W (.str "heads") (some (.ref Ah)) := by
  have := DGet.k (k := .inr "heads") h
  rwa [wKV_h] at this
theorem wk_t {H : Hp} {W Ah At As Ap : Addr} (h : H W = some (.dK (wKV Ah At As Ap))) : DGet H W (.str "tails") (some (.ref At)) := by
  have := DGet.k (k := .inr "tails") h
  rwa [wKV_t] at this
theorem wk_s {H : Hp} {W Ah At As Ap : Addr} (h : H W = some (.dK (wKV Ah At As Ap))) : DGet H W (.str "sizes") (some (.ref As)) := by
  have := DGet.k (k := .inr "sizes") h
  rwa [wKV_s] at this
theorem wk_p {H : Hp} {W Ah At As Ap : Addr} (h : H W = some (.dK (wKV Ah At As Ap))) : DGet H W (.str "pairs") (some (.ref Ap)) := by
  have := DGet.k (k := .inr "pairs") h
  rwa [wKV_p] at this
theorem wKV_merge {Ah At As Ap : Addr} : mergeK [] (wKV Ah At As Ap) = wKV Ah At As Ap := by
  show putK (putK (putK (putK ([] : List (Key × V)) (Sum.inr ("heads" : Str) : Key) (.ref Ah)) (Sum.inr ("tails" : Str) : Key) (.ref At)) (Sum.inr ("sizes" : Str) : Key) (.ref As)) (Sum.inr ("pairs" : Str) : Key) (.ref Ap) = _
  rw [putK_new (.ref Ah) valV_nil]
  show putK (putK (putK [(.inr "heads", .ref Ah)] (Sum.inr ("tails" : Str) : Key) (.ref At)) (Sum.inr ("sizes" : Str) : Key) (.ref As)) (Sum.inr ("pairs" : Str) : Key) (.ref Ap) = _
  rw [putK_new (.ref At) ((valV_neg (show ¬ (Sum.inr ("heads" : Str) : Key) = .inr ("tails" : Str) by decide +kernel)).trans valV_nil)]
  show putK (putK [(.inr "heads", .ref Ah), (.inr "tails", .ref At)] (Sum.inr ("sizes" : Str) : Key) (.ref As)) (Sum.inr ("pairs" : Str) : Key) (.ref Ap) = _
  rw [putK_new (.ref As) ((valV_neg (show ¬ (Sum.inr ("heads" : Str) : Key) = .inr ("sizes" : Str) by decide +kernel)).trans ((valV_neg (show ¬ (Sum.inr ("tails" : Str) : Key) = .inr ("sizes" : Str) by decide +kernel)).trans valV_nil))]
  show putK [(.inr "heads", .ref Ah), (.inr "tails", .ref At), (.inr "sizes", .ref As)] (Sum.inr ("pairs" : Str) : Key) (.ref Ap) = _
  rw [putK_new (.ref Ap) ((valV_neg (show ¬ (Sum.inr ("heads" : Str) : Key) = .inr ("pairs" : Str) by decide +kernel)).trans ((valV_neg (show ¬ (Sum.inr ("tails" : Str) : Key) = .inr ("pairs" : Str) by decide +kernel)).trans ((valV_neg (show ¬ (Sum.inr ("sizes" : Str) : Key) = .inr ("pairs" : Str) by decide +kernel)).trans valV_nil)))]
  rfl
def pK (a b : Nat) : List Key := [.inl (a : Int), .inl (b : Int)]
theorem pK_inj {a b c d : Nat} (h : pK a b = pK c d) : a = c ∧ b = d := by
  unfold pK at h
  simp only [List.cons.injEq, Sum.inl.injEq, and_true] at h
  exact ⟨by omega, by omega⟩
/-- what the pairs' dict says of the table -/
structure PsOk (kvs : List (List Key × V)) (T : List Tr) : Prop where
  len : kvs.length ≤ T.length
  val : ∀ (a b : Nat) (v : V), L2.valV kvs (pK a b) = some v → ∃ (n : Nat) (s t : Tr), v = .int n ∧ T[a]? = some s ∧ T[b]? = some t ∧ T[n]? = some (.node s t)
  has : ∀ (n : Nat) (s t : Tr), T[n]? = some (.node s t) → ∃ a b : Nat, T[a]? = some s ∧ T[b]? = some t ∧ (L2.valV kvs (pK a b)).isSome = true
structure WAt (H : Hp) (W Ah At As Ap : Addr) (T : List Tr) : Prop where
  ob : H W = some (.dK (wKV Ah At As Ap))
  tb : MacAt H Ah At As T
  nd : ∀ (m n : Nat) (t : Tr), T[m]? = some t → T[n]? = some t → m = n
  ps : ∃ kvs : List (List Key × V), H Ap = some (.dT kvs) ∧ PsOk kvs T
theorem nd_one : ∀ (m n : Nat) (t : Tr), [Tr.leaf][m]? = some t → [Tr.leaf][n]? = some t → m = n := fun m n t h1 h2 => by
  rw [(one_at h1).1, (one_at h2).1]
theorem PsOk.new : PsOk [] [.leaf] := ⟨by decide, fun a b v h => (by cases h), fun n s t h => (by
  have := (one_at h).2
  cases this)⟩
theorem last_at {T : List Tr} {u x : Tr} {n : Nat} (h : (T ++ [u])[n]? = some x) : T[n]? = some x ∨ (n = T.length ∧ x = u) := by
  have hl := (List.getElem?_eq_some_iff.mp h).1
  rw [List.length_append, List.length_singleton] at hl
  by_cases c : n < T.length
  · rw [List.getElem?_append_left c] at h
    exact .inl h
  · have c2 : n = T.length := by omega
    rw [c2, List.getElem?_append_right (Nat.le_refl _), Nat.sub_self] at h
    exact .inr ⟨c2, (Option.some.inj h).symm⟩
theorem at_last (T : List Tr) (u : Tr) : (T ++ [u])[T.length]? = some u := by
  rw [List.getElem?_append_right (Nat.le_refl _), Nat.sub_self]
  rfl
theorem PsOk.no {kvs : List (List Key × V)} {T : List Tr} (p : PsOk kvs T) (nd : ∀ (m n : Nat) (t : Tr), T[m]? = some t → T[n]? = some t → m = n) {a b : Nat} {s t : Tr} (ha : T[a]? = some s) (hb : T[b]? = some t) (h : L2.valV kvs (pK a b) = none) : ∀ n : Nat, T[n]? ≠ some (Tr.node s t) := fun n hn => by
  obtain ⟨c, d, h1, h2, h3⟩ := p.has n s t hn
  rw [nd c a s h1 ha, nd d b t h2 hb, h] at h3
  cases h3
theorem PsOk.put {kvs : List (List Key × V)} {T : List Tr} (p : PsOk kvs T) {a b : Nat} {s t : Tr} (ha : T[a]? = some s) (hb : T[b]? = some t) (h : L2.valV kvs (pK a b) = none) : PsOk (putK kvs (pK a b) (.int T.length)) (T ++ [.node s t]) := by
  have e := Ext.app T [.node s t]
  refine ⟨by rw [putK_new _ h, List.length_append, List.length_append]; exact Nat.add_le_add_right p.len 1, fun c d v hv => ?_, fun n s' t' hn => ?_⟩
  · rw [valV_put] at hv
    by_cases q : pK c d = pK a b
    · rw [if_pos q] at hv
      cases hv
      obtain ⟨rfl, rfl⟩ := pK_inj q
      exact ⟨T.length, s, t, rfl, e _ _ ha, e _ _ hb, at_last _ _⟩
    · rw [if_neg q] at hv
      obtain ⟨n, s', t', h1, h2, h3, h4⟩ := p.val c d v hv
      exact ⟨n, s', t', h1, e _ _ h2, e _ _ h3, e _ _ h4⟩
  · rcases last_at hn with hn | ⟨_, hn⟩
    · obtain ⟨c, d, h1, h2, h3⟩ := p.has n s' t' hn
      refine ⟨c, d, e _ _ h1, e _ _ h2, ?_⟩
      rw [valV_put]
      split
      · rfl
      · exact h3
    · injection hn with h1 h2
      subst h1 h2
      refine ⟨a, b, e _ _ ha, e _ _ hb, ?_⟩
      rw [valV_put, if_pos rfl]
      rfl
theorem nd_put {T : List Tr} {u : Tr} (nd : ∀ (m n : Nat) (t : Tr), T[m]? = some t → T[n]? = some t → m = n) (no : ∀ n : Nat, T[n]? ≠ some u) : ∀ (m n : Nat) (t : Tr), (T ++ [u])[m]? = some t → (T ++ [u])[n]? = some t → m = n := fun m n t h1 h2 => by
  rcases last_at h1 with g1 | ⟨e1, q1⟩
  · rcases last_at h2 with g2 | ⟨e2, q2⟩
    · exact nd m n t g1 g2
    · exact absurd (q2 ▸ g1) (no m)
  · rcases last_at h2 with g2 | ⟨e2, q2⟩
    · exact absurd (q1 ▸ g2) (no n)
    · rw [e1, e2]
section
variable {H H' : Hp} {W Ah At As Ap : Addr} {T T' : List Tr}
theorem WAt.notA (h : WAt H W Ah At As Ap T) : W ∉ [Ah, At, As] := fun z => by
  obtain ⟨hs, ts, h1, h2, h3, g⟩ := h.tb.get
  have ho := h.ob
  simp only [List.mem_cons, List.not_mem_nil, or_false] at z
  rcases z with rfl | rfl | rfl
  · rw [h1] at ho; cases ho
  · rw [h2] at ho; cases ho
  · rw [h3] at ho; cases ho
theorem WAt.pA (h : WAt H W Ah At As Ap T) : Ap ∉ [Ah, At, As] := fun z => by
  obtain ⟨hs, ts, h1, h2, h3, g⟩ := h.tb.get
  obtain ⟨kvs, ho, _⟩ := h.ps
  simp only [List.mem_cons, List.not_mem_nil, or_false] at z
  rcases z with rfl | rfl | rfl
  · rw [h1] at ho; cases ho
  · rw [h2] at ho; cases ho
  · rw [h3] at ho; cases ho
theorem WAt.WP (h : WAt H W Ah At As Ap T) : W ≠ Ap := fun z => by
  obtain ⟨kvs, ho, _⟩ := h.ps
  have h1 := h.ob
  rw [z, ho] at h1
  cases h1
abbrev wL (Ah At As Ap : Addr) : List Addr := [Ah, At, As, Ap]
theorem WAt.W4 (h : WAt H W Ah At As Ap T) : W ∉ wL Ah At As Ap := fun z => by
  have h1 := h.notA
  have h2 := h.WP
  simp only [wL, List.mem_cons, List.not_mem_nil, or_false, not_or] at z h1
  rcases z with z | z | z | z
  · exact h1.1 z
  · exact h1.2.1 z
  · exact h1.2.2 z
  · exact h2 z
/-- changes elsewhere -/
theorem WAt.but {as : List Addr} (h : WAt H W Ah At As Ap T) (e : ButL as H H') (n : ∀ b ∈ W :: wL Ah At As Ap, b ∉ as) : WAt H' W Ah At As Ap T := by
  obtain ⟨kvs, h1, h2⟩ := h.ps
  exact ⟨e _ _ (n W (by simp)) h.ob, h.tb.but e (n _ (by simp)) (n _ (by simp)) (n _ (by simp)), h.nd, kvs, e _ _ (n Ap (by simp)) h1, h2⟩
theorem WAt.same (h : WAt H W Ah At As Ap T) (e : Same H H') : WAt H' W Ah At As Ap T := h.but (as := []) e.butL (fun _ _ z => by cases z)
/-- what is tracked as something else is none of the world's -/
theorem WAt.none (h : WAt H W Ah At As Ap T) {b : Addr} (hb : H b = none) : b ∉ W :: wL Ah At As Ap := fun z => by
  obtain ⟨hs, ts, h1, h2, h3, g⟩ := h.tb.get
  obtain ⟨kvs, h4, _⟩ := h.ps
  have h5 := h.ob
  simp only [wL, List.mem_cons, List.not_mem_nil, or_false] at z
  rcases z with rfl | rfl | rfl | rfl | rfl
  · rw [h5] at hb; cases hb
  · rw [h1] at hb; cases hb
  · rw [h2] at hb; cases hb
  · rw [h3] at hb; cases hb
  · rw [h4] at hb; cases hb
theorem WAt.tup (h : WAt H W Ah At As Ap T) {b : Addr} {xs : List V} (hb : H b = some (.tup xs)) : b ∉ W :: wL Ah At As Ap := fun z => by
  obtain ⟨hs, ts, h1, h2, h3, g⟩ := h.tb.get
  obtain ⟨kvs, h4, _⟩ := h.ps
  have h5 := h.ob
  simp only [wL, List.mem_cons, List.not_mem_nil, or_false] at z
  rcases z with rfl | rfl | rfl | rfl | rfl
  · rw [h5] at hb; cases hb
  · rw [h1] at hb; cases hb
  · rw [h2] at hb; cases hb
  · rw [h3] at hb; cases hb
  · rw [h4] at hb; cases hb
theorem WAt.gh (h : WAt H W Ah At As Ap T) : DGet H W (.str "heads") (some (.ref Ah)) := wk_h h.ob
theorem WAt.gt (h : WAt H W Ah At As Ap T) : DGet H W (.str "tails") (some (.ref At)) := wk_t h.ob
theorem WAt.gs (h : WAt H W Ah At As Ap T) : DGet H W (.str "sizes") (some (.ref As)) := wk_s h.ob
theorem WAt.gp (h : WAt H W Ah At As Ap T) : DGet H W (.str "pairs") (some (.ref Ap)) := wk_p h.ob
theorem not4 {b : Addr} (h : b ∉ W :: wL Ah At As Ap) : b ∉ wL Ah At As Ap := fun z => h (.tail _ z)
end
end Nx

/-! Programs whose rows may be the module's own constants. -/
namespace Nx
open PySem PySem.Spec PyProof.Rows L2
abbrev RowsK (K : PySem.W.Frag) (H : Hp) : List Addr → List Ins → Prop := Paired fun a i => SqT K H a i.vs
def PgK (K : PySem.W.Frag) (H : Hp) (p : Addr) (is : List Ins) : Prop := ∃ as : List Addr, H p = some (.lst (as.map V.ref)) ∧ RowsK K H as is
section
variable {K : PySem.W.Frag} {H H' : Hp} {p : Addr} {is : List Ins}
theorem PgAt.k (h : PgAt H p is) : PgK K H p is := by
  obtain ⟨as, h1, h2⟩ := h
  exact ⟨as, h1, Paired.imp (fun _ _ q => SqT.of q) h2⟩
instance : Coe (PgAt H p is) (PgK K H p is) := ⟨PgAt.k⟩
theorem PgK.same (h : PgK K H p is) (e : Same H H') : PgK K H' p is := by
  obtain ⟨as, h1, h2⟩ := h
  exact ⟨as, e _ _ h1, Paired.imp (fun _ _ q => Same.seqT e q) h2⟩
theorem PgK.len (h : PgK K H p is) : ∃ xs, H p = some (.lst xs) ∧ xs.length = is.length := by
  obtain ⟨as, h1, h2⟩ := h
  exact ⟨_, h1, by rw [List.length_map, Paired.len h2]⟩
theorem PgK.has (h : PgK K H p is) : H p ≠ none := fun z => by
  obtain ⟨as, h1, _⟩ := h
  rw [h1] at z
  cases z
theorem PgK.apart {r : Addr} (h : PgK K H p is) (n : H r = none) : p ≠ r := fun z => h.has (by rw [z]; exact n)
/-- an item of a program -/
theorem PgK.get (h : PgK K H p is) : ∃ xs : List V, H p = some (.lst xs) ∧ xs.length = is.length ∧ ∀ (i : Nat) (x : Ins), is[i]? = some x → ∃ a : Addr, xs[i]? = some (V.ref a) ∧ SqT K H a x.vs := by
  obtain ⟨as, h1, h2⟩ := h
  refine ⟨_, h1, by rw [List.length_map, Paired.len h2], fun i x hi => ?_⟩
  obtain ⟨a, e1, e2⟩ := Paired.get h2 hi
  exact ⟨a, by rw [List.getElem?_map, e1]; rfl, e2⟩
theorem Ins.dpK {a : Addr} {i : Ins} (h : SqT K H a i.vs) : Dp K H (.ref a) i.data := by
  refine .tup h (.cons (.str _) ?_)
  cases i with
  | set a t => exact .cons (.int _) (.cons (.str _) .nil)
  | move a b => exact .cons (.int _) (.cons (.int _) .nil)
  | cons a b c => exact .cons (.int _) (.cons (.int _) (.cons (.int _) .nil))
  | head a b => exact .cons (.int _) (.cons (.int _) .nil)
  | tail a b => exact .cons (.int _) (.cons (.int _) .nil)
  | jump a n => exact .cons (.int _) (.cons (.int _) .nil)
theorem rowsK_dp : ∀ {as : List Addr} {is : List Ins}, RowsK K H as is → DpAll K H (as.map V.ref) (is.map Ins.data)
  | _, _, .nil => .nil
  | _, _, .cons r t => .cons (Ins.dpK r) (rowsK_dp t)
theorem PgK.dp (h : PgK K H p is) : Dp K H (.ref p) (progD is) := by
  obtain ⟨as, h1, h2⟩ := h
  exact .lst (SqL.of h1) (rowsK_dp h2)
/-- no tuple stands at these -/
def NoT (H : Hp) (as : List Addr) : Prop := ∀ b ∈ as, (∀ ys, H b ≠ some (.tup ys)) ∧ ∀ o ys, H b ≠ some (.frz o (.tup ys))
theorem _root_.L2.SqT.butL {as : List Addr} {a : Addr} {xs : List V} (h : SqT K H a xs) (e : ButL as H H') (n : NoT H as) : SqT K H' a xs := by
  rcases h with (h | ⟨o, h⟩) | h
  · exact .inl (.inl (e _ _ (fun z => (n a z).1 xs h) h))
  · exact .inl (.inr ⟨o, e _ _ (fun z => (n a z).2 o xs h) h⟩)
  · exact .inr h
theorem PgK.butL {as : List Addr} (h : PgK K H p is) (e : ButL as H H') (n : NoT H as) (np : p ∉ as) : PgK K H' p is := by
  obtain ⟨qs, h1, h2⟩ := h
  exact ⟨qs, e _ _ np h1, Paired.imp (fun _ _ q => SqT.butL q e n) h2⟩
theorem NoT.lst {b : Addr} {xs : List V} {as : List Addr} (h : H b = some (.lst xs)) (n : NoT H as) : NoT H (b :: as) := fun c hc => by
  rcases List.mem_cons.mp hc with rfl | hc
  · rw [h]
    exact ⟨fun _ z => (by cases z), fun _ _ z => (by cases z)⟩
  · exact n c hc
theorem NoT.nil : NoT H [] := fun _ h => by cases h
theorem Strm.noT {st : Addr} (h : Strm H st) : NoT H [st] := by
  obtain ⟨l, ns, c, i, m, h1, _⟩ := h
  exact NoT.lst h1 .nil
theorem ExS.butL {st : Addr} (e : ExS st H H') : ButL [st] H H' := fun b o n h => e.k b o (fun z => n (by rw [z]; exact List.mem_singleton.mpr rfl)) h
theorem PgK.nst {st : Addr} (h : PgK K H p is) (s : Strm H st) : p ≠ st := fun z => by
  obtain ⟨as, h1, _⟩ := h
  obtain ⟨l, ns, c, i, m, h2, _⟩ := s
  rw [z, h2] at h1
  have h1 := HO.lst.inj (Option.some.inj h1)
  match as, h1 with
  | _ :: [], h1 => cases h1
  | _ :: _ :: _, h1 =>
    have := (List.cons.inj (List.cons.inj h1).2).1
    cases this
theorem PgK.draw {st : Addr} (h : PgK K H p is) (s : Strm H st) (e : ExS st H H') : PgK K H' p is := h.butL e.butL s.noT (fun z => h.nst s (List.mem_singleton.mp z))
section
variable {W Ah At As Ap : Addr} {T T' : List Tr}
theorem WAt.noT (h : WAt H W Ah At As Ap T) : NoT H (wL Ah At As Ap) := by
  obtain ⟨hs, ts, h1, h2, h3, g⟩ := h.tb.get
  obtain ⟨kvs, h4, _⟩ := h.ps
  refine NoT.lst h1 (NoT.lst h2 (NoT.lst h3 ?_))
  intro b hb
  cases List.mem_singleton.mp hb
  rw [h4]
  exact ⟨fun _ z => (by cases z), fun _ _ z => (by cases z)⟩
theorem WAt.noT5 (h : WAt H W Ah At As Ap T) : NoT H (W :: wL Ah At As Ap) := fun b hb => by
  rcases List.mem_cons.mp hb with rfl | hb
  · rw [h.ob]
    exact ⟨fun _ z => (by cases z), fun _ _ z => (by cases z)⟩
  · exact h.noT b hb
/-- a list of objects is none of the world's -/
theorem WAt.refs (h : WAt H W Ah At As Ap T) {as : List Addr} (hp : H p = some (.lst (as.map V.ref))) : p ∉ W :: wL Ah At As Ap := fun z => by
  obtain ⟨hs, ts, h1, h2, h3, g⟩ := h.tb.get
  obtain ⟨kvs, h4, _⟩ := h.ps
  have h5 := h.ob
  have l0 := (List.getElem?_eq_some_iff.mp g.z).1
  have no : ∀ (ns : List Nat), ns.length = T.length → H p ≠ some (.lst (natsV ns)) := fun ns hl e => by
    rw [hp] at e
    have e := HO.lst.inj (Option.some.inj e)
    match as, ns, e, hl with
    | [], [], _, hl => simp at hl; omega
    | a :: as, n :: ns, e, _ => cases (List.cons.inj e).1
  simp only [wL, List.mem_cons, List.not_mem_nil, or_false] at z
  rcases z with rfl | rfl | rfl | rfl | rfl
  · rw [h5] at hp; cases hp
  · exact no hs g.lh h1
  · exact no ts g.lt h2
  · rw [h3] at hp
    have e := HO.lst.inj (Option.some.inj hp)
    match as, T, e, l0 with
    | [], t :: T, e, _ => cases e
    | a :: as, t :: T, e, _ => cases (List.cons.inj e).1
  · rw [h4] at hp; cases hp
theorem WAt.pg (h : WAt H W Ah At As Ap T) (hp : PgK K H p is) : p ∉ W :: wL Ah At As Ap := by
  obtain ⟨as, h1, _⟩ := hp
  exact h.refs h1
theorem PgK.wld (hp : PgK K H p is) (h : WAt H W Ah At As Ap T) (e : ButL (wL Ah At As Ap) H H') : PgK K H' p is := hp.butL e h.noT (not4 (h.pg hp))
end
end
theorem sl_anyK {K : PySem.W.Frag} {H : Hp} {a : Addr} {xs : List V} {lo hi : Option Int} {Q : VK} (h : SqT K H a xs) (q : ∀ b H', Same H H' → SqT K H' b (cutV xs lo hi) → Q (.ref b) H') : rSlA K (.ref a) lo hi H Q := by
  refine ⟨a, xs, rfl, h, fun hw => q a H (.refl _) ?_, fun _ p np => q p _ (Same.upd np) (SqT.of upd_same)⟩
  have : cutV xs lo hi = xs := by
    unfold cutV
    rw [hw.1, hw.2, List.drop_zero, Nat.sub_zero]
    exact List.take_of_length_le (Nat.le_refl _)
  rw [this]
  exact h
/-! ### a program as the law's own runs hold it -/
def ldV (i : Ins) (n : Nat) : List V := match i with
  | .set a _ => [.str "set", .int a, .int n]
  | i => i.vs
def LdAt (K : PySem.W.Frag) (H : Hp) (T : List Tr) (L : Addr) (is : List Ins) : Prop := ∃ qs : List Addr, H L = some (.lst (qs.map V.ref)) ∧ qs.length = is.length ∧ ∀ (j : Nat) (i : Ins), is[j]? = some i → ∃ (q : Addr) (n : Nat), qs[j]? = some q ∧ SqT K H q (ldV i n) ∧ SetN T i n
theorem LdAt.on {K : PySem.W.Frag} {H H' : Hp} {T T' : List Tr} {L : Addr} {is : List Ins} {as : List Addr} (h : LdAt K H T L is) (e : ButL as H H') (n : NoT H as) (nL : L ∉ as) (x : Ext T T') : LdAt K H' T' L is := by
  obtain ⟨qs, h1, h2, h3⟩ := h
  refine ⟨qs, e _ _ nL h1, h2, fun j i hi => ?_⟩
  obtain ⟨q, m, a, b, c⟩ := h3 j i hi
  exact ⟨q, m, a, b.butL e n, c.ext x⟩
/-! ### a program that is drawn, its trees of at most t pairs -/
structure PIn (t : Nat) (H2 : Hp) (st p : Addr) (wide many : Nat) (as : List Addr) (is : List Ins) (H' : Hp) : Prop where
  at_ : H' p = some (.lst (as.map V.ref))
  rows : Rows H' as is
  ok : ∀ (j : Nat) (x : Ins), is[j]? = some x → x.ok wide t j many
  ex : ExS st H2 H'
  sm : Strm H' st
theorem PIn.go {t : Nat} {H2 H5 H6 : Hp} {st p : Addr} {wide many : Nat} {as : List Addr} {is : List Ins} (np : p ≠ st) (h : PIn t H2 st p wide many as is H5) (e : ExS st H5 H6) (s : Strm H6 st) : PIn t H2 st p wide many as is H6 :=
  ⟨e _ _ np h.at_, Rows.exs h.sm e h.rows, h.ok, h.ex.trans e, s⟩
theorem PIn.push {t : Nat} {H2 H5 : Hp} {st p T : Addr} {wide many : Nat} {as : List Addr} {is : List Ins} {x : Ins} (hp : H2 p = none) (s2 : Strm H2 st) (h : PIn t H2 st p wide many as is H5) (hx : x.ok wide t is.length many) (hT : H5 T = none) :
    PIn t H2 st p wide many (as ++ [T]) (is ++ [x]) (upd (upd H5 T (.tup x.vs)) p (.lst (as.map V.ref ++ [.ref T]))) := by
  have np : p ≠ st := s2.ne hp
  have smT := Same.upd (o := .tup x.vs) hT
  have e1 : ExS st H2 (upd H5 T (.tup x.vs)) := h.ex.trans smT.exs
  refine ⟨?_, Rows.push h.rows h.at_ hT, fun j y hj => ?_, .off np hp e1, s2.off hp e1 (smT.strm h.sm)⟩
  · rw [upd_same, List.map_append]
    rfl
  · by_cases c : j < is.length
    · rw [List.getElem?_append_left c] at hj
      exact h.ok j y hj
    · have c2 : j = is.length := by
        have := (List.getElem?_eq_some_iff.mp hj).1
        rw [List.length_append] at this
        have h1 : ([x] : List Ins).length = 1 := rfl
        omega
      subst c2
      rw [List.getElem?_append_right (Nat.le_refl _), Nat.sub_self] at hj
      have : x = y := by simpa using hj
      rw [← this]
      exact hx
theorem PIn.done {t : Nat} {H2 H' : Hp} {st p : Addr} {wide many : Nat} {as : List Addr} {is : List Ins} (h : PIn t H2 st p wide many as is H') (hl : is.length = many) : PgAt H' p is ∧ PgOk wide t is :=
  ⟨⟨as, h.at_, h.rows⟩, fun i x hi => by
    rw [hl]
    exact h.ok i x hi⟩
theorem PIn.size {t : Nat} {H2 H' : Hp} {st p : Addr} {wide many : Nat} {as : List Addr} {is : List Ins} (h : PIn t H2 st p wide many as is H') : (as.map V.ref).length = is.length := by
  rw [List.length_map, Paired.len h.rows]
/-! ### the stream beside a world -/
structure Free (H : Hp) (st : Addr) (as : List Addr) : Prop where
  sm : Strm H st
  n1 : st ∉ as
  n2 : ∀ l r, H st = some (.lst (.ref l :: r)) → l ∉ as
theorem Free.draw {H H' : Hp} {st : Addr} {as : List Addr} (h : Free H st as) (e : ExS st H H') (s : Strm H' st) : Free H' st as := by
  refine ⟨s, h.n1, fun l r hl => ?_⟩
  obtain ⟨l0, ns, c, i, m, h1, _⟩ := h.sm
  obtain ⟨r', h'⟩ := e.hd l0 _ h1
  rw [hl] at h'
  have := (List.cons.inj (HO.lst.inj (Option.some.inj h'))).1
  rw [V.ref.inj this]
  exact h.n2 l0 _ h1
theorem Free.but {H H' : Hp} {st : Addr} {as : List Addr} (h : Free H st as) (e : ButL as H H') : Free H' st as := by
  obtain ⟨l0, ns, c, i, m, h1, h2, h3⟩ := h.sm
  have g := e st _ h.n1 h1
  refine ⟨⟨l0, ns, c, i, m, g, e l0 _ (h.n2 l0 _ h1) h2, h3⟩, h.n1, fun l r hl => ?_⟩
  rw [g] at hl
  have := (List.cons.inj (HO.lst.inj (Option.some.inj hl))).1
  rw [← V.ref.inj this]
  exact h.n2 l0 _ h1
theorem Free.same {H H' : Hp} {st : Addr} {as : List Addr} (h : Free H st as) (e : Same H H') : Free H' st as := h.but (e.butL (as := as))
theorem Free.of {H H' : Hp} {st : Addr} {as : List Addr} (s : Strm H st) (e : Same H H') (n : ∀ b ∈ as, H b = none) : Free H' st as := by
  obtain ⟨l0, ns, c, i, m, h1, h2, h3⟩ := s
  refine ⟨⟨l0, ns, c, i, m, e _ _ h1, e _ _ h2, h3⟩, fun z => ?_, fun l r hl z => ?_⟩
  · rw [n st z] at h1
    cases h1
  · rw [e _ _ h1] at hl
    have := V.ref.inj (List.cons.inj (HO.lst.inj (Option.some.inj hl))).1
    rw [← this] at z
    rw [n l0 z] at h2
    cases h2
theorem Free.sub {H : Hp} {st : Addr} {as bs : List Addr} (h : Free H st as) (e : ∀ b ∈ bs, b ∈ as) : Free H st bs := ⟨h.sm, fun z => h.n1 (e _ z), fun l r hl z => h.n2 l r hl (e _ z)⟩
theorem Free.add {H : Hp} {st b : Addr} {as : List Addr} (h : Free H st as) (n : H b = none) : Free H st (b :: as) := by
  obtain ⟨l0, ns, c, i, m, h1, h2, h3⟩ := h.sm
  refine ⟨h.sm, fun z => ?_, fun l r hl z => ?_⟩
  · rcases List.mem_cons.mp z with z | z
    · rw [z, n] at h1
      cases h1
    · exact h.n1 z
  · rcases List.mem_cons.mp z with z | z
    · rw [h1] at hl
      have := V.ref.inj (List.cons.inj (HO.lst.inj (Option.some.inj hl))).1
      rw [← z, ← this, h2] at n
      cases n
    · exact h.n2 l r hl z
theorem WAt.draw {H H' : Hp} {W Ah At As Ap st : Addr} {T : List Tr} (h : WAt H W Ah At As Ap T) (f : Free H st (W :: wL Ah At As Ap)) (e : ExS st H H') : WAt H' W Ah At As Ap T := h.but e.butL (fun b hb z => f.n1 (by rw [← List.mem_singleton.mp z]; exact hb))
theorem ButL.up {as bs : List Addr} {H H' : Hp} (e : ButL as H H') (h : ∀ b ∈ as, b ∈ bs) : ButL bs H H' := fun b o n x => e b o (fun z => n (h b z)) x
theorem Free.wld {H H' : Hp} {W Ah At As Ap st : Addr} (f : Free H st (W :: wL Ah At As Ap)) (e : ButL (wL Ah At As Ap) H H') : Free H' st (W :: wL Ah At As Ap) := f.but (e.up fun _ z => .tail _ z)
theorem PgAt.but1 {H H' : Hp} {p r : Addr} {is : List Ins} {ys : List V} (h : PgAt H p is) (n : p ≠ r) (e : ButL [r] H H') (hr : H r = Option.some (.lst ys)) : PgAt H' p is := by
  refine h.butL (fun z => n (List.mem_singleton.mp z)) e (fun b hb => ⟨ys, ?_⟩)
  rw [List.mem_singleton.mp hb]
  exact hr
theorem PgAt.wld {H H' : Hp} {W Ah At As Ap p : Addr} {T : List Tr} {is : List Ins} (hp : PgAt H p is) (h : WAt H W Ah At As Ap T) (e : ButL (wL Ah At As Ap) H H') : PgAt H' p is := by
  obtain ⟨as, h1, h2⟩ := hp
  exact ⟨as, e _ _ (not4 (h.refs h1)) h1, Paired.imp (fun a i q => e a _ (not4 (h.tup q)) q) h2⟩
theorem eqvAll_len : ∀ {xs ys : List PyData}, PyData.eqvAll xs ys = true → xs.length = ys.length
  | [], [], _ => rfl
  | x :: xs, y :: ys, h => by
    have h : (PyData.eqv x y && PyData.eqvAll xs ys) = true := h
    rw [Bool.and_eq_true] at h
    rw [List.length_cons, List.length_cons, eqvAll_len h.2]
  | [], _ :: _, h => by cases h
  | _ :: _, [], h => by cases h
/-- one more row at the end of a program -/
theorem pg_snoc {H : Hp} {p T : Addr} {is : List Ins} {xs : List V} {i : Ins} (h : PgAt H p is) (hp : H p = some (.lst xs)) (nT : H T = none) : PgAt (upd (upd H T (.tup i.vs)) p (.lst (xs ++ [.ref T]))) p (is ++ [i]) := by
  obtain ⟨as, h1, h2⟩ := h
  rw [hp] at h1
  have e := HO.lst.inj (Option.some.inj h1)
  subst e
  refine ⟨as ++ [T], by rw [upd_same, List.map_append]; rfl, Rows.push h2 hp nT⟩
end Nx

/-! Programs that know their own code. -/
namespace Nx
open PySem PySem.Spec PyProof.Rows L2
def cofP : List Ins := [.set 2 p100, .cons 2 2 1, .cons 2 3 2]
def othP (is : List Ins) : List Ins := cofP ++ (.cons 1 2 1 :: .set 2 .leaf :: is)
def wocP (is : List Ins) : List Ins := .set 1 (codeT (othP is)) :: othP is
def GoodW (is : List Ins) : Prop := Fits (wocP is) ∧ (codeT (wocP is)).sg.length ≤ 200000
theorem codeT_cons (i : Ins) (is : List Ins) : codeT (i :: is) = .node i.codeT (codeT is) := rfl
theorem GoodW.oth {is : List Ins} (h : GoodW is) : (codeT (othP is)).sg.length ≤ 200000 := by
  have h1 := h.2
  unfold wocP at h1
  rw [codeT_cons, node_len] at h1
  omega
theorem v_set2 : ([.str "set", .int 2, .str "100"] : List V) = (Ins.set 2 p100).vs := by
  have : p100.str = Str.ofString "100" := by decide +kernel
  show _ = [V.str (Str.ofString "set"), V.int ((2 : Nat) : Int), V.str p100.str]
  rw [this]
  rfl
theorem v_leaf : ([.str "set", .int 2, .str "0"] : List V) = (Ins.set 2 .leaf).vs := by
  show _ = [V.str (Str.ofString "set"), V.int ((2 : Nat) : Int), V.str Tr.leaf.str]
  rw [leaf_str]
  rfl
def besP (is : List Ins) : List Ins := .cons 0 1 0 :: .set 1 .leaf :: is
theorem v_leaf1 : ([.str "set", .int 1, .str "0"] : List V) = (Ins.set 1 .leaf).vs := by
  show _ = [V.str (Str.ofString "set"), V.int ((1 : Nat) : Int), V.str Tr.leaf.str]
  rw [leaf_str]
  rfl
theorem besP_small {is : List Ins} (hs : ∀ i ∈ is, i.small) : ∀ i ∈ besP is, i.small := fun i hi => by
  rcases List.mem_cons.mp hi with rfl | hi
  · exact ⟨by decide, by decide, by decide⟩
  · rcases List.mem_cons.mp hi with rfl | hi
    · exact ⟨by decide, by decide⟩
    · exact hs i hi
/-! ### sizes -/
def csz (i : Ins) : Nat := i.codeT.sg.length
def sumC (is : List Ins) : Nat := (is.map fun i => 1 + csz i).sum
theorem sumC_cons (i : Ins) (is : List Ins) : sumC (i :: is) = 1 + csz i + sumC is := by
  unfold sumC
  rw [List.map_cons, List.sum_cons]
theorem sumC_app (is js : List Ins) : sumC (is ++ js) = sumC is + sumC js := by
  unfold sumC
  rw [List.map_append, List.sum_append]
theorem codeT_sum : ∀ is : List Ins, (codeT is).sg.length = 1 + sumC is
  | [] => rfl
  | i :: is => by
    rw [codeT_cons, node_len, sumC_cons, codeT_sum is]
    show 1 + csz i + (1 + sumC is) = _
    omega
theorem sumC_le {m : Nat} : ∀ is : List Ins, (∀ i ∈ is, csz i ≤ m) → sumC is ≤ is.length * (m + 1)
  | [], _ => Nat.zero_le _
  | i :: r, h => by
    have h1 := sumC_le r fun j hj => h j (.tail _ hj)
    have h2 := h i (.head _)
    rw [sumC_cons, List.length_cons, Nat.add_mul]
    omega
theorem csz_set (a : Nat) (t : Tr) : csz (.set a t) = 2 * a + t.sg.length + 4 := by
  show (Tr.node (numT 0) (.node (numT a) t)).sg.length = _
  rw [node_len, node_len, numT_len, numT_len]
  omega
theorem csz_move (a b : Nat) : csz (.move a b) = 2 * a + 2 * b + 7 := by
  show (Tr.node (numT 1) (.node (numT a) (numT b))).sg.length = _
  rw [node_len, node_len, numT_len, numT_len, numT_len]
  omega
theorem csz_cons (a b c : Nat) : csz (.cons a b c) = 2 * a + 2 * b + 2 * c + 11 := by
  show (Tr.node (numT 2) (.node (numT a) (.node (numT b) (numT c)))).sg.length = _
  rw [node_len, node_len, node_len, numT_len, numT_len, numT_len, numT_len]
  omega
theorem csz_head (a b : Nat) : csz (.head a b) = 2 * a + 2 * b + 11 := by
  show (Tr.node (numT 3) (.node (numT a) (numT b))).sg.length = _
  rw [node_len, node_len, numT_len, numT_len, numT_len]
  omega
theorem csz_tail (a b : Nat) : csz (.tail a b) = 2 * a + 2 * b + 13 := by
  show (Tr.node (numT 4) (.node (numT a) (numT b))).sg.length = _
  rw [node_len, node_len, numT_len, numT_len, numT_len]
  omega
theorem csz_jump (a : Nat) (n : Int) : csz (.jump a n) ≤ 2 * a + 2 * n.natAbs + 19 := by
  show (Tr.node (numT 5) (.node (numT a) (.node (if n < 0 then .node .leaf .leaf else .leaf) (numT n.natAbs)))).sg.length ≤ _
  rw [node_len, node_len, node_len, numT_len, numT_len, numT_len]
  have : (if n < 0 then Tr.node .leaf .leaf else .leaf).sg.length ≤ 3 := by
    split
    · exact (by decide : (Tr.node .leaf .leaf).sg.length ≤ 3)
    · exact (by decide : Tr.leaf.sg.length ≤ 3)
  omega
/-- the width of a jump is small -/
def Ins.near (m : Nat) : Ins → Prop
  | .jump _ n => n.natAbs ≤ m
  | _ => True
theorem csz_le {i : Ins} {w m : Nat} (h : i.below w) (hn : i.near m) : csz i ≤ 6 * w + 2 * m + 19 + i.big := by
  cases i with
  | set a t =>
    have := h a (by simp [Ins.regs])
    rw [csz_set]
    show _ ≤ _ + t.sg.length
    omega
  | move a b =>
    have h1 := h a (by simp [Ins.regs])
    have h2 := h b (by simp [Ins.regs])
    rw [csz_move]
    omega
  | cons a b c =>
    have h1 := h a (by simp [Ins.regs])
    have h2 := h b (by simp [Ins.regs])
    have h3 := h c (by simp [Ins.regs])
    rw [csz_cons]
    omega
  | head a b =>
    have h1 := h a (by simp [Ins.regs])
    have h2 := h b (by simp [Ins.regs])
    rw [csz_head]
    omega
  | tail a b =>
    have h1 := h a (by simp [Ins.regs])
    have h2 := h b (by simp [Ins.regs])
    rw [csz_tail]
    omega
  | jump a n =>
    have h1 := h a (by simp [Ins.regs])
    have h2 : n.natAbs ≤ m := hn
    have := csz_jump a n
    omega
theorem PgOk.near {w k : Nat} {is : List Ins} (h : PgOk w k is) : ∀ i ∈ is, i.near is.length := fun i hi => by
  obtain ⟨j, hj⟩ := List.getElem?_of_mem hi
  have h1 := h j i hj
  have h2 := (List.getElem?_eq_some_iff.mp hj).1
  cases i with
  | jump a n =>
    obtain ⟨_, a2, a3⟩ := h1
    show n.natAbs ≤ _
    omega
  | _ => trivial
theorem treesSum_sumC : ∀ is : List Ins, treesSum is ≤ sumC is
  | [] => Nat.zero_le _
  | i :: r => by
    have ih := treesSum_sumC r
    rw [sumC_cons]
    cases i with
    | set a t =>
      have : treesSum (.set a t :: r) = t.sg.length + treesSum r := rfl
      rw [this, csz_set]
      omega
    | move a b => exact Nat.le_trans ih (Nat.le_add_left _ _)
    | cons a b c => exact Nat.le_trans ih (Nat.le_add_left _ _)
    | head a b => exact Nat.le_trans ih (Nat.le_add_left _ _)
    | tail a b => exact Nat.le_trans ih (Nat.le_add_left _ _)
    | jump a b => exact Nat.le_trans ih (Nat.le_add_left _ _)
theorem sumC_oth (is : List Ins) : sumC (othP is) = 90 + sumC is := by
  have e1 : sumC cofP = 60 := by decide
  have e2 : sumC (.cons 1 2 1 :: .set 2 .leaf :: is) = sumC is + 30 := by
    rw [sumC_cons, sumC_cons, csz_cons, csz_set, show Tr.leaf.sg.length = 1 from rfl]
    omega
  unfold othP
  rw [sumC_app, e1, e2]
  omega
theorem good_of {is : List Ins} (hl : is.length ≤ 594) (hs : sumC is ≤ 95000) : GoodW is := by
  have h1 := sumC_oth is
  have h2 := codeT_sum (othP is)
  have h3 : treesSum (wocP is) = (codeT (othP is)).sg.length + treesSum (othP is) := rfl
  have h4 := treesSum_sumC (othP is)
  refine ⟨⟨?_, ?_⟩, ?_⟩
  · show is.length + 6 ≤ 600
    omega
  · rw [h3]
    omega
  · rw [codeT_sum]
    unfold wocP
    rw [sumC_cons, csz_set]
    omega
theorem sumC_bes (is : List Ins) : sumC (besP is) = 22 + sumC is := by
  unfold besP
  rw [sumC_cons, sumC_cons, csz_cons, csz_set, show Tr.leaf.sg.length = 1 from rfl]
  omega
theorem woc_inj {a b : List Ins} (h : wocP a = wocP b) : a = b := by
  have h1 := (List.cons.inj h).2
  have h2 := List.append_cancel_left h1
  exact (List.cons.inj (List.cons.inj h2).2).2
theorem bes_inj {a b : List Ins} (h : besP a = besP b) : a = b := (List.cons.inj (List.cons.inj h).2).2
/-! ### programs as data are the same only if they are -/
theorem eqvAll_cons {x y : PyData} {xs ys : List PyData} : PyData.eqvAll (x :: xs) (y :: ys) = (PyData.eqv x y && PyData.eqvAll xs ys) := rfl
theorem word_eq {i j : Ins} (h : i.word = j.word) : i.no = j.no := by
  have hi := (word_at i).2
  have hj := (word_at j).2
  rw [h] at hi
  omega
theorem Ins.eqv_eq {i j : Ins} (h : PyData.eqv i.data j.data = true) : i = j := by
  have h : PyData.eqvAll (.str i.word :: i.dparts) (.str j.word :: j.dparts) = true := h
  rw [eqvAll_cons, Bool.and_eq_true] at h
  have hw : (i.word == j.word) = true := h.1
  have hn := word_eq (eq_of_beq hw)
  have h := h.2
  have two : ∀ {a b d e : Nat}, ((a : Int) == (d : Int) && ((b : Int) == (e : Int) && true)) = true → a = d ∧ b = e := fun h => by
    simp only [Bool.and_true, Bool.and_eq_true, beq_iff_eq] at h
    omega
  cases i with
  | set a t =>
    cases j with
    | set b u =>
      have h : ((a : Int) == (b : Int) && (t.str == u.str && true)) = true := h
      simp only [Bool.and_true, Bool.and_eq_true, beq_iff_eq] at h
      have h1 : a = b := by omega
      rw [h1, Tr.str_inj h.2]
    | _ => cases hn
  | move a b =>
    cases j with
    | move d e =>
      obtain ⟨rfl, rfl⟩ := two h
      rfl
    | _ => cases hn
  | cons a b c =>
    cases j with
    | cons d e f =>
      have h : ((a : Int) == (d : Int) && ((b : Int) == (e : Int) && ((c : Int) == (f : Int) && true))) = true := h
      simp only [Bool.and_true, Bool.and_eq_true, beq_iff_eq] at h
      have h1 : a = d := by omega
      have h2 : b = e := by omega
      have h3 : c = f := by omega
      rw [h1, h2, h3]
    | _ => cases hn
  | head a b =>
    cases j with
    | head d e =>
      obtain ⟨rfl, rfl⟩ := two h
      rfl
    | _ => cases hn
  | tail a b =>
    cases j with
    | tail d e =>
      obtain ⟨rfl, rfl⟩ := two h
      rfl
    | _ => cases hn
  | jump a b =>
    cases j with
    | jump d e =>
      have h : ((a : Int) == (d : Int) && (b == e && true)) = true := h
      simp only [Bool.and_true, Bool.and_eq_true, beq_iff_eq] at h
      have h1 : a = d := by omega
      rw [h1, h.2]
    | _ => cases hn
theorem eqvAll_prog : ∀ {a b : List Ins}, PyData.eqvAll (a.map Ins.data) (b.map Ins.data) = true → a = b
  | [], [], _ => rfl
  | i :: a, j :: b, h => by
    rw [List.map_cons, List.map_cons, eqvAll_cons, Bool.and_eq_true] at h
    rw [Ins.eqv_eq h.1, eqvAll_prog h.2]
  | [], _ :: _, h => by cases h
  | _ :: _, [], h => by cases h
theorem eqv_prog (a b : List Ins) : PyData.eqv (progD a) (progD b) = decide (a = b) := by
  by_cases c : a = b
  · subst c
    rw [eqv_same (progD_shaped _), decide_eq_true rfl]
  · rw [decide_eq_false c]
    cases e : PyData.eqv (progD a) (progD b) with
    | false => rfl
    | true => exact absurd (eqvAll_prog e) c
theorem good_bes {is : List Ins} (hl : is.length ≤ 590) (hs : sumC is ≤ 90000) : GoodW (besP is) := good_of (by show is.length + 2 ≤ 594; omega) (by rw [sumC_bes]; omega)
theorem bes_big {is : List Ins} (h : 592 < is.length) : ¬ GoodW (besP is) := fun g => by
  have : is.length + 8 ≤ 600 := g.1.1
  omega
theorem small_of {i : Ins} {w : Nat} (h : i.below w) (hw : w ≤ 1000) (hn : i.near 999) (hb : i.big ≤ 200000) : i.small := by
  cases i with
  | set a t => exact ⟨Nat.lt_of_lt_of_le (h a (by simp [Ins.regs])) hw, hb⟩
  | move a b => exact ⟨Nat.lt_of_lt_of_le (h a (by simp [Ins.regs])) hw, Nat.lt_of_lt_of_le (h b (by simp [Ins.regs])) hw⟩
  | cons a b c => exact ⟨Nat.lt_of_lt_of_le (h a (by simp [Ins.regs])) hw, Nat.lt_of_lt_of_le (h b (by simp [Ins.regs])) hw, Nat.lt_of_lt_of_le (h c (by simp [Ins.regs])) hw⟩
  | head a b => exact ⟨Nat.lt_of_lt_of_le (h a (by simp [Ins.regs])) hw, Nat.lt_of_lt_of_le (h b (by simp [Ins.regs])) hw⟩
  | tail a b => exact ⟨Nat.lt_of_lt_of_le (h a (by simp [Ins.regs])) hw, Nat.lt_of_lt_of_le (h b (by simp [Ins.regs])) hw⟩
  | jump a n =>
    have : n.natAbs ≤ 999 := hn
    exact ⟨Nat.lt_of_lt_of_le (h a (by simp [Ins.regs])) hw, by omega⟩
theorem Ins.near_le {i : Ins} {m n : Nat} (h : i.near m) (e : m ≤ n) : i.near n := by
  cases i with
  | jump a k =>
    have : k.natAbs ≤ m := h
    show k.natAbs ≤ n
    omega
  | _ => trivial
theorem rows_flat {H : Hp} {as : List Addr} {is : List Ins} (h : Rows H as is) : ∀ n : Nat, Rows H (List.replicate n as).flatten (List.replicate n is).flatten
  | 0 => .nil
  | n + 1 => by
    rw [List.replicate_succ, List.replicate_succ, List.flatten_cons, List.flatten_cons]
    exact Paired.app h (rows_flat h n)
theorem pg_repl {H : Hp} {p : Addr} {is : List Ins} (h : PgAt H p is) : ∃ xs : List V, H p = some (.lst xs) ∧ xs.length = is.length ∧ ∀ (n : Nat) (r : Addr), H r = none → PgAt (upd H r (.lst (List.replicate n xs).flatten)) r (List.replicate n is).flatten := by
  obtain ⟨as, h1, h2⟩ := h
  refine ⟨_, h1, by rw [List.length_map, Paired.len h2], fun n r nr => ⟨(List.replicate n as).flatten, ?_, Rows.same (Same.upd nr) (rows_flat h2 n)⟩⟩
  rw [upd_same, List.map_flatten, List.map_replicate]
theorem flat_one {α : Type} (x : α) : ∀ n : Nat, (List.replicate n [x]).flatten = List.replicate n x
  | 0 => rfl
  | n + 1 => by
    rw [List.replicate_succ, List.flatten_cons, flat_one x n]
    rfl
theorem flat_len {α : Type} (xs : List α) : ∀ n : Nat, (List.replicate n xs).flatten.length = n * xs.length
  | 0 => (Nat.zero_mul _).symm
  | n + 1 => by
    rw [List.replicate_succ, List.flatten_cons, List.length_append, flat_len xs n, Nat.add_mul, Nat.one_mul, Nat.add_comm]
end Nx

/-! A dict of what was seen: its keys are nested tuples. -/
namespace Nx
open PySem PySem.Spec PyProof.Rows L2
mutual
/-- a nested key as a value -/
inductive NkV (H : Hp) : NestedKey → V → Prop where
  | num (i : Int) : NkV H (.num i) (.int i)
  | text (x : Str) : NkV H (.text x) (.str x)
  | tup {ks : List NestedKey} {vs : List V} {a : Addr} : H a = some (.tup vs) → NkAll H ks vs → NkV H (.tup ks) (.ref a)
inductive NkAll (H : Hp) : List NestedKey → List V → Prop where
  | nil : NkAll H [] []
  | cons {k : NestedKey} {v : V} {ks : List NestedKey} {vs : List V} : NkV H k v → NkAll H ks vs → NkAll H (k :: ks) (v :: vs)
end
section
variable {P : Program} {w : World} {H H' : Hp} {h : Heap} {a : Addr}
mutual
theorem NkV.is (ok : HOk P w H h) : ∀ {k : NestedKey} {v : V} {u : Value}, NkV H k v → RelV v u → NestedIs h k u
  | _, _, u, .num i, r => by
    obtain ⟨t, rfl⟩ := (show ∃ t, u = Value.int i t from r)
    exact .int i t
  | _, _, u, .text x, r => by
    obtain ⟨t, rfl⟩ := (show ∃ t, u = Value.str x t from r)
    exact .text x t
  | _, _, u, @NkV.tup _ ks vs a e q, r => by
    cases (show u = Value.ref a from r)
    obtain ⟨_, its, rv, o, h1, h2, n, h3⟩ := (show ObjOk P w H h a (.tup vs) from ok a _ e)
    exact .tup h1 h2 h3 (by simpa using NkAll.is ok q rv)
theorem NkAll.is (ok : HOk P w H h) : ∀ {ks : List NestedKey} {vs : List V} {us : List Value}, NkAll H ks vs → Vals vs us → NestedAll h ks us
  | _, _, us, .nil, r => by
    cases r
    exact .nil
  | _, _, us, .cons q t, r => by
    cases r with
    | cons r1 r2 => exact .cons (NkV.is ok q r1) (NkAll.is ok t r2)
end
mutual
theorem NkV.mono (e : ∀ b xs, H b = some (.tup xs) → H' b = some (.tup xs)) : ∀ {k : NestedKey} {v : V}, NkV H k v → NkV H' k v
  | _, _, .num i => .num i
  | _, _, .text x => .text x
  | _, _, .tup q t => .tup (e _ _ q) (NkAll.mono e t)
theorem NkAll.mono (e : ∀ b xs, H b = some (.tup xs) → H' b = some (.tup xs)) : ∀ {ks : List NestedKey} {vs : List V}, NkAll H ks vs → NkAll H' ks vs
  | _, _, .nil => .nil
  | _, _, .cons q t => .cons (NkV.mono e q) (NkAll.mono e t)
end
def seenE (P : Program) (w : World) (a : Addr) (xs : List (NestedKey × Addr × Value)) : Heap → Prop := fun h => (a == sysModules) = false ∧ xs.length ≤ sizeLine ∧ (xs.map (·.1)).Nodup ∧
  ∃ o es ep, h.get? a = some o ∧ o.ExactDict ∧ o.data = .dict es ep ∧ es.toList = xs.map (entryOfKey (nestedKind P w))
/-- at a stands a dict with these keys -/
def SeenAt (P : Program) (w : World) (H : Hp) (a : Addr) (ks : List NestedKey) : Prop := ∃ xs : List (NestedKey × Addr × Value), xs.map (·.1) = ks ∧ H a = some (.ext (seenE P w a xs)) ∧ ∀ x ∈ xs, NkV H x.1 (.ref x.2.1) ∧ x.1.depth ≤ 8
theorem SeenAt.ob {ks : List NestedKey} (s : SeenAt P w H a ks) : ∃ φ, H a = some (.ext φ) := by
  obtain ⟨xs, _, h, _⟩ := s
  exact ⟨_, h⟩
theorem SeenAt.mono {ks : List NestedKey} (s : SeenAt P w H a ks) (ea : H' a = H a) (e : ∀ b xs, H b = some (.tup xs) → H' b = some (.tup xs)) : SeenAt P w H' a ks := by
  obtain ⟨xs, h1, h2, h3⟩ := s
  exact ⟨xs, h1, ea.trans h2, fun x hx => ⟨(h3 x hx).1.mono e, (h3 x hx).2⟩⟩
theorem SeenAt.same {ks : List NestedKey} (s : SeenAt P w H a ks) (e : Same H H') : SeenAt P w H' a ks := by
  obtain ⟨φ, q⟩ := s.ob
  exact s.mono (by rw [q]; exact e _ _ q) fun b xs z => e b _ z
theorem SeenAt.butL {ks : List NestedKey} {as : List Addr} (s : SeenAt P w H a ks) (e : ButL as H H') (n : NoT H as) (na : a ∉ as) : SeenAt P w H' a ks := by
  obtain ⟨φ, q⟩ := s.ob
  exact s.mono (by rw [q]; exact e _ _ na q) fun b xs z => e b _ (fun hb => (n b hb).1 _ z) z
theorem SeenAt.of (ok : HOk P w H h) {ks : List NestedKey} (s : SeenAt P w H a ks) : (a == sysModules) = false ∧ ks.length ≤ sizeLine ∧ ∃ xs : List (NestedKey × Addr × Value), xs.map (·.1) = ks ∧ (∀ x ∈ xs, NkV H x.1 (.ref x.2.1) ∧ x.1.depth ≤ 8) ∧ h.DictOfH (nestedKind P w) a xs := by
  obtain ⟨xs, h1, h2, h3⟩ := s
  obtain ⟨⟨e1, e2, e3, o, es, ep, g1, g2, g3, g4⟩, _⟩ := (show ObjOk P w H h a (.ext (seenE P w a xs)) from ok a _ h2)
  exact ⟨e1, by rw [← h1, List.length_map]; exact e2, xs, h1, h3, o, es, ep, g1, g2, g3, g4, fun x hx => ⟨(h3 x hx).1.is ok rfl, (h3 x hx).2⟩, e3⟩
theorem seenE_ok {xs : List (NestedKey × Addr × Value)} (h0 : seenE P w a xs h) : ObjOk P w H h a (.ext (seenE P w a xs)) := by
  obtain ⟨e1, e2, e3, o, es, ep, g1, g⟩ := id h0
  refine ⟨h0, ⟨o, g1⟩, fun h1 h2 q k => ?_⟩
  obtain ⟨e1, e2, e3, o, es, ep, g1, g⟩ := q
  exact ⟨e1, e2, e3, o, es, ep, k _ g1, g⟩
end
theorem atKey_some {xs : List (NestedKey × Addr × Value)} {k : NestedKey} : (atKey xs k).isSome = decide (k ∈ xs.map (·.1)) := by
  unfold atKey
  rw [Option.isSome_map, Bool.eq_iff_iff, List.find?_isSome, decide_eq_true_eq]
  constructor
  · rintro ⟨x, hx, e⟩
    exact List.mem_map.mpr ⟨x, hx, of_decide_eq_true e⟩
  · intro z
    obtain ⟨x, hx, e⟩ := List.mem_map.mp z
    exact ⟨x, hx, decide_eq_true e⟩
/-- {} -/
def tDNewN (P : Program) (w : World) : TE := fun _ H Q => ∀ p H', H p = none → Same H H' → SeenAt P w H' p [] → Q (.ref p) H'
/-- y in d -/
def tSeenIn (P : Program) (w : World) (ty td : TE) : TE := fun σ H Q => ty σ H fun y H1 => td σ H1 fun x H2 => ∃ a ks k, x = .ref a ∧ SeenAt P w H2 a ks ∧ NkV H2 k y ∧ (∃ b, y = .ref b) ∧ k.depth ≤ 8 ∧ Q (.bl (decide (k ∈ ks))) H2
/-- d[y] = v, y new -/
def sSeenPut (P : Program) (w : World) (td ty tv : TE) : TS := fun D σ H => tv σ H fun v H1 => td σ H1 fun x H2 => ty σ H2 fun y H3 => ∃ a ks k, x = .ref a ∧ SeenAt P w H3 a ks ∧ NkV H3 k y ∧ (∃ b, y = .ref b) ∧ k.depth ≤ 8 ∧ k ∉ ks ∧ ks.length < sizeLine ∧
  ∀ H4, ButL [a] H3 H4 → SeenAt P w H4 a (ks ++ [k]) → D.nx σ H4
section
variable {X : Cx} {pos pos' : Pos} {o i value : Expr} {td ty tv : TE}
theorem pe_dnewN : PE X (.Dict [] [] pos) (tDNewN X.prog X.w) := ⟨fun pins s σ H Q I h => by
  have hf := I.hok.fresh (Nat.le_refl s.heap.objs.size)
  have h0 : seenE X.prog X.w s.heap.objs.size [] (s.heap.push { cls := .type "dict", data := .dict #[] }) := ⟨beq_eq_false_iff_ne.mpr (Ne.symm (Nat.ne_of_lt I.big)), Nat.zero_le _, List.nodup_nil, _, #[], 0, Heap.get?_push_size _ rfl, ⟨rfl, rfl, rfl⟩, rfl, rfl⟩
  refine wpAny_Dict_empty ⟨.ref s.heap.objs.size, _, I.laid (a := s.heap.objs.size) (o := .ext (seenE X.prog X.w s.heap.objs.size [])) (t' := s.toks) (fun _ _ q => Heap.get?_push_of_some _ q) (Nat.le_refl _) (seenE_ok h0), rfl, h _ _ hf (Same.upd hf) ⟨[], rfl, upd_same, fun x hx => by cases hx⟩⟩⟩
theorem pc_seen (hu : X.A.units + 65 < cLine) (hi : PE X i ty) (ho : PE X o td) : PC X .In i o (tSeenIn X.prog X.w ty td) := by
  refine ⟨fun pins s σ H Q I h => ?_⟩
  refine thn (hi.run pins s σ H _ I h) fun iv s1 ⟨y, H1, I1, ry, q1⟩ => thn (ho.run pins s1 σ H1 _ I1 q1) fun u s2 ⟨x, H2, I2, rx, a, ks, k, ex, g, hk, ⟨b, eb⟩, hd, q2⟩ => ?_
  subst ex eb
  obtain rfl : u = Value.ref a := rx
  obtain rfl : iv = Value.ref b := ry
  obtain ⟨e1, e2, xs, e3, _, dd⟩ := g.of I2.hok
  refine wpAny_in_heap (knd := nestedKind X.prog X.w) (by show X.A.in1.units + 8 < cLine; rw [Around.in1_units]; omega) ⟨hk.is I2.hok rfl, hd⟩ e1 dd ?_
  rw [atKey_some, e3]
  exact ⟨.bl _, H2, I2.tok _, rfl, q2⟩
theorem ps_seen (hu : X.A.units + 65 < cLine) (ho : PE X o td) (hi : PE X i ty) (hv : PE X value tv) (hs : swapsWith value (some (.Subscript o i pos')) pos.line X.env = pure false) :
    PS X (.Assign [.Subscript o i pos'] value pos) (sSeenPut X.prog X.w td ty tv) := by
  refine ⟨fun pins s σ H D I h => ?_⟩
  refine wpAny_Assign_Subscript (thn (hv.run pins s σ H _ I h) fun r s1 ⟨v, H1, I1, rv, q1⟩ => thn (ho.run pins s1 σ H1 _ I1 q1) fun u s2 ⟨x, H2, I2, rx, q2⟩ => thn (hi.run pins s2 σ H2 _ I2 q2) fun iv s3 ⟨y, H3, I3, ry, a, ks, k, ex, g, hk, ⟨b, eb⟩, hd, hno, hlt, q3⟩ => ?_) hs
  subst ex eb
  obtain rfl : u = Value.ref a := rx
  obtain rfl : iv = Value.ref b := ry
  obtain ⟨φ, hφ⟩ := g.ob
  obtain ⟨e1, e2, xs, e3, e4, dd⟩ := g.of I3.hok
  have xl : xs.length = ks.length := by rw [← e3, List.length_map]
  have hno2 : (atKey xs k).isSome = false := by
    rw [atKey_some, e3]
    exact decide_eq_false hno
  have est : storedH xs k b r = xs ++ [(k, b, r)] := by
    unfold storedH
    rw [if_neg (by rw [hno2]; exact Bool.false_ne_true)]
  refine wpAny_setItem_heap (knd := nestedKind X.prog X.w) (hsz := by rw [xl]; exact e2) (by show X.A.in1.units + 8 < cLine; rw [Around.in1_units]; omega) ⟨hk.is I3.hok rfl, hd⟩ dd fun h' dd' hsb => ?_
  rw [est] at dd'
  obtain ⟨q, es, ep, hq, h2, h3, h4, _, h5⟩ := dd'
  have h0 : seenE X.prog X.w a (xs ++ [(k, b, r)]) h' := ⟨e1, by rw [List.length_append, xl]; exact hlt, h5, q, es, ep, hq, h2, h3, h4⟩
  have tup : ∀ c ys, H3 c = some (.tup ys) → upd H3 a (.ext (seenE X.prog X.w a (xs ++ [(k, b, r)]))) c = some (.tup ys) := fun c ys ec => by
    rw [upd_ne (ne_of ec hφ (fun z => nomatch z))]
    exact ec
  refine ⟨σ, _, d_write (t' := s3.toks + (nestedKind X.prog X.w).draws k) I3 (by rw [hφ]; exact True.intro) hsb ⟨q, hq⟩ (seenE_ok h0), q3 _ (ButL.upd (by simp)) ⟨xs ++ [(k, b, r)], by rw [List.map_append, e3]; rfl, upd_same, fun x hx => ?_⟩⟩
  rcases List.mem_append.mp hx with hx | hx
  · exact ⟨(e4 x hx).1.mono tup, (e4 x hx).2⟩
  · rw [List.mem_singleton.mp hx]
    exact ⟨hk.mono tup, hd⟩
end
/-! ### rows -/
theorem Ins.kindR (x : Ins) : (∃ r u, (x.word = Str.ofString "set" ∨ x.word = Str.ofString "jump") ∧ x.regs = [r] ∧ x.vs = [.str x.word, .int (r : Nat), u]) ∨ (¬ x.word = Str.ofString "set" ∧ ¬ x.word = Str.ofString "jump" ∧ x.vs = .str x.word :: natsV x.regs ∧ 2 ≤ x.regs.length ∧ x.regs.length ≤ 3) := by
  cases x with
  | set r t => exact .inl ⟨r, _, .inl rfl, rfl, rfl⟩
  | jump r n => exact .inl ⟨r, _, .inr rfl, rfl, rfl⟩
  | move r b => exact .inr ⟨(by decide +kernel : ¬ Str.ofString "move" = Str.ofString "set"), (by decide +kernel : ¬ Str.ofString "move" = Str.ofString "jump"), rfl, (by show 2 ≤ 2; decide), (by show 2 ≤ 3; decide)⟩
  | cons r b c => exact .inr ⟨(by decide +kernel : ¬ Str.ofString "cons" = Str.ofString "set"), (by decide +kernel : ¬ Str.ofString "cons" = Str.ofString "jump"), rfl, (by show 2 ≤ 3; decide), (by show 3 ≤ 3; decide)⟩
  | head r b => exact .inr ⟨(by decide +kernel : ¬ Str.ofString "head" = Str.ofString "set"), (by decide +kernel : ¬ Str.ofString "head" = Str.ofString "jump"), rfl, (by show 2 ≤ 2; decide), (by show 2 ≤ 3; decide)⟩
  | tail r b => exact .inr ⟨(by decide +kernel : ¬ Str.ofString "tail" = Str.ofString "set"), (by decide +kernel : ¬ Str.ofString "tail" = Str.ofString "jump"), rfl, (by show 2 ≤ 2; decide), (by show 2 ≤ 3; decide)⟩
theorem cut1_no {x : V} {l : List V} {hi : Option Int} : ¬ (HT.sIx (x :: l).length 0 (some (1 : Int)) = 0 ∧ HT.sIx (x :: l).length (x :: l).length hi = (x :: l).length) := fun h => by
  have h1 := h.1
  rw [show HT.sIx (x :: l).length 0 (some (1 : Int)) = min 1 (x :: l).length from HT.sIx_nat _ _ 1, List.length_cons] at h1
  omega
theorem _root_.L2.SqT.tyx {K : PySem.W.Frag} {H : Hp} {a : Addr} {xs : List V} (h : SqT K H a xs) : TyX K H (.ref a) (.type "tuple") := by
  rcases h with (h | ⟨o, h⟩) | ⟨o, its, n, h1, h2, _⟩
  · exact .base (.tup h)
  · exact .fTuple h
  · exact .kTuple h1 h2
theorem WAt.ext {H : Hp} {W Ah At As Ap : Addr} {T : List Tr} (h : WAt H W Ah At As Ap T) {b : Addr} {φ : Heap → Prop} (hb : H b = some (.ext φ)) : b ∉ W :: wL Ah At As Ap := fun z => by
  obtain ⟨hs, ts, h1, h2, h3, g⟩ := h.tb.get
  obtain ⟨kvs, h4, _⟩ := h.ps
  have h5 := h.ob
  simp only [wL, List.mem_cons, List.not_mem_nil, or_false] at z
  rcases z with rfl | rfl | rfl | rfl | rfl
  · rw [h5] at hb; cases hb
  · rw [h1] at hb; cases hb
  · rw [h2] at hb; cases hb
  · rw [h3] at hb; cases hb
  · rw [h4] at hb; cases hb
/-! ### states that were seen -/
/-- the run comes back to a state, without too large a step -/
def Loops (is : List Ins) (x : Tr) : Prop := ∃ (n m k : Nat) (rs : List Tr), St is n 0 (rs0 x) k rs ∧ St is (m + 1) k rs k rs
def keyN (k : Nat) (ns : List Nat) : NestedKey := .tup [.num k, .tup (ns.map fun n : Nat => .num n)]
theorem nk_nats (H : Hp) : ∀ ns : List Nat, NkAll H (ns.map fun n : Nat => .num n) (natsV ns)
  | [] => .nil
  | n :: ns => .cons (.num _) (nk_nats H ns)
theorem depth_nums : ∀ ns : List Nat, NestedKey.depthAll (ns.map fun n : Nat => .num n) = 0
  | [] => rfl
  | n :: ns => by
    show max 0 (NestedKey.depthAll (ns.map fun n : Nat => .num n)) = 0
    rw [depth_nums ns]
    rfl
theorem keyN_deep (k : Nat) (ns : List Nat) : (keyN k ns).depth ≤ 8 := by
  show max 0 (max (NestedKey.depthAll (ns.map fun n : Nat => .num n) + 1) 0) + 1 ≤ 8
  rw [depth_nums]
  decide
theorem numK_inj : ∀ {ns ns' : List Nat}, (ns.map fun n : Nat => NestedKey.num n) = (ns'.map fun n : Nat => NestedKey.num n) → ns = ns'
  | [], [], _ => rfl
  | [], _ :: _, h => by cases h
  | _ :: _, [], h => by cases h
  | n :: ns, a :: b, h => by
    obtain ⟨g1, g2⟩ := List.cons.inj h
    have g1 := NestedKey.num.inj g1
    rw [numK_inj g2]
    congr 1
    omega
theorem keyN_inj {k k' : Nat} {ns ns' : List Nat} (h : keyN k ns = keyN k' ns') : k = k' ∧ ns = ns' := by
  have h := NestedKey.tup.inj h
  obtain ⟨h1, h2⟩ := List.cons.inj h
  have h1 := NestedKey.num.inj h1
  have h2 := NestedKey.tup.inj (List.cons.inj h2).1
  exact ⟨by omega, numK_inj h2⟩
theorem nums_inj {T : List Tr} {ns : List Nat} {rs us : List Tr} (h : Nums T ns rs) (g : Nums T ns us) : rs = us := by
  unfold Nums at h g
  induction h generalizing us with
  | nil => cases g; rfl
  | cons r t ih =>
    cases g with
    | cons r2 t2 =>
      rw [ih t2]
      rw [r] at r2
      rw [Option.some.inj r2]
theorem nums_ext {T T' : List Tr} {ns : List Nat} {rs : List Tr} (h : Nums T ns rs) (e : Ext T T') : Nums T' ns rs := Paired.imp (fun n t q => e n t q) h
theorem nums_mem {T : List Tr} {ns : List Nat} {rs : List Tr} (h : Nums T ns rs) {n : Nat} (hn : n ∈ ns) : ∃ t, T[n]? = some t := by
  unfold Nums at h
  induction h with
  | nil => cases hn
  | cons r t ih =>
    rcases List.mem_cons.mp hn with rfl | hn
    · exact ⟨_, r⟩
    · exact ih hn
/-- all keys are states of before, at least m steps -/
def Past (is : List Ins) (x : Tr) (T : List Tr) (ks : List NestedKey) (m : Nat) (k : Nat) (rs : List Tr) : Prop := ∀ key ∈ ks, ∃ (k' : Nat) (ns' : List Nat) (rs' : List Tr) (n' m' : Nat), key = keyN k' ns' ∧ Nums T ns' rs' ∧ St is n' 0 (rs0 x) k' rs' ∧ St is (m' + m) k' rs' k rs
def sizeV (T : List Tr) : V → V
  | .int n => .int (((T[n.toNat]?.map fun t => t.sg.length).getD 0 : Nat) : Int)
  | v => v
theorem sizeV_at {T : List Tr} {n : Nat} {t : Tr} (h : T[n]? = some t) : sizeV T (.int n) = .int (t.sg.length : Nat) := by
  show V.int (((T[((n : Nat) : Int).toNat]?.map fun t => t.sg.length).getD 0 : Nat) : Int) = _
  rw [Int.toNat_natCast, h]
  rfl
theorem sizeV_all {T : List Tr} {ns : List Nat} {rs : List Tr} (h : Nums T ns rs) : (natsV ns).map (sizeV T) = (rs.map fun t => (t.sg.length : Int)).map V.int := by
  unfold Nums at h
  induction h with
  | nil => rfl
  | @cons n t _ _ r _ ih =>
    show sizeV T (.int n) :: _ = V.int (t.sg.length : Int) :: _
    rw [sizeV_at r]
    exact congrArg _ ih
theorem NoT.ext {H : Hp} {b : Addr} {φ : Heap → Prop} {as : List Addr} (h : H b = some (.ext φ)) (n : NoT H as) : NoT H (b :: as) := fun c hc => by
  rcases List.mem_cons.mp hc with rfl | hc
  · rw [h]
    exact ⟨fun _ z => (by cases z), fun _ _ z => (by cases z)⟩
  · exact n c hc
end Nx

/-! What programs that know their own code do. -/
namespace Nx
open PySem PySem.Spec PyProof.Rows L2
section
variable {is A B : List Ins} {n m k k1 k2 : Nat} {rs rsA us vs : List Tr} {x y : Tr}
/-- a run to the end passes each of its states -/
theorem St.rest (t : St is m k rs k1 rsA) : ∀ {n : Nat}, St is n k rs is.length us → m ≤ n ∧ St is (n - m) k1 rsA is.length us := by
  induction t with
  | refl k rs => exact fun s => ⟨Nat.zero_le _, s⟩
  | @step m k k1 k' rs rs' i h g e t ih =>
    intro n s
    generalize hL : is.length = L at s
    cases s with
    | refl =>
      subst hL
      rw [List.getElem?_eq_none (Nat.le_refl _)] at h
      cases h
    | @step n _ k3 _ _ _ i2 h2 g2 e2 t2 =>
      subst hL
      rw [h] at h2
      cases h2
      rw [e] at e2
      have : k1 = k3 := by omega
      subst this
      obtain ⟨a, b⟩ := ih t2
      exact ⟨by omega, b.cast (by omega) rfl⟩
theorem St.end0 (s : St is n is.length rs k us) : n = 0 := by
  generalize hL : is.length = L at s
  cases s with
  | refl => rfl
  | step h _ _ _ =>
    subst hL
    rw [List.getElem?_eq_none (Nat.le_refl _)] at h
    cases h
theorem St.times (s : St is (m + 1) k rs k rs) : ∀ N : Nat, St is (N * (m + 1)) k rs k rs
  | 0 => (St.refl k rs).cast (Nat.zero_mul _).symm rfl
  | N + 1 => ((s.times N).trans s).cast (by rw [Nat.add_mul, Nat.one_mul]) rfl
/-- a run that comes back to a state has no end -/
theorem Loops.no (h : Loops is x) : ¬ St is n 0 (rs0 x) is.length us := fun s => by
  obtain ⟨a, m, k, rs, s1, s2⟩ := h
  obtain ⟨h1, h2⟩ := (s1.trans (s2.times (n + 1))).rest s
  have : n + 1 ≤ (n + 1) * (m + 1) := Nat.le_mul_of_pos_right _ (Nat.succ_pos _)
  omega
theorem Loops.none (hJ : JOk is) (h : Loops is x) {d : Nat} {us : List Tr} (e : go is n 0 (rs0 x) = some (is.length, us, d)) : False := h.no (go_st hJ _ _ _ e)
def preP (js : List Ins) : List Ins := [.set 1 (codeT (othP js)), .set 2 p100, .cons 2 2 1, .cons 2 3 2, .cons 1 2 1, .set 2 .leaf]
theorem woc_is (js : List Ins) : wocP js = preP js ++ js := rfl
def rs1 (x c : Tr) : List Tr := x :: c :: List.replicate 18 .leaf
theorem rs1_len (x c : Tr) : (rs1 x c).length = 20 := rfl
theorem p100_is : p100 = .node .leaf .leaf := rfl
theorem codeT_woc (js : List Ins) : codeT (wocP js) = .node (.node .leaf (.node p100 (codeT (othP js)))) (codeT (othP js)) := rfl
theorem pre_run {js : List Ins} (h : (codeT (wocP js)).sg.length ≤ 200000) (x : Tr) : St (preP js) 6 0 (rs0 x) 6 (rs1 x (codeT (wocP js))) := by
  rw [codeT_woc] at h ⊢
  generalize hC : codeT (othP js) = C at h
  have e : preP js = [.set 1 C, .set 2 p100, .cons 2 2 1, .cons 2 3 2, .cons 1 2 1, .set 2 .leaf] := by rw [← hC]; rfl
  rw [e]
  have h1 := node_len (.node .leaf (.node p100 C)) C
  have h2 := node_len .leaf (.node p100 C)
  have h3 := node_len p100 C
  refine .step (i := .set 1 C) rfl rfl (k1 := 1) rfl ?_
  refine .step (i := .set 2 p100) rfl rfl (k1 := 2) rfl ?_
  refine .step (i := .cons 2 2 1) rfl (decide_eq_false (by show ¬ 200000 < (Tr.node p100 C).sg.length; omega)) (k1 := 3) rfl ?_
  refine .step (i := .cons 2 3 2) rfl (decide_eq_false (by show ¬ 200000 < (Tr.node .leaf (.node p100 C)).sg.length; omega)) (k1 := 4) rfl ?_
  refine .step (i := .cons 1 2 1) rfl (decide_eq_false (by show ¬ 200000 < (Tr.node (.node .leaf (.node p100 C)) C).sg.length; omega)) (k1 := 5) rfl ?_
  exact .step (i := .set 2 .leaf) rfl rfl (k1 := 6) rfl (.refl _ _)
theorem woc_run {js : List Ins} (h : (codeT (wocP js)).sg.length ≤ 200000) (s : St js n 0 (rs1 x (codeT (wocP js))) k us) : St (wocP js) (6 + n) 0 (rs0 x) (6 + k) us := by
  rw [woc_is]
  exact ((pre_run h x).left js).trans (s.right (preP js))
theorem woc_back {js : List Ins} (hJ : JOk js) (h : (codeT (wocP js)).sg.length ≤ 200000) (s : St (wocP js) n 0 (rs0 x) (wocP js).length us) : ∃ n', n = 6 + n' ∧ St js n' 0 (rs1 x (codeT (wocP js))) js.length us := by
  obtain ⟨h1, h2⟩ := (woc_run h (.refl 0 _)).rest s
  obtain ⟨k', e, t⟩ := h2.inR (A := preP js) (k := 0) hJ
  have : k' = js.length := by
    have : (wocP js).length = 6 + js.length := by rw [woc_is, List.length_append]; rfl
    have l6 : (preP js).length = 6 := rfl
    omega
  subst this
  exact ⟨n - 6, by omega, t⟩
theorem bes_run {is : List Ins} {c x : Tr} (h : (Tr.node c x).sg.length ≤ 200000) (s : St is n 0 (rs0 (.node c x)) k us) : St (besP is) (2 + n) 0 (rs1 x c) (2 + k) us := by
  have e : besP is = [.cons 0 1 0, .set 1 .leaf] ++ is := rfl
  rw [e]
  refine St.trans (n := 2) (St.left ?_ is) (s.right [.cons 0 1 0, .set 1 .leaf])
  refine .step (i := .cons 0 1 0) rfl (decide_eq_false (by show ¬ 200000 < (Tr.node c x).sg.length; omega)) (k1 := 1) rfl ?_
  exact .step (i := .set 1 .leaf) rfl rfl (k1 := 2) rfl (.refl _ _)
theorem bes_back {is : List Ins} (hJ : JOk is) {c x : Tr} (h : (Tr.node c x).sg.length ≤ 200000) (s : St (besP is) n 0 (rs1 x c) (besP is).length us) : ∃ n', n = 2 + n' ∧ St is n' 0 (rs0 (.node c x)) is.length us := by
  obtain ⟨h1, h2⟩ := (bes_run h (.refl 0 _)).rest s
  have e : besP is = [.cons 0 1 0, .set 1 .leaf] ++ is := rfl
  rw [e] at h2
  obtain ⟨k', e2, t⟩ := h2.inR (A := [.cons 0 1 0, .set 1 .leaf]) (k := 0) hJ
  have : k' = is.length := by
    have l2 : ([.cons 0 1 0, .set 1 .leaf] : List Ins).length = 2 := rfl
    rw [List.length_append] at e2
    omega
  subst this
  exact ⟨n - 2, by omega, t⟩
/-- the program that knows its own code -/
abbrev knP (is : List Ins) : List Ins := wocP (besP is)
theorem kn_st {is : List Ins} (h : (codeT (knP is)).sg.length ≤ 200000) (h2 : (Tr.node (codeT (knP is)) x).sg.length ≤ 200000) (s : St is n 0 (rs0 (.node (codeT (knP is)) x)) k us) : St (knP is) (8 + n) 0 (rs0 x) (8 + k) us :=
  (woc_run h (bes_run h2 s)).cast (by omega) (by omega)
theorem knP_len (is : List Ins) : (knP is).length = 8 + is.length := by
  show is.length + 8 = _
  omega
theorem kn_ret {is : List Ins} (h : (codeT (knP is)).sg.length ≤ 200000) (h2 : (Tr.node (codeT (knP is)) x).sg.length ≤ 200000) (r : Ret is n (.node (codeT (knP is)) x) y) : Ret (knP is) (8 + n) x y := by
  obtain ⟨us, s, e⟩ := r
  exact ⟨us, (kn_st h h2 s).cast rfl (knP_len is).symm, e⟩
theorem kn_loops {is : List Ins} (h : (codeT (knP is)).sg.length ≤ 200000) (h2 : (Tr.node (codeT (knP is)) x).sg.length ≤ 200000) (r : Loops is (.node (codeT (knP is)) x)) : Loops (knP is) x := by
  obtain ⟨a, m, k, rs, s1, s2⟩ := r
  have e : knP is = (preP (besP is) ++ [.cons 0 1 0, .set 1 .leaf]) ++ is := rfl
  refine ⟨8 + a, m, 8 + k, rs, kn_st h h2 s1, ?_⟩
  have := s2.right (preP (besP is) ++ [.cons 0 1 0, .set 1 .leaf])
  rw [← e] at this
  exact this
/-! ### they are programs -/
theorem PgOk.flat {w t : Nat} {is : List Ins} (h : ∀ i ∈ is, i.isJ = false ∧ i.ok w t 0 0) : PgOk w t is := fun j x hx => by
  obtain ⟨h1, h2⟩ := h x (List.mem_of_getElem? hx)
  cases x with
  | jump a m => cases h1
  | _ => exact h2
theorem pairs_le2 (t : Tr) : t.pairs ≤ t.sg.length := by
  have := t.sg_len
  omega
theorem pre_ok {js : List Ins} (h : (codeT (othP js)).sg.length ≤ 200000) : PgOk 4 200000 (preP js) := PgOk.flat fun i hi => by
  simp only [preP, List.mem_cons, List.not_mem_nil, or_false] at hi
  rcases hi with rfl | rfl | rfl | rfl | rfl | rfl
  · exact ⟨rfl, by decide, Nat.le_trans (pairs_le2 _) h⟩
  · exact ⟨rfl, by decide, by decide⟩
  · exact ⟨rfl, by decide, by decide, by decide⟩
  · exact ⟨rfl, by decide, by decide, by decide⟩
  · exact ⟨rfl, by decide, by decide, by decide⟩
  · exact ⟨rfl, by decide, by decide⟩
theorem woc_ok {js : List Ins} {w : Nat} (hw : 4 ≤ w) (h : (codeT (othP js)).sg.length ≤ 200000) (hj : PgOk w 200000 js) : PgOk w 200000 (wocP js) := by
  rw [woc_is]
  exact (PgOk.wide (pre_ok h) hw).app hj
theorem bes_ok {is : List Ins} {w : Nat} (hw : 2 ≤ w) (h : PgOk w 200000 is) : PgOk w 200000 (besP is) :=
  PgOk.app (a := [.cons 0 1 0, .set 1 .leaf]) (PgOk.wide (w := 2) (PgOk.flat fun i hi => by
    simp only [List.mem_cons, List.not_mem_nil, or_false] at hi
    rcases hi with rfl | rfl
    · exact ⟨rfl, by decide, by decide, by decide⟩
    · exact ⟨rfl, by decide, by decide⟩) hw) h
theorem kn_ok {is : List Ins} {w t : Nat} (hw : 4 ≤ w) (ht : t ≤ 200000) (g : GoodW (besP is)) (h : PgOk w t is) : PgOk w 200000 (knP is) := woc_ok hw g.oth (bes_ok (by omega) (PgOk.more h ht))
theorem ok_bel {is : List Ins} {w t : Nat} (h : PgOk w t is) : ∀ i ∈ is, i.below w := fun i hi => by
  obtain ⟨j, hj⟩ := List.getElem?_of_mem hi
  exact Ins.ok_below (h j i hj)
theorem below_up {i : Ins} {v w : Nat} (h : i.below v) (e : v ≤ w) : i.below w := fun r hr => Nat.lt_of_lt_of_le (h r hr) e
theorem kn_wid (is : List Ins) {w : Nat} (h4 : 4 ≤ w) (hw : wid is ≤ w) : wid (knP is) ≤ w := by
  refine (wid_below (by omega)).mpr fun i hi => ?_
  have e : knP is = preP (besP is) ++ ([.cons 0 1 0, .set 1 .leaf] ++ is) := rfl
  rw [e] at hi
  have small : ∀ (j : Ins), j.below 4 → j.below w := fun j h => below_up h h4
  have dec : ∀ (j : Ins), (∀ r ∈ j.regs, r < 4) → j.below 4 := fun j h => h
  rcases List.mem_append.mp hi with hi | hi
  · simp only [preP, List.mem_cons, List.not_mem_nil, or_false] at hi
    rcases hi with rfl | rfl | rfl | rfl | rfl | rfl <;> exact small _ (dec _ (by simp [Ins.regs]))
  · rcases List.mem_append.mp hi with hi | hi
    · simp only [List.mem_cons, List.not_mem_nil, or_false] at hi
      rcases hi with rfl | rfl <;> exact small _ (dec _ (by simp [Ins.regs]))
    · exact below_up (wid_bel is i hi) hw
/-- sizes of what is not drawn too large -/
theorem woc_big {js : List Ins} {b : Nat} (h : (codeT (othP js)).sg.length ≤ b) (hb : 3 ≤ b) (hj : ∀ i ∈ js, i.big ≤ b) : ∀ i ∈ wocP js, i.big ≤ b := fun i hi => by
  rw [woc_is] at hi
  rcases List.mem_append.mp hi with hi | hi
  · simp only [preP, List.mem_cons, List.not_mem_nil, or_false] at hi
    rcases hi with rfl | rfl | rfl | rfl | rfl | rfl
    · exact h
    · exact hb
    · exact Nat.zero_le _
    · exact Nat.zero_le _
    · exact Nat.zero_le _
    · exact Nat.le_trans (by decide : Tr.leaf.sg.length ≤ 3) hb
  · exact hj i hi
theorem bes_bigs {is : List Ins} {b : Nat} (hb : 1 ≤ b) (hj : ∀ i ∈ is, i.big ≤ b) : ∀ i ∈ besP is, i.big ≤ b := fun i hi => by
  rcases List.mem_cons.mp hi with rfl | hi
  · exact Nat.zero_le _
  · rcases List.mem_cons.mp hi with rfl | hi
    · exact hb
    · exact hj i hi
/-- sizes of the codes -/
theorem codeT_wocs (js : List Ins) : (codeT (wocP js)).sg.length = 2 * sumC js + 189 := by
  rw [codeT_woc, node_len, node_len, node_len, codeT_sum, sumC_oth]
  have h1 : Tr.leaf.sg.length = 1 := rfl
  have h2 : p100.sg.length = 3 := rfl
  omega
theorem codeT_oths (js : List Ins) : (codeT (othP js)).sg.length = sumC js + 91 := by
  rw [codeT_sum, sumC_oth]
  omega
theorem bigSum_app (a b : List Ins) : bigSum (a ++ b) = bigSum a + bigSum b := by
  unfold bigSum
  rw [List.map_append, List.sum_append]
theorem bigSum_woc (js : List Ins) : bigSum (wocP js) ≤ sumC js + 200 + bigSum js := by
  have e : wocP js = preP js ++ js := rfl
  have h1 : bigSum (preP js) = (codeT (othP js)).sg.length + 4 := by
    show (codeT (othP js)).sg.length + (3 + (0 + (0 + (0 + (1 + 0))))) = _
    omega
  rw [e, bigSum_app, h1, codeT_oths]
  omega
theorem bigSum_bes (is : List Ins) : bigSum (besP is) = 1 + bigSum is := by
  show 0 + (1 + bigSum is) = _
  omega
end
/-! ### what the law's own run answers -/
def RunV (H : Hp) (T : List Tr) (is : List Ins) (x : Tr) (N : Nat) (v : V) : Prop := (v = .str "large" ∧ go is N 0 (rs0 x) = none) ∨ (v = .non ∧ ∃ k' rs' d, go is N 0 (rs0 x) = some (k', rs', d) ∧ k' < is.length) ∨
  ∃ (n d : Nat) (q : Addr) (rs' : List Tr), v = .ref q ∧ H q = some (.tup [.int n, .int d]) ∧ go is N 0 (rs0 x) = some (is.length, rs', d) ∧ T[n]? = some (reg rs' 0)
section
variable {H H' : Hp} {T T' : List Tr} {is : List Ins} {x : Tr} {N : Nat} {v : V} {W Ah At As Ap st : Addr}
theorem runV_mk {Q : VK} (h : ∀ (v : V) (T' : List Tr) (H' : Hp), RunV H' T' is x N v → Ext T T' → T'.length ≤ T.length + bigSum is + N → ButL (wL Ah At As Ap) H H' → WAt H' W Ah At As Ap T' → Q v H') :
    (∀ (k' d : Nat) (rs' : List Tr), go is N 0 (rs0 x) = some (k', rs', d) → ∀ (T' : List Tr) H', Ext T T' → T'.length ≤ T.length + bigSum is + N → ButL (wL Ah At As Ap) H H' → WAt H' W Ah At As Ap T' → (k' < is.length → Q .non H') ∧ (k' = is.length → ∀ (n : Nat) (q : Addr), T'[n]? = some (reg rs' 0) → H' q = some (.tup [.int n, .int d]) → Q (.ref q) H')) ∧
  (go is N 0 (rs0 x) = none → ∀ (T' : List Tr) H', Ext T T' → T'.length ≤ T.length + bigSum is + N → ButL (wL Ah At As Ap) H H' → WAt H' W Ah At As Ap T' → Q (.str "large") H') :=
  ⟨fun k' d rs' hgo T' H' e l b w => ⟨fun c => h _ T' H' (.inr (.inl ⟨rfl, k', rs', d, hgo, c⟩)) e l b w, fun c n q hn hq => h _ T' H' (.inr (.inr ⟨n, d, q, rs', rfl, hq, by rw [← c]; exact hgo, hn⟩)) e l b w⟩, fun hgo T' H' e l b w => h _ T' H' (.inl ⟨rfl, hgo⟩) e l b w⟩
theorem RunV.mono (h : RunV H T is x N v) (e : Ext T T') (k : ∀ q xs, H q = some (.tup xs) → H' q = some (.tup xs)) : RunV H' T' is x N v := by
  rcases h with h | h | ⟨n, d, q, rs', h1, h2, h3, h4⟩
  · exact .inl h
  · exact .inr (.inl h)
  · exact .inr (.inr ⟨n, d, q, rs', h1, k _ _ h2, h3, e _ _ h4⟩)
theorem RunV.wld (h : RunV H T is x N v) (w : WAt H W Ah At As Ap T) (e : Ext T T') (b : ButL (wL Ah At As Ap) H H') : RunV H' T' is x N v := h.mono e fun q _ hq => b q _ (not4 (w.tup hq)) hq
theorem RunV.same (h : RunV H T is x N v) (e : Same H H') : RunV H' T is x N v := h.mono (Ext.refl T) fun q _ hq => e q _ hq
theorem RunV.exs (h : RunV H T is x N v) (s : Strm H st) (e : ExS st H H') : RunV H' T is x N v := h.mono (Ext.refl T) fun q xs hq => e.k q _ (fun z => by
  obtain ⟨l, ns, c, i, m, h1, _⟩ := s
  rw [z, h1] at hq
  cases hq) hq
theorem dp_two {K : PySem.W.Frag} {u : Addr} {a b : Int} (h : H u = some (.tup [.int a, .int b])) : Dp K H (.ref u) (.tuple [.int a, .int b]) := .tup (SqT.of h) (.cons (.int _) (.cons (.int _) .nil))
theorem sh_two (a b : Int) : SeqAt.shaped (.tuple [.int a, .int b]) = true := rfl
theorem eq_large : PyData.eqv (.str "large") (.str "large") = true := by decide +kernel
theorem sh_large : SeqAt.shaped (.str "large") = true := by decide +kernel
theorem pg_copyK {K : PySem.W.Frag} {p g : Addr} {xs : List V} (h : PgK K H p is) (hp : H p = some (.lst xs)) (ng : H g = none) : PgK K (upd H g (.lst xs)) g is := by
  obtain ⟨as, h1, h2⟩ := h
  rw [hp] at h1
  have e := HO.lst.inj (Option.some.inj h1)
  subst e
  exact ⟨as, upd_same, Paired.imp (fun _ _ q => Same.seqT (Same.upd ng) q) h2⟩
theorem pg_copyA {p g : Addr} {xs : List V} (h : PgAt H p is) (hp : H p = some (.lst xs)) (ng : H g = none) : PgAt (upd H g (.lst xs)) g is := by
  obtain ⟨as, h1, h2⟩ := h
  rw [hp] at h1
  have e := HO.lst.inj (Option.some.inj h1)
  subst e
  exact ⟨as, upd_same, Rows.same (Same.upd ng) h2⟩
/-- a list of rows of other text -/
theorem PgK.re {K : PySem.W.Frag} {p q : Addr} {xs : List V} (h : PgK K H p is) (hp : H p = some (.lst xs)) (hq : H' q = some (.lst xs)) (k : ∀ a ys, SqT K H a ys → SqT K H' a ys) : PgK K H' q is := by
  obtain ⟨as, h1, h2⟩ := h
  rw [hp] at h1
  have e := HO.lst.inj (Option.some.inj h1)
  subst e
  exact ⟨as, hq, Paired.imp (fun _ _ q => k _ _ q) h2⟩
end
section
variable {H : Hp} {T : List Tr} {is : List Ins} {x y : Tr} {n d N : Nat} {v : V}
theorem Loops.go (h : Loops is x) (N : Nat) : ∃ k2 rs2, Nx.go is N 0 (rs0 x) = some (k2, rs2, N) ∧ k2 < is.length := by
  obtain ⟨a, m, k, rs, s1, s2⟩ := h
  have hk : k < is.length := by
    cases s2 with
    | step h _ _ _ => exact (List.getElem?_eq_some_iff.mp h).1
  refine (s1.trans (s2.times N)).rn.pre hk ?_
  have : N ≤ N * (m + 1) := Nat.le_mul_of_pos_right _ (Nat.succ_pos _)
  omega
theorem RunV.of_loops (h : RunV H T is x N v) (l : Loops is x) : v = .non := by
  obtain ⟨k2, rs2, g1, g2⟩ := l.go N
  rcases h with ⟨_, z⟩ | ⟨e, _⟩ | ⟨n, d, q, rs', _, _, z, _⟩
  · rw [g1] at z; cases z
  · exact e
  · rw [g1] at z
    cases z
    omega
theorem RunV.of_ret (h : RunV H T is x N v) (r : Ret is d x y) (hd : d ≤ N) : ∃ (n : Nat) (q : Addr), v = .ref q ∧ H q = some (.tup [.int n, .int d]) ∧ T[n]? = some y := by
  obtain ⟨us, g1, g2⟩ := r.go hd
  rcases h with ⟨_, z⟩ | ⟨_, k', rs', d', z, hk⟩ | ⟨n, d', q, rs', h1, h2, z, h4⟩
  · rw [g1] at z; cases z
  · rw [g1] at z
    cases z
    omega
  · rw [g1] at z
    cases z
    exact ⟨n, q, h1, h2, by rw [h4, g2]⟩
theorem RunV.cases (h : RunV H T is x N v) (hJ : JOk is) : v = .str "large" ∨ v = .non ∨ ∃ (n d : Nat) (q : Addr) (y : Tr), v = .ref q ∧ H q = some (.tup [.int n, .int d]) ∧ T[n]? = some y ∧ Ret is d x y ∧ d ≤ N := by
  rcases h with ⟨e, _⟩ | ⟨e, _⟩ | ⟨n, d, q, rs', h1, h2, z, h4⟩
  · exact .inl e
  · exact .inr (.inl e)
  · exact .inr (.inr ⟨n, d, q, _, h1, h2, h4, Ret.of_go hJ z, (go_more N 0 _ z).1⟩)
theorem Loops.ret (l : Loops is x) (r : Ret is d x y) : False := by
  obtain ⟨us, s, _⟩ := r
  exact l.no s
/-! ### liars -/
def liP (is : List Ins) : List Ins := is ++ [.jump 0 0]
theorem liP_len (is : List Ins) : (liP is).length = is.length + 1 := by
  unfold liP
  rw [List.length_append]
  rfl
theorem li_at (is : List Ins) : (liP is)[is.length]? = some (.jump 0 0) := by
  unfold liP
  rw [List.getElem?_append_right (Nat.le_refl _), Nat.sub_self]
  rfl
theorem li_leaf (r : Ret is n x .leaf) : Ret (liP is) (n + 1) x .leaf := by
  obtain ⟨us, s, e⟩ := r
  refine ⟨us, ((s.left [.jump 0 0]).trans (.step (li_at is) rfl (k1 := is.length + 1) ?_ (.refl _ _))).cast rfl (liP_len is).symm, e⟩
  show (if reg us 0 = .leaf then (is.length : Int) + 1 else _) = _
  rw [if_pos e]
  rfl
theorem li_pair (r : Ret is n x y) (h : y ≠ .leaf) : Loops (liP is) x := by
  obtain ⟨us, s, e⟩ := r
  refine ⟨n, 0, is.length, us, s.left [.jump 0 0], .step (li_at is) rfl (k1 := is.length) ?_ (.refl _ _)⟩
  show (if reg us 0 = .leaf then _ else (is.length : Int) + 0) = _
  rw [if_neg (by rw [e]; exact h)]
  omega
theorem li_loops (r : Loops is x) : Loops (liP is) x := by
  obtain ⟨a, m, k, rs, s1, s2⟩ := r
  exact ⟨a, m, k, rs, s1.left _, s2.left _⟩
theorem li_ok {w t : Nat} (hw : 0 < w) (h : PgOk w t is) : PgOk w t (liP is) := h.app fun j i hi => by
  match j, hi with
  | 0, hi =>
    cases hi
    exact ⟨hw, by decide, by decide⟩
  | j + 1, hi => cases hi
theorem li_wid (is : List Ins) : wid (liP is) = wid is := by
  have h1 : wid (liP is) ≤ wid is := (wid_below (wid_pos is)).mpr fun i hi => by
    rcases List.mem_append.mp hi with hi | hi
    · exact wid_bel is i hi
    · rw [List.mem_singleton.mp hi]
      intro r hr
      have h0 := wid_pos is
      have : r = 0 := by simpa [Ins.regs] using hr
      omega
  have h2 : wid is ≤ wid (liP is) := (wid_below (wid_pos _)).mpr fun i hi => wid_bel (liP is) i (List.mem_append_left _ hi)
  omega
theorem sumC_li (is : List Ins) : sumC (liP is) ≤ sumC is + 20 := by
  unfold liP
  rw [sumC_app]
  have h : sumC [Ins.jump 0 0] ≤ 20 := by decide
  omega
end
end Nx

/-! Programs that bear their own code. -/
namespace Nx
open PySem PySem.Spec PyProof.Rows L2
section
variable {is : List Ins} {n m k k' w d N : Nat} {rs rs' us vs : List Tr} {x y c : Tr} {H : Hp} {T : List Tr} {v : V}
/-- the run from these registers comes back to a state -/
def LoopsAt (is : List Ins) (rs : List Tr) : Prop := ∃ (n m k : Nat) (rsB : List Tr), St is n 0 rs k rsB ∧ St is (m + 1) k rsB k rsB
theorem loops_at : Loops is x ↔ LoopsAt is (rs0 x) := Iff.rfl
theorem regs_ext (hl : us.length = vs.length) (h : ∀ j, reg us j = reg vs j) : us = vs := by
  refine List.ext_getElem hl fun j h1 h2 => ?_
  have := h j
  unfold reg at this
  rw [List.getD_eq_getElem?_getD, List.getD_eq_getElem?_getD, List.getElem?_eq_getElem h1, List.getElem?_eq_getElem h2] at this
  exact this
theorem LoopsAt.agree (h : LoopsAt is rs) (hb : ∀ i ∈ is, i.below w) (a : Ag w rs us) (l1 : w ≤ rs.length) (l2 : w ≤ us.length) : LoopsAt is us := by
  obtain ⟨n, m, k, rsB, s1, s2⟩ := h
  obtain ⟨u1, t1, a1, e1, o1⟩ := s1.agree hb a l1 l2
  obtain ⟨u2, t2, a2, e2, o2⟩ := s2.agree hb a1 (by rw [s1.len]; exact l1) (by rw [e1]; exact l2)
  have : u2 = u1 := regs_ext e2 fun j => by
    by_cases c : j < w
    · rw [← a2 j c, a1 j c]
    · exact o2 j (by omega)
  subst this
  exact ⟨n, m, k, _, t1, t2⟩
theorem LoopsAt.left (h : LoopsAt is rs) (B : List Ins) : LoopsAt (is ++ B) rs := by
  obtain ⟨n, m, k, rsB, s1, s2⟩ := h
  exact ⟨n, m, k, rsB, s1.left B, s2.left B⟩
/-- what comes first, and then a run that comes back -/
theorem LoopsAt.after {A : List Ins} (s : St A n 0 rs A.length us) (h : LoopsAt is us) : LoopsAt (A ++ is) rs := by
  obtain ⟨n2, m, k, rsB, s1, s2⟩ := h
  exact ⟨n + n2, m, A.length + k, rsB, s.seq s1, s2.right A⟩
theorem woc_loops {js : List Ins} (h : (codeT (wocP js)).sg.length ≤ 200000) (l : LoopsAt js (rs1 x (codeT (wocP js)))) : Loops (wocP js) x := LoopsAt.after (A := preP js) (pre_run h x) l
/-! ### myself -/
def myP : List Ins := wocP [.move 0 1]
theorem my_good : GoodW [.move 0 1] := good_of (by decide) (by decide)
theorem my_len : (codeT myP).sg.length ≤ 300 := by
  have h := codeT_wocs [.move 0 1]
  have e : sumC [.move 0 1] = 10 := by decide
  have e2 : codeT myP = codeT (wocP [.move 0 1]) := rfl
  rw [e2]
  omega
theorem my_ret (x : Tr) : Ret myP 7 x (codeT myP) := by
  refine ⟨(rs1 x (codeT myP)).set 0 (codeT myP), ?_, rfl⟩
  have h := my_len
  exact (woc_run (js := [.move 0 1]) (n := 1) (k := 1) (Nat.le_trans h (by decide)) (.step (i := .move 0 1) rfl rfl (k1 := 1) rfl (.refl _ _))).cast rfl rfl
theorem my_ok : PgOk 4 200000 myP := woc_ok (by decide) my_good.oth (PgOk.flat fun i hi => by
  rw [List.mem_singleton.mp hi]
  exact ⟨rfl, by decide, by decide⟩)
theorem my_bel : ∀ i ∈ myP, i.below 4 := ok_bel my_ok
/-! ### bearer -/
def beP (w : Nat) (is : List Ins) : List Ins := ([.move w 1, .set 1 .leaf] ++ is) ++ [.cons 0 w 0]
abbrev bw2 (is : List Ins) : Nat := max 2 (wid is)
theorem be_start (h2 : 2 ≤ w) (hw : w < 20) (x c : Tr) : ∃ us, St [.move w 1, .set 1 .leaf] 2 0 (rs1 x c) 2 us ∧ us.length = 20 ∧ reg us w = c ∧ Ag w (rs0 x) us := by
  refine ⟨((rs1 x c).set w c).set 1 .leaf, .step (i := .move w 1) rfl rfl (k1 := 1) rfl (.step (i := .set 1 .leaf) rfl rfl (k1 := 2) rfl (.refl _ _)), ?_, ?_, fun j hj => ?_⟩
  · rw [List.length_set, List.length_set]
    rfl
  · rw [reg_set_all _ _ (by rw [List.length_set]; show 1 < 20; decide), if_neg (by omega), reg_set_all _ _ (by show w < 20; exact hw), if_pos rfl]
  · have l1 : 1 < ((rs1 x c).set w c).length := by
      rw [List.length_set]
      show 1 < 20
      decide
    rw [reg_set_all (rs := (rs1 x c).set w c) .leaf j l1]
    by_cases c1 : 1 = j
    · subst c1
      rw [if_pos rfl]
      rfl
    · rw [if_neg c1, reg_set_all (rs := rs1 x c) c j (by show w < 20; exact hw), if_neg (by omega)]
      match j, c1 with
      | 0, _ => rfl
      | 1, c1 => exact absurd rfl c1
      | j + 2, _ => rfl
theorem beP_len (w : Nat) (is : List Ins) : (beP w is).length = is.length + 3 := by
  unfold beP
  rw [List.length_append, List.length_append]
  show 2 + is.length + 1 = _
  omega
theorem be_end (w : Nat) (is : List Ins) : (beP w is)[2 + is.length]? = some (.cons 0 w 0) := by
  unfold beP
  rw [List.getElem?_append_right (by rw [List.length_append]; exact Nat.le_refl _)]
  have : 2 + is.length - ([Ins.move w 1, Ins.set 1 .leaf] ++ is).length = 0 := by
    rw [List.length_append]
    exact Nat.sub_self _
  rw [this]
  rfl
theorem be_run (hw : w = bw2 is) (h16 : w ≤ 16) (s : St is n 0 (rs0 x) is.length rs) : ∃ us, St (beP w is) (2 + n) 0 (rs1 x c) (2 + is.length) us ∧ us.length = 20 ∧ reg us w = c ∧ reg us 0 = reg rs 0 := by
  have h1 : wid is ≤ w := by rw [hw]; exact Nat.le_max_right _ _
  have h2 : 2 ≤ w := by rw [hw]; exact Nat.le_max_left _ _
  obtain ⟨us, t, l, e, a⟩ := be_start h2 (by omega) x c
  obtain ⟨zs, tz, az, lz, oz⟩ := s.agree (w := w) (fun i hi => below_up (wid_bel is i hi) h1) a (by show w ≤ 20; omega) (by omega)
  refine ⟨zs, (St.seq (A := [.move w 1, .set 1 .leaf]) t tz).left _, by rw [lz, l], by rw [oz w (Nat.le_refl _), e], (az 0 (by omega)).symm⟩
theorem be_ret (hw : w = bw2 is) (h16 : w ≤ 16) (h : (codeT (wocP (beP w is))).sg.length ≤ 200000) (hf : (Tr.node (codeT (wocP (beP w is))) y).sg.length ≤ 200000) (r : Ret is n x y) : Ret (wocP (beP w is)) (n + 9) x (.node (codeT (wocP (beP w is))) y) := by
  obtain ⟨rs, s, e⟩ := r
  obtain ⟨us, t, l, e1, e2⟩ := be_run (c := codeT (wocP (beP w is))) hw h16 s
  have e3 : newT (.cons 0 w 0) us = .node (codeT (wocP (beP w is))) y := by
    show Tr.node (reg us w) (reg us 0) = _
    rw [e1, e2, e]
  have one : St (beP w is) 1 (2 + is.length) us (2 + is.length + 1) (us.set 0 (.node (codeT (wocP (beP w is))) y)) := by
    refine .step (be_end w is) (decide_eq_false ?_) (k1 := 2 + is.length + 1) rfl ?_
    · show ¬ 200000 < (Tr.node (reg us w) (reg us 0)).sg.length
      rw [e1, e2, e]
      omega
    · have : stepRs (.cons 0 w 0) us = us.set 0 (.node (codeT (wocP (beP w is))) y) := by
        show us.set 0 (newT (.cons 0 w 0) us) = _
        rw [e3]
      rw [this]
      exact .refl _ _
  refine ⟨_, (woc_run h (t.trans one)).cast (by omega) ?_, reg_set _ (by omega)⟩
  have : (wocP (beP w is)).length = 6 + (beP w is).length := by rw [woc_is, List.length_append]; rfl
  rw [this, beP_len]
  omega
theorem be_big (hw : w = bw2 is) (h16 : w ≤ 16) (h : (codeT (wocP (beP w is))).sg.length ≤ 200000) (hf : ¬ (Tr.node (codeT (wocP (beP w is))) y).sg.length ≤ 200000) (r : Ret is n x y) (hN : n + 9 ≤ N) : go (wocP (beP w is)) N 0 (rs0 x) = none := by
  obtain ⟨rs, s, e⟩ := r
  obtain ⟨us, t, l, e1, e2⟩ := be_run (c := codeT (wocP (beP w is))) hw h16 s
  have R := (woc_run h t).rn
  have hat : (wocP (beP w is))[6 + (2 + is.length)]? = some (.cons 0 w 0) := by
    rw [woc_is, List.getElem?_append_right (by show 6 ≤ _; omega)]
    have : 6 + (2 + is.length) - (preP (beP w is)).length = 2 + is.length := by
      show 6 + (2 + is.length) - 6 = _
      omega
    rw [this, be_end]
  have := R.big hat (by
    show decide (200000 < (Tr.node (reg us w) (reg us 0)).sg.length) = true
    rw [e1, e2, e]
    exact decide_eq_true (by omega)) (N - (n + 9))
  rw [show 6 + (2 + n) + (N - (n + 9) + 1) = N by omega] at this
  exact this
theorem be_loops (hw : w = bw2 is) (h16 : w ≤ 16) (h : (codeT (wocP (beP w is))).sg.length ≤ 200000) (l : Loops is x) : Loops (wocP (beP w is)) x := by
  have h1 : wid is ≤ w := by rw [hw]; exact Nat.le_max_right _ _
  have h2 : 2 ≤ w := by rw [hw]; exact Nat.le_max_left _ _
  obtain ⟨us, t, lu, e, a⟩ := be_start h2 (by omega) x (codeT (wocP (beP w is)))
  exact woc_loops h ((LoopsAt.after (A := [.move w 1, .set 1 .leaf]) t (LoopsAt.agree l (w := w) (fun i hi => below_up (wid_bel is i hi) h1) a (by show w ≤ 20; omega) (by omega))).left _)
theorem beP_ok {t v : Nat} (hv : w < v) (h2 : 2 ≤ v) (h : PgOk v t is) : PgOk v t (beP w is) := by
  have h1 : PgOk v t [.move w 1, .set 1 .leaf] := PgOk.flat fun i hi => by
    simp only [List.mem_cons, List.not_mem_nil, or_false] at hi
    rcases hi with rfl | rfl
    · exact ⟨rfl, hv, by omega⟩
    · exact ⟨rfl, by omega, Nat.zero_le _⟩
  have h3 : PgOk v t [.cons 0 w 0] := PgOk.flat fun i hi => by
    rw [List.mem_singleton.mp hi]
    exact ⟨rfl, by omega, hv, by omega⟩
  exact (h1.app h).app h3
theorem beP_mem {P : Ins → Prop} (h1 : P (.move w 1)) (h2 : P (.set 1 .leaf)) (h3 : P (.cons 0 w 0)) (h : ∀ i ∈ is, P i) : ∀ i ∈ beP w is, P i := fun i hi => by
  unfold beP at hi
  rcases List.mem_append.mp hi with hi | hi
  · rcases List.mem_append.mp hi with hi | hi
    · simp only [List.mem_cons, List.not_mem_nil, or_false] at hi
      rcases hi with rfl | rfl
      · exact h1
      · exact h2
    · exact h i hi
  · rw [List.mem_singleton.mp hi]
    exact h3
theorem sumC_be (hw : w ≤ 16) : sumC (beP w is) ≤ sumC is + 110 := by
  unfold beP
  rw [sumC_app, sumC_app]
  have h1 : sumC [.move w 1, .set 1 .leaf] = 1 + (2 * w + 2 * 1 + 7) + (1 + (2 * 1 + 1 + 4) + 0) := by
    rw [sumC_cons, sumC_cons, csz_move, csz_set]
    rfl
  have h2 : sumC [.cons 0 w 0] = 1 + (2 * 0 + 2 * w + 2 * 0 + 11) + 0 := by
    rw [sumC_cons, csz_cons]
    rfl
  omega
theorem bigSum_be : bigSum (beP w is) = bigSum is + 1 := by
  unfold beP
  rw [bigSum_app, bigSum_app]
  show (0 + (1 + 0)) + _ + (0 + 0) = _
  omega
theorem pre_below (js : List Ins) : ∀ i ∈ preP js, i.below 4 := fun i hi => by
  simp only [preP, List.mem_cons, List.not_mem_nil, or_false] at hi
  have dec : ∀ (j : Ins), (∀ r ∈ j.regs, r < 4) → j.below 4 := fun j h => h
  rcases hi with rfl | rfl | rfl | rfl | rfl | rfl <;> exact dec _ (by simp [Ins.regs])
theorem woc_wid (js : List Ins) {w : Nat} (h4 : 4 ≤ w) (hw : ∀ i ∈ js, i.below w) : wid (wocP js) ≤ w := by
  refine (wid_below (by omega)).mpr fun i hi => ?_
  rw [woc_is] at hi
  rcases List.mem_append.mp hi with hi | hi
  · exact below_up (pre_below js i hi) h4
  · exact hw i hi
theorem be_wid (hw : w = bw2 is) {v : Nat} (h8 : 8 ≤ v) (hv : wid is + 1 ≤ v) : wid (wocP (beP w is)) ≤ v := by
  refine woc_wid _ (by omega) (beP_mem ?_ ?_ ?_ fun i hi => below_up (wid_bel is i hi) (by omega))
  · intro r hr
    have : r = w ∨ r = 1 := by simpa [Ins.regs] using hr
    have : bw2 is = max 2 (wid is) := rfl
    omega
  · intro r hr
    have : r = 1 := by simpa [Ins.regs] using hr
    omega
  · intro r hr
    have : r = 0 ∨ r = w ∨ r = 0 := by simpa [Ins.regs] using hr
    have : bw2 is = max 2 (wid is) := rfl
    omega
end
end Nx

/-! Programs that do otherwise than a decider says. -/
namespace Nx
open PySem PySem.Spec PyProof.Rows L2
abbrev hdI : Ins := .head 0 0
abbrev tlI : Ins := .tail 0 0
section
variable {is d yes no c p q : List Ins} {n m w N : Nat} {x y t a b : Tr} {H : Hp} {T : List Tr} {v : V}
theorem hd_ret (r : Ret is n a y) : Ret (hdI :: is) (n + 1) (.node a b) y := by
  obtain ⟨us, s, e⟩ := r
  exact ⟨us, (St.cons1 (i := hdI) (rs := rs0 (.node a b)) rfl rfl s).cast rfl (Nat.add_comm _ _), e⟩
theorem tl_ret (r : Ret is n b y) : Ret (tlI :: is) (n + 1) (.node a b) y := by
  obtain ⟨us, s, e⟩ := r
  exact ⟨us, (St.cons1 (i := tlI) (rs := rs0 (.node a b)) rfl rfl s).cast rfl (Nat.add_comm _ _), e⟩
theorem hd_out (r : Out is n a) : Out (hdI :: is) (n + 1) (.node a b) := by
  obtain ⟨k, us, s, e⟩ := r
  exact ⟨k + 1, us, (St.cons1 (i := hdI) (rs := rs0 (.node a b)) rfl rfl s).cast rfl (Nat.add_comm _ _), Nat.succ_lt_succ e⟩
theorem tl_out (r : Out is n b) : Out (tlI :: is) (n + 1) (.node a b) := by
  obtain ⟨k, us, s, e⟩ := r
  exact ⟨k + 1, us, (St.cons1 (i := tlI) (rs := rs0 (.node a b)) rfl rfl s).cast rfl (Nat.add_comm _ _), Nat.succ_lt_succ e⟩
theorem Loops.out (h : Loops is x) (N : Nat) : ∃ n, N ≤ n ∧ Out is n x := by
  obtain ⟨a, m, k, rs, s1, s2⟩ := h
  have hk : k < is.length := by
    cases s2 with
    | step h _ _ _ => exact (List.getElem?_eq_some_iff.mp h).1
  have : N ≤ N * (m + 1) := Nat.le_mul_of_pos_right _ (Nat.succ_pos _)
  exact ⟨a + N * (m + 1), by omega, k, rs, s1.trans (s2.times N), hk⟩
theorem RunV.of_out (h : RunV H T is x N v) (o : Out is n x) (hn : N ≤ n) : v = .non := by
  obtain ⟨k2, rs2, g1, g2⟩ := o.go hn
  rcases h with ⟨_, z⟩ | ⟨e, _⟩ | ⟨n, d, q, rs', _, _, z, _⟩
  · rw [g1] at z; cases z
  · exact e
  · rw [g1] at z
    cases z
    omega
theorem kn_out (h : (codeT (knP is)).sg.length ≤ 200000) (h2 : (Tr.node (codeT (knP is)) x).sg.length ≤ 200000) (r : Out is n (.node (codeT (knP is)) x)) : Out (knP is) (8 + n) x := by
  obtain ⟨k, us, s, e⟩ := r
  exact ⟨8 + k, us, kn_st h h2 s, by rw [knP_len]; omega⟩
abbrev deW (d yes no : List Ins) : Nat := gw [hdI :: d, tlI :: no, tlI :: yes]
def deP (d yes no : List Ins) : List Ins := choiceP (deW d yes no) (hdI :: d) (tlI :: no) (tlI :: yes)
theorem deW_le : wid (hdI :: d) ≤ deW d yes no ∧ wid (tlI :: no) ≤ deW d yes no ∧ wid (tlI :: yes) ≤ deW d yes no := by
  have h : deW d yes no = _ := gw_three (hdI :: d) (tlI :: no) (tlI :: yes)
  omega
theorem de_yes (hw : deW d yes no ≤ 16) (r : Ret d n a t) (ht : t ≠ .leaf) (r2 : Ret no m x y) : ∃ k, k ≤ n + m + 25 ∧ Ret (deP d yes no) k (.node a x) y := by
  obtain ⟨h1, h2, h3⟩ := deW_le (d := d) (yes := yes) (no := no)
  exact ⟨_, by omega, choice_rt hw h1 h2 (hd_ret r) ht (tl_ret r2)⟩
theorem de_no (hw : deW d yes no ≤ 16) (r : Ret d n a .leaf) (r2 : Ret yes m x y) : ∃ k, k ≤ n + m + 25 ∧ Ret (deP d yes no) k (.node a x) y := by
  obtain ⟨h1, h2, h3⟩ := deW_le (d := d) (yes := yes) (no := no)
  exact ⟨_, by omega, choice_rf hw h1 h3 (hd_ret r) (tl_ret r2)⟩
theorem de_yesO (hw : deW d yes no ≤ 16) (r : Ret d n a t) (ht : t ≠ .leaf) (r2 : Out no m x) : ∃ k, m ≤ k ∧ Out (deP d yes no) k (.node a x) := by
  obtain ⟨h1, h2, h3⟩ := deW_le (d := d) (yes := yes) (no := no)
  exact ⟨_, by omega, choice_rto hw h1 h2 (hd_ret r) ht (tl_out r2)⟩
theorem de_noO (hw : deW d yes no ≤ 16) (r : Ret d n a .leaf) (r2 : Out yes m x) : ∃ k, m ≤ k ∧ Out (deP d yes no) k (.node a x) := by
  obtain ⟨h1, h2, h3⟩ := deW_le (d := d) (yes := yes) (no := no)
  exact ⟨_, by omega, choice_rfo hw h1 h3 (hd_ret r) (tl_out r2)⟩
theorem de_out (hw : deW d yes no ≤ 16) (r : Out d n a) : Out (deP d yes no) (n + 2) (.node a x) := by
  obtain ⟨h1, h2, h3⟩ := deW_le (d := d) (yes := yes) (no := no)
  exact choice_out hw h1 (hd_out r)
theorem one_ok {i : Ins} {k : Nat} (h : i.isJ = false) (hi : i.ok 16 k 0 0) (g : PgOk 16 k is) : PgOk 16 k (i :: is) := PgOk.app (a := [i]) (PgOk.flat fun j hj => by
  rw [List.mem_singleton.mp hj]
  exact ⟨h, hi⟩) g
theorem deP_ok (hw : deW d yes no ≤ 16) (h1 : PgOk 16 4 d) (h2 : PgOk 16 4 yes) (h3 : PgOk 16 4 no) : PgOk 20 4 (deP d yes no) :=
  choiceP_ok hw (by decide) (one_ok rfl ⟨by decide, by decide⟩ h1) (one_ok rfl ⟨by decide, by decide⟩ h3) (one_ok rfl ⟨by decide, by decide⟩ h2)
theorem deP_len (hw : deW d yes no ≤ 16) : (deP d yes no).length ≤ d.length + yes.length + no.length + 39 := by
  obtain ⟨h1, h2, h3⟩ := deW_le (d := d) (yes := yes) (no := no)
  have e : (deP d yes no).length = 6 + (hdI :: d).length + partL (tlI :: yes) + partL (tlI :: no) := choiceP_len
  have e1 : partL (tlI :: yes) = (cln (wid (tlI :: yes))).length + (tlI :: yes).length := rfl
  have e2 : partL (tlI :: no) = (cln (wid (tlI :: no))).length + (tlI :: no).length := rfl
  rw [cln_len] at e1 e2
  rw [List.length_cons] at e e1 e2
  omega
theorem cln_below (w : Nat) : ∀ i ∈ cln w, i.below w := fun i hi => by
  obtain ⟨j, hj⟩ := List.getElem?_of_mem hi
  have hl := (List.getElem?_eq_some_iff.mp hj).1
  rw [cln_len] at hl
  rw [cln_at hl] at hj
  cases hj
  intro r hr
  have : r = j + 1 := by simpa [Ins.regs] using hr
  omega
theorem choice_bel (hc : wid c ≤ w) (hp : wid p ≤ w) (hq : wid q ≤ w) : ∀ i ∈ choiceP w c p q, i.below (w + 1) := fun i hi => by
  have up : ∀ {l : List Ins}, wid l ≤ w → i ∈ l → i.below (w + 1) := fun h m => below_up (wid_bel _ i m) (by omega)
  have cl : ∀ {l : List Ins}, wid l ≤ w → i ∈ cln (wid l) → i.below (w + 1) := fun h m => below_up (cln_below _ i m) (by omega)
  have two : ∀ {r : Nat}, r = 0 ∨ r = w → r < w + 1 := fun h => by omega
  unfold choiceP at hi
  simp only [List.mem_cons, List.mem_append] at hi
  rcases hi with rfl | hi | rfl | rfl | hi | hi | rfl | rfl | rfl | hi | hi
  · intro r hr
    exact two (by have : r = w ∨ r = 0 := by simpa [Ins.regs] using hr
                  omega)
  · exact up hc hi
  · intro r hr
    exact two (by have : r = 0 := by simpa [Ins.regs] using hr
                  omega)
  · intro r hr
    exact two (by have : r = 0 ∨ r = w := by simpa [Ins.regs] using hr
                  omega)
  · exact cl hq hi
  · exact up hq hi
  · intro r hr
    exact two (by have : r = w := by simpa [Ins.regs] using hr
                  omega)
  · intro r hr
    exact two (by have : r = w := by simpa [Ins.regs] using hr
                  omega)
  · intro r hr
    exact two (by have : r = 0 ∨ r = w := by simpa [Ins.regs] using hr
                  omega)
  · exact cl hp hi
  · exact up hp hi
theorem wid_one {i : Ins} (h : i.regs = [0, 0]) (is : List Ins) : wid (i :: is) = wid is := by
  have h1 : wid (i :: is) ≤ wid is := (wid_below (wid_pos is)).mpr fun j hj => by
    rcases List.mem_cons.mp hj with rfl | hj
    · intro r hr
      rw [h] at hr
      have h0 := wid_pos is
      have : r = 0 := by simpa using hr
      omega
    · exact wid_bel is j hj
  have h2 : wid is ≤ wid (i :: is) := (wid_below (wid_pos _)).mpr fun j hj => wid_bel (i :: is) j (.tail _ hj)
  omega
theorem deW_is : deW d yes no = max (max (wid d) (wid no)) (wid yes) := by
  have h : deW d yes no = _ := gw_three (hdI :: d) (tlI :: no) (tlI :: yes)
  rw [h, wid_one rfl, wid_one rfl, wid_one rfl]
theorem deP_wid {v : Nat} (hv : 4 ≤ v) (h : deW d yes no + 1 ≤ v) : wid (knP (deP d yes no)) ≤ v := by
  obtain ⟨h1, h2, h3⟩ := deW_le (d := d) (yes := yes) (no := no)
  refine kn_wid _ hv ((wid_below (by omega)).mpr fun i hi => below_up (choice_bel h1 h2 h3 i hi) h)
end
end Nx

/-! Programs that know each other. -/
namespace Nx
open PySem PySem.Spec PyProof.Rows L2
def lsP : List Ins := cofP ++ [.head 4 1, .cons 4 2 4, .cons 3 4 3, .tail 1 1, .jump 1 (-4), .cons 0 3 0, .set 2 .leaf, .set 3 .leaf, .set 4 .leaf]
def partP (p : List Ins) : List Ins := lsP ++ p
def heldT (ps : List (List Ins)) : Tr := lstT ((ps.map fun p => codeT (partP p)).reverse)
def madP (ps : List (List Ins)) (p : List Ins) : List Ins := .set 1 (heldT ps) :: partP p
def codesT (ps : List (List Ins)) : Tr := lstT (ps.map fun p => codeT (madP ps p))
def GoodT (ps : List (List Ins)) : Prop := (∀ p ∈ ps, (codeT (partP p)).sg.length ≤ 200000) ∧ (heldT ps).sg.length ≤ 200000 ∧ (∀ p ∈ ps, Fits (madP ps p)) ∧ (∀ p ∈ ps, (codeT (madP ps p)).sg.length ≤ 200000) ∧ (codesT ps).sg.length ≤ 200000
def appT (us : List Tr) (acc : Tr) : Tr := us.foldr Tr.node acc
theorem lstT_app : ∀ us : List Tr, lstT us = appT us .leaf
  | [] => rfl
  | u :: us => congrArg (Tr.node u) (lstT_app us)
theorem appT_le (acc : Tr) : ∀ us : List Tr, acc.sg.length ≤ (appT us acc).sg.length
  | [] => Nat.le_refl _
  | u :: us => by
    have h := appT_le acc us
    show _ ≤ (Tr.node u (appT us acc)).sg.length
    rw [node_len]
    omega
def rs5 (x a f b d : Tr) : List Tr := x :: a :: f :: b :: d :: List.replicate 15 .leaf
theorem ring_loop (M : List Ins) (h4 : M[4]? = some (.head 4 1)) (h5 : M[5]? = some (.cons 4 2 4)) (h6 : M[6]? = some (.cons 3 4 3)) (h7 : M[7]? = some (.tail 1 1)) (h8 : M[8]? = some (.jump 1 (-4))) (x F : Tr) :
    ∀ (cs : List Tr) (c acc r4 : Tr), (appT ((c :: cs).reverse.map fun c => .node F c) acc).sg.length ≤ 200000 →
      ∃ r4', St M (5 * (cs.length + 1)) 4 (rs5 x (lstT (c :: cs)) F acc r4) 9 (rs5 x .leaf F (appT ((c :: cs).reverse.map fun c => .node F c) acc) r4')
  | cs, c, acc, r4, h => by
    have e : appT ((c :: cs).reverse.map fun c => .node F c) acc = appT (cs.reverse.map fun c => .node F c) (.node (.node F c) acc) := by
      rw [List.reverse_cons, List.map_append]
      unfold appT
      rw [List.foldr_append]
      rfl
    rw [e] at h ⊢
    have hl := appT_le (.node (.node F c) acc) (cs.reverse.map fun c => .node F c)
    have hn := node_len (.node F c) acc
    have s4 : St M 4 4 (rs5 x (lstT (c :: cs)) F acc r4) 8 (rs5 x (lstT cs) F (.node (.node F c) acc) (.node F c)) := by
      refine .step (i := .head 4 1) h4 rfl (k1 := 5) rfl ?_
      refine .step (i := .cons 4 2 4) h5 (decide_eq_false ?_) (k1 := 6) rfl ?_
      · show ¬ 200000 < (Tr.node F c).sg.length
        omega
      refine .step (i := .cons 3 4 3) h6 (decide_eq_false ?_) (k1 := 7) rfl ?_
      · show ¬ 200000 < (Tr.node (.node F c) acc).sg.length
        omega
      exact .step (i := .tail 1 1) h7 rfl (k1 := 8) rfl (.refl _ _)
    match cs, h, s4 with
    | [], h, s4 =>
      exact ⟨_, s4.trans (.step (i := .jump 1 (-4)) h8 rfl (k1 := 9) rfl (.refl _ _))⟩
    | c2 :: cs2, h, s4 =>
      obtain ⟨r, s⟩ := ring_loop M h4 h5 h6 h7 h8 x F cs2 c2 _ (.node F c) h
      refine ⟨r, (s4.trans (.step (i := .jump 1 (-4)) h8 rfl (k1 := 4) ?_ s)).cast ?_ rfl⟩
      · rfl
      · rw [List.length_cons]
        omega
section
variable {ps : List (List Ins)} {p us vs : List Ins} {x y : Tr} {n m k N : Nat} {rs rs' : List Tr} {H : Hp} {T : List Tr} {v : V}
theorem madP_code (ps : List (List Ins)) (p : List Ins) : codeT (madP ps p) = .node (.node .leaf (.node p100 (heldT ps))) (codeT (partP p)) := rfl
theorem madP_len (ps : List (List Ins)) (p : List Ins) : (madP ps p).length = 13 + p.length := by
  show (lsP ++ p).length + 1 = _
  rw [List.length_append]
  show 12 + _ + 1 = _
  omega
theorem lstT_le {t : Tr} : ∀ {us : List Tr}, t ∈ us → t.sg.length ≤ (lstT us).sg.length
  | u :: us, h => by
    have e : lstT (u :: us) = .node u (lstT us) := rfl
    rw [e, node_len]
    rcases List.mem_cons.mp h with rfl | h
    · omega
    · have := lstT_le h
      omega
/-- up to where the list of all codes has been made -/
theorem to_pre (hg : GoodT ps) (hne : ps ≠ []) (hp : p ∈ ps) (x : Tr) : ∃ r4, St (madP ps p) (4 + 5 * ps.length) 0 (rs0 x) 9 (rs5 x .leaf (.node .leaf (.node p100 (heldT ps))) (codesT ps) r4) := by
  obtain ⟨g1, g2, g3, g4, g5⟩ := hg
  have hc := g4 p hp
  rw [madP_code, node_len] at hc
  have hF : appT ((ps.map fun p => codeT (partP p)).map fun c => .node (.node .leaf (.node p100 (heldT ps))) c) .leaf = codesT ps := by
    rw [List.map_map]
    exact (lstT_app _).symm
  generalize hFF : Tr.node .leaf (.node p100 (heldT ps)) = F at hc hF
  have hcs : ∃ c cs, (ps.map fun p => codeT (partP p)).reverse = c :: cs ∧ cs.length + 1 = ps.length := by
    cases e : (ps.map fun p => codeT (partP p)).reverse with
    | nil =>
      have := congrArg List.length e
      rw [List.length_reverse, List.length_map] at this
      exact absurd (List.length_eq_zero_iff.mp this) hne
    | cons c cs =>
      have := congrArg List.length e
      rw [List.length_reverse, List.length_map, List.length_cons] at this
      exact ⟨c, cs, rfl, this.symm⟩
  obtain ⟨c, cs, ecs, hlen⟩ := hcs
  have hrev : (c :: cs).reverse = ps.map fun p => codeT (partP p) := by rw [← ecs, List.reverse_reverse]
  have hheld : heldT ps = lstT (c :: cs) := by unfold heldT; rw [ecs]
  have hM : ∃ q, madP ps p = .set 1 (heldT ps) :: .set 2 p100 :: .cons 2 2 1 :: .cons 2 3 2 :: .head 4 1 :: .cons 4 2 4 :: .cons 3 4 3 :: .tail 1 1 :: .jump 1 (-4) :: q := ⟨_, rfl⟩
  obtain ⟨q, hM⟩ := hM
  obtain ⟨r4, s⟩ := ring_loop (madP ps p) (by rw [hM]; rfl) (by rw [hM]; rfl) (by rw [hM]; rfl) (by rw [hM]; rfl) (by rw [hM]; rfl) x F cs c .leaf .leaf (by rw [hrev, hF]; exact g5)
  rw [hrev, hF] at s
  refine ⟨r4, St.cast (n := 4 + 5 * (cs.length + 1)) (St.trans (n := 4) ?_ s) (by omega) rfl⟩
  have h1 := node_len .leaf (.node p100 (heldT ps))
  rw [hFF] at h1
  refine .step (i := .set 1 (heldT ps)) (by rw [hM]; rfl) rfl (k1 := 1) rfl ?_
  refine .step (i := .set 2 p100) (by rw [hM]; rfl) rfl (k1 := 2) rfl ?_
  refine .step (i := .cons 2 2 1) (by rw [hM]; rfl) (decide_eq_false ?_) (k1 := 3) rfl ?_
  · show ¬ 200000 < (Tr.node p100 (heldT ps)).sg.length
    omega
  refine .step (i := .cons 2 3 2) (by rw [hM]; rfl) (decide_eq_false ?_) (k1 := 4) rfl ?_
  · show ¬ 200000 < (Tr.node .leaf (.node p100 (heldT ps))).sg.length
    rw [hFF]
    omega
  rw [← hheld, ← hFF]
  exact .refl _ _
theorem to_st (hg : GoodT ps) (hne : ps ≠ []) (hp : p ∈ ps) (hf : (Tr.node (codesT ps) x).sg.length ≤ 200000) (s : St p n 0 (rs0 (.node (codesT ps) x)) k rs) : St (madP ps p) (8 + 5 * ps.length + n) 0 (rs0 x) (13 + k) rs := by
  obtain ⟨r4, s1⟩ := to_pre hg hne hp x
  have e : madP ps p = (.set 1 (heldT ps) :: lsP) ++ p := rfl
  have hM : ∃ a b c d e f g h i, madP ps p = a :: b :: c :: d :: e :: f :: g :: h :: i :: .cons 0 3 0 :: .set 2 .leaf :: .set 3 .leaf :: .set 4 .leaf :: p := ⟨_, _, _, _, _, _, _, _, _, rfl⟩
  obtain ⟨a, b, c, d, e', f, g, h, i, hM⟩ := hM
  have s2 : St (madP ps p) 4 9 (rs5 x .leaf (.node .leaf (.node p100 (heldT ps))) (codesT ps) r4) 13 (rs0 (.node (codesT ps) x)) := by
    refine .step (i := .cons 0 3 0) (by rw [hM]; rfl) (decide_eq_false ?_) (k1 := 10) rfl ?_
    · show ¬ 200000 < (Tr.node (codesT ps) x).sg.length
      omega
    refine .step (i := .set 2 .leaf) (by rw [hM]; rfl) rfl (k1 := 11) rfl ?_
    refine .step (i := .set 3 .leaf) (by rw [hM]; rfl) rfl (k1 := 12) rfl ?_
    exact .step (i := .set 4 .leaf) (by rw [hM]; rfl) rfl (k1 := 13) rfl (.refl _ _)
  have s3 := s.right (.set 1 (heldT ps) :: lsP)
  rw [← e] at s3
  exact ((s1.trans s2).trans s3).cast (by omega) rfl
theorem to_ret (hg : GoodT ps) (hne : ps ≠ []) (hp : p ∈ ps) (hf : (Tr.node (codesT ps) x).sg.length ≤ 200000) (r : Ret p n (.node (codesT ps) x) y) : Ret (madP ps p) (8 + 5 * ps.length + n) x y := by
  obtain ⟨us, s, e⟩ := r
  exact ⟨us, (to_st hg hne hp hf s).cast rfl (madP_len ps p).symm, e⟩
theorem to_loops (hg : GoodT ps) (hne : ps ≠ []) (hp : p ∈ ps) (hf : (Tr.node (codesT ps) x).sg.length ≤ 200000) (l : Loops p (.node (codesT ps) x)) : Loops (madP ps p) x := by
  obtain ⟨a, m, k, rs, s1, s2⟩ := l
  exact ⟨_, m, 13 + k, rs, to_st hg hne hp hf s1, s2.right (.set 1 (heldT ps) :: lsP)⟩
theorem to_big (hg : GoodT ps) (hne : ps ≠ []) (hp : p ∈ ps) (hf : ¬ (Tr.node (codesT ps) x).sg.length ≤ 200000) (hN : 5 + 5 * ps.length ≤ N) : go (madP ps p) N 0 (rs0 x) = none := by
  obtain ⟨r4, s1⟩ := to_pre hg hne hp x
  have hM : ∃ a b c d e f g h i q, madP ps p = a :: b :: c :: d :: e :: f :: g :: h :: i :: .cons 0 3 0 :: q := ⟨_, _, _, _, _, _, _, _, _, _, rfl⟩
  obtain ⟨a, b, c, d, e', f, g, h, i, q, hM⟩ := hM
  have := s1.rn.big (i := .cons 0 3 0) (by rw [hM]; rfl) (decide_eq_true (by show 200000 < (Tr.node (codesT ps) x).sg.length; omega)) (N - (5 + 5 * ps.length))
  rw [show 4 + 5 * ps.length + (N - (5 + 5 * ps.length) + 1) = N by omega] at this
  exact this
/-! ### sizes -/
theorem sumC_ls : sumC lsP = 248 := by decide
theorem codeT_part (p : List Ins) : (codeT (partP p)).sg.length = 249 + sumC p := by
  rw [codeT_sum]
  unfold partP
  rw [sumC_app, sumC_ls]
  omega
def allC (ps : List (List Ins)) : Nat := (ps.map sumC).sum
theorem sum_map_add {α : Type} (f : α → Nat) (c : Nat) : ∀ l : List α, (l.map fun a => c + f a).sum = l.length * c + (l.map f).sum
  | [] => by simp
  | a :: l => by
    rw [List.map_cons, List.sum_cons, sum_map_add f c l, List.map_cons, List.sum_cons, List.length_cons, Nat.add_mul]
    omega
theorem held_len (ps : List (List Ins)) : (heldT ps).sg.length = 1 + ps.length * 250 + allC ps := by
  unfold heldT
  rw [lstT_len, List.length_reverse, List.length_map, List.map_reverse, List.sum_reverse, List.map_map]
  have : (ps.map ((fun u : Tr => u.sg.length) ∘ fun p => codeT (partP p))) = ps.map fun p => 249 + sumC p := List.map_congr_left fun p _ => codeT_part p
  rw [this, sum_map_add]
  unfold allC
  omega
theorem made_len (ps : List (List Ins)) (p : List Ins) : (codeT (madP ps p)).sg.length = 256 + (heldT ps).sg.length + sumC p := by
  rw [madP_code, node_len, node_len, node_len, codeT_part]
  have h1 : Tr.leaf.sg.length = 1 := rfl
  have h2 : p100.sg.length = 3 := rfl
  omega
theorem codes_len (ps : List (List Ins)) : (codesT ps).sg.length = 1 + ps.length * (257 + (heldT ps).sg.length) + allC ps := by
  unfold codesT
  rw [lstT_len, List.length_map, List.map_map]
  have : (ps.map ((fun u : Tr => u.sg.length) ∘ fun p => codeT (madP ps p))) = ps.map fun p => (256 + (heldT ps).sg.length) + sumC p := List.map_congr_left fun p _ => made_len ps p
  rw [this, sum_map_add]
  unfold allC
  have e : ps.length * (257 + (heldT ps).sg.length) = ps.length * (256 + (heldT ps).sg.length) + ps.length := by
    rw [show 257 + (heldT ps).sg.length = (256 + (heldT ps).sg.length) + 1 by omega]
    exact Nat.mul_succ _ _
  omega
theorem allC_le {ps : List (List Ins)} {p : List Ins} (h : p ∈ ps) : sumC p ≤ allC ps := le_sum _ (List.mem_map.mpr ⟨p, h, rfl⟩)
theorem part_small {p : List Ins} (h : ∀ i ∈ p, i.small) : ∀ i ∈ partP p, i.small := fun i hi => by
  rcases List.mem_append.mp hi with hi | hi
  · simp only [lsP, cofP, List.mem_cons, List.mem_append, List.not_mem_nil, or_false] at hi
    rcases hi with (rfl | rfl | rfl) | rfl | rfl | rfl | rfl | rfl | rfl | rfl | rfl | rfl
    · exact ⟨by decide, by decide⟩
    · exact ⟨by decide, by decide, by decide⟩
    · exact ⟨by decide, by decide, by decide⟩
    · exact ⟨by decide, by decide⟩
    · exact ⟨by decide, by decide, by decide⟩
    · exact ⟨by decide, by decide, by decide⟩
    · exact ⟨by decide, by decide⟩
    · exact ⟨by decide, by decide⟩
    · exact ⟨by decide, by decide, by decide⟩
    · exact ⟨by decide, by decide⟩
    · exact ⟨by decide, by decide⟩
    · exact ⟨by decide, by decide⟩
  · exact h i hi
theorem ls_ok (t : Nat) (ht : 1 ≤ t) : PgOk 5 t lsP := fun j x hx => by
  match j, hx with
  | 0, hx => cases hx; exact ⟨by decide, ht⟩
  | 1, hx => cases hx; exact ⟨by decide, by decide, by decide⟩
  | 2, hx => cases hx; exact ⟨by decide, by decide, by decide⟩
  | 3, hx => cases hx; exact ⟨by decide, by decide⟩
  | 4, hx => cases hx; exact ⟨by decide, by decide, by decide⟩
  | 5, hx => cases hx; exact ⟨by decide, by decide, by decide⟩
  | 6, hx => cases hx; exact ⟨by decide, by decide⟩
  | 7, hx => cases hx; exact ⟨by decide, by decide, by decide⟩
  | 8, hx => cases hx; exact ⟨by decide, by decide, by decide⟩
  | 9, hx => cases hx; exact ⟨by decide, Nat.zero_le _⟩
  | 10, hx => cases hx; exact ⟨by decide, Nat.zero_le _⟩
  | 11, hx => cases hx; exact ⟨by decide, Nat.zero_le _⟩
  | j + 12, hx => cases hx
theorem mad_ok {w : Nat} (hw : 5 ≤ w) (hh : (heldT ps).sg.length ≤ 200000) (h : PgOk w 200000 p) : PgOk w 200000 (madP ps p) :=
  PgOk.app (a := [.set 1 (heldT ps)]) (PgOk.flat fun i hi => by
    rw [List.mem_singleton.mp hi]
    exact ⟨rfl, by omega, Nat.le_trans (pairs_le2 _) hh⟩) ((PgOk.wide (ls_ok 200000 (by decide)) hw).app h)
theorem mad_big {b : Nat} (hh : (heldT ps).sg.length ≤ b) (h3 : 3 ≤ b) (h : ∀ i ∈ p, i.big ≤ b) : ∀ i ∈ madP ps p, i.big ≤ b := fun i hi => by
  rcases List.mem_cons.mp hi with rfl | hi
  · exact hh
  · rcases List.mem_append.mp hi with hi | hi
    · exact Nat.le_trans ((ls_ok 1 (Nat.le_refl _)).big i hi) h3
    · exact h i hi
theorem mad_wid {w : Nat} (hw : 5 ≤ w) (h : wid p ≤ w) : wid (madP ps p) ≤ w := (wid_below (by omega)).mpr fun i hi => by
  rcases List.mem_cons.mp hi with rfl | hi
  · intro r hr
    have : r = 1 := by simpa [Ins.regs] using hr
    omega
  · rcases List.mem_append.mp hi with hi | hi
    · exact below_up (ok_bel (ls_ok 1 (Nat.le_refl _)) i hi) hw
    · exact below_up (wid_bel p i hi) h
theorem bigSum_mad (ps : List (List Ins)) (p : List Ins) : bigSum (madP ps p) = (heldT ps).sg.length + (6 + bigSum p) := by
  have e : madP ps p = [.set 1 (heldT ps)] ++ (lsP ++ p) := rfl
  rw [e, bigSum_app, bigSum_app]
  have h1 : bigSum lsP = 6 := by decide
  rw [h1]
  rfl
end
/-- a list of programs -/
def PgsK (K : PySem.W.Frag) (H : Hp) (D : Addr) (ps : List (List Ins)) : Prop := ∃ as : List Addr, H D = some (.lst (as.map V.ref)) ∧ Paired (fun a p => PgK K H a p) as ps
section
variable {K : PySem.W.Frag} {H H' : Hp} {D : Addr} {ps : List (List Ins)}
theorem PgsK.same (h : PgsK K H D ps) (e : Same H H') : PgsK K H' D ps := by
  obtain ⟨as, h1, h2⟩ := h
  exact ⟨as, e _ _ h1, Paired.imp (fun _ _ q => q.same e) h2⟩
theorem PgsAt.k (h : PgsAt H D ps) : PgsK K H D ps := by
  obtain ⟨vs, h1, h2⟩ := h
  suffices q : ∃ as : List Addr, vs = as.map V.ref ∧ Paired (fun a p => PgK K H a p) as ps by
    obtain ⟨as, rfl, h3⟩ := q
    exact ⟨as, h1, h3⟩
  clear h1
  induction h2 with
  | nil => exact ⟨[], rfl, .nil⟩
  | cons r _ ih =>
    obtain ⟨p, rfl, hp⟩ := r
    obtain ⟨as, rfl, h3⟩ := ih
    exact ⟨p :: as, rfl, .cons hp.k h3⟩
theorem pgsK_dpAll : ∀ {as : List Addr} {ps : List (List Ins)}, Paired (fun a p => PgK K H a p) as ps → DpAll K H (as.map V.ref) (ps.map progD)
  | _, _, .nil => .nil
  | _, _, .cons r t => .cons r.dp (pgsK_dpAll t)
theorem PgsK.dp (h : PgsK K H D ps) : Dp K H (.ref D) (progsD ps) := by
  obtain ⟨as, h1, h2⟩ := h
  exact .lst (SqL.of h1) (pgsK_dpAll h2)
end
theorem Paired.impM {α β : Type} {F G : α → β → Prop} : ∀ {l : List α} {m : List β}, (∀ a b, a ∈ l → b ∈ m → F a b → G a b) → Paired F l m → Paired G l m
  | _, _, _, .nil => .nil
  | _, _, h, .cons r t => .cons (h _ _ (.head _) (.head _) r) (Paired.impM (fun a b ha hb => h a b (.tail _ ha) (.tail _ hb)) t)
/-- a list of new programs -/
def PgsN (K : PySem.W.Frag) (H0 H : Hp) (D : Addr) (ps : List (List Ins)) : Prop := ∃ as : List Addr, H D = some (.lst (as.map V.ref)) ∧ Paired (fun a p => a ≠ D ∧ H0 a = none ∧ PgK K H a p) as ps
theorem PgsN.k {K : PySem.W.Frag} {H0 H : Hp} {D : Addr} {ps : List (List Ins)} (h : PgsN K H0 H D ps) : PgsK K H D ps := by
  obtain ⟨as, h1, h2⟩ := h
  exact ⟨as, h1, Paired.imp (fun _ _ q => q.2.2) h2⟩
theorem PgsN.same {K : PySem.W.Frag} {H0 H H' : Hp} {D : Addr} {ps : List (List Ins)} (h : PgsN K H0 H D ps) (e : Same H H') : PgsN K H0 H' D ps := by
  obtain ⟨as, h1, h2⟩ := h
  exact ⟨as, e _ _ h1, Paired.imp (fun _ _ q => ⟨q.1, q.2.1, q.2.2.same e⟩) h2⟩
/-- a list of programs that is being made at D, all new since H1 -/
structure BInv (K : PySem.W.Frag) (H1 H' : Hp) (D : Addr) (as : List Addr) (qs : List (List Ins)) : Prop where
  sm : Same H1 H'
  at_ : H' D = some (.lst (as.map V.ref))
  rows : Paired (fun a p => a ≠ D ∧ H1 a = none ∧ PgK K H' a p) as qs
theorem BInv.push {K : PySem.W.Frag} {H1 H2 H3 : Hp} {D a : Addr} {as : List Addr} {qs : List (List Ins)} {p : List Ins} (h : BInv K H1 H2 D as qs) (nD : H1 D = none) (e : Same H2 H3) (na : H2 a = none) (hp : PgK K H3 a p) : BInv K H1 (upd H3 D (.lst (as.map V.ref ++ [.ref a]))) D (as ++ [a]) (qs ++ [p]) := by
  have hD := e _ _ h.at_
  have naD : a ≠ D := fun z => by rw [z, h.at_] at na; cases na
  have b : ButL [D] H3 (upd H3 D (.lst (as.map V.ref ++ [.ref a]))) := ButL.upd (by simp)
  have nt : NoT H3 [D] := NoT.lst hD .nil
  refine ⟨fun c o q => ?_, by rw [upd_same, List.map_append]; rfl, Paired.app (Paired.imp (fun c q z => ⟨z.1, z.2.1, (z.2.2.same e).butL b nt (by simp [z.1])⟩) h.rows) (.cons ⟨naD, same_new h.sm na, hp.butL b nt (by simp [naD])⟩ .nil)⟩
  rw [upd_ne (ne_of_none q nD)]
  exact (h.sm.trans e) c o q
theorem BInv.len {K : PySem.W.Frag} {H1 H' : Hp} {D : Addr} {as : List Addr} {qs : List (List Ins)} (h : BInv K H1 H' D as qs) : (as.map V.ref).length = qs.length := by
  rw [List.length_map, Paired.len h.rows]
theorem BInv.new {K : PySem.W.Frag} {H1 H' : Hp} {D : Addr} {as : List Addr} {qs : List (List Ins)} (h : BInv K H1 H' D as qs) : PgsN K H1 H' D qs := ⟨as, h.at_, h.rows⟩
theorem BInv.done {K : PySem.W.Frag} {H1 H' : Hp} {D : Addr} {as : List Addr} {qs : List (List Ins)} (h : BInv K H1 H' D as qs) : PgsK K H' D qs := h.new.k
/-! ### rings -/
def chP (k : Nat) : List Ins := .head 0 0 :: (List.replicate k (.tail 0 0) ++ [.head 0 0])
def rgP (n : Nat) : List (List Ins) := (List.range n).map fun i => chP ((i + 1) % n)
theorem chP_len (k : Nat) : (chP k).length = k + 2 := by
  unfold chP
  rw [List.length_cons, List.length_append, List.length_replicate]
  rfl
theorem tails_st : ∀ (k : Nat) (us : List Tr) (y : Tr), us[k]? = some y → ∃ rs, St (List.replicate k (.tail 0 0) ++ [.head 0 0]) (k + 1) 0 (rs0 (lstT us)) (k + 1) rs ∧ reg rs 0 = y
  | 0, u :: us, y, h => by
    cases h
    exact ⟨rs0 u, .step (i := .head 0 0) rfl rfl (k1 := 1) rfl (.refl _ _), rfl⟩
  | k + 1, u :: us, y, h => by
    obtain ⟨rs, s, e⟩ := tails_st k us y h
    refine ⟨rs, (St.cons1 (i := .tail 0 0) (rs := rs0 (lstT (u :: us))) rfl rfl s).cast rfl (Nat.add_comm _ _), e⟩
  | 0, [], y, h => by cases h
  | k + 1, [], y, h => by cases h
theorem ch_ret {k : Nat} {us : List Tr} {x y : Tr} (h : us[k]? = some y) : Ret (chP k) (k + 2) (.node (lstT us) x) y := by
  obtain ⟨rs, s, e⟩ := tails_st k us y h
  exact ⟨rs, (St.cons1 (i := .head 0 0) (rs := rs0 (.node (lstT us) x)) rfl rfl s).cast rfl (by rw [chP_len]; omega), e⟩
theorem chP_ok (k : Nat) : PgOk 16 4 (chP k) := PgOk.flat fun i hi => by
  unfold chP at hi
  rcases List.mem_cons.mp hi with rfl | hi
  · exact ⟨rfl, by decide, by decide⟩
  · rcases List.mem_append.mp hi with hi | hi
    · rw [(List.mem_replicate.mp hi).2]
      exact ⟨rfl, by decide, by decide⟩
    · rw [List.mem_singleton.mp hi]
      exact ⟨rfl, by decide, by decide⟩
theorem chP_wid (k : Nat) : wid (chP k) ≤ 1 := (wid_below (by decide)).mpr fun i hi => by
  have z : ∀ j : Ins, j.regs = [0, 0] → j.below 1 := fun j hj r hr => by
    rw [hj] at hr
    have : r = 0 := by simpa using hr
    omega
  unfold chP at hi
  rcases List.mem_cons.mp hi with rfl | hi
  · exact z _ rfl
  · rcases List.mem_append.mp hi with hi | hi
    · rw [(List.mem_replicate.mp hi).2]
      exact z _ rfl
    · rw [List.mem_singleton.mp hi]
      exact z _ rfl
theorem chP_sum (k : Nat) : sumC (chP k) = 24 + 14 * k := by
  unfold chP
  rw [sumC_cons, sumC_app]
  have h1 : csz (.head 0 0) = 11 := csz_head 0 0
  have h2 : sumC [.head 0 0] = 12 := by rw [sumC_cons, h1]; rfl
  have h3 : ∀ m : Nat, sumC (List.replicate m (.tail 0 0)) = 14 * m := fun m => by
    induction m with
    | zero => rfl
    | succ m ih =>
      rw [List.replicate_succ, sumC_cons, ih, csz_tail]
      omega
  rw [h1, h2, h3]
  omega
theorem rgP_len (n : Nat) : (rgP n).length = n := by
  unfold rgP
  rw [List.length_map, List.length_range]
theorem rgP_mem {n : Nat} {p : List Ins} (h : p ∈ rgP n) : ∃ k, k < n ∧ p = chP k := by
  obtain ⟨i, hi, rfl⟩ := List.mem_map.mp h
  have := List.mem_range.mp hi
  exact ⟨(i + 1) % n, Nat.mod_lt _ (by omega), rfl⟩
theorem rgP_at {n i : Nat} (h : i < n) : (rgP n)[i]? = some (chP ((i + 1) % n)) := by
  unfold rgP
  rw [List.getElem?_map, List.getElem?_range h]
  rfl
theorem sum_le_mul {m : Nat} : ∀ l : List Nat, (∀ a ∈ l, a ≤ m) → l.sum ≤ l.length * m
  | [], _ => Nat.zero_le _
  | a :: l, h => by
    have h1 := sum_le_mul l fun b hb => h b (.tail _ hb)
    have h2 := h a (.head _)
    rw [List.sum_cons, List.length_cons, Nat.add_mul]
    omega
theorem goodT_of {ps : List (List Ins)} (hn : ps.length ≤ 8) (ha : allC ps ≤ 10000) (hl : ∀ p ∈ ps, p.length ≤ 587) : GoodT ps ∧ (codesT ps).sg.length ≤ 1 + ps.length * (258 + ps.length * 250 + allC ps) + allC ps := by
  have h1 := held_len ps
  have h2 := codes_len ps
  have h3 : ps.length * 250 ≤ 2000 := Nat.mul_le_mul_right 250 hn
  have h4 : ps.length * (257 + (heldT ps).sg.length) ≤ 8 * 12258 := Nat.mul_le_mul hn (by omega)
  have h5 : 257 + (heldT ps).sg.length = 258 + ps.length * 250 + allC ps := by omega
  have hm : ∀ p ∈ ps, (codeT (madP ps p)).sg.length ≤ 200000 := fun p hp => by
    have := made_len ps p
    have := allC_le hp
    omega
  refine ⟨⟨fun p hp => ?_, by omega, fun p hp => ⟨?_, ?_⟩, hm, by omega⟩, by rw [h2, h5]; exact Nat.le_refl _⟩
  · have := codeT_part p
    have := allC_le hp
    omega
  · have := madP_len ps p
    have := hl p hp
    omega
  · have g1 := treesSum_sumC (madP ps p)
    have g2 := codeT_sum (madP ps p)
    have g3 := hm p hp
    omega
theorem rg_good {n : Nat} (hn : n ≤ 8) : GoodT (rgP n) ∧ (codesT (rgP n)).sg.length ≤ 60000 := by
  have hl := rgP_len n
  have ha : allC (rgP n) ≤ 1200 := by
    have h : allC (rgP n) ≤ ((rgP n).map sumC).length * 136 := sum_le_mul _ fun a ha => by
      obtain ⟨p, hp, rfl⟩ := List.mem_map.mp ha
      obtain ⟨k, hk, rfl⟩ := rgP_mem hp
      rw [chP_sum]
      omega
    rw [List.length_map, hl] at h
    omega
  obtain ⟨h1, h2⟩ := goodT_of (ps := rgP n) (by omega) (by omega) (fun p hp => by
    obtain ⟨k, hk, rfl⟩ := rgP_mem hp
    rw [chP_len]
    omega)
  refine ⟨h1, Nat.le_trans h2 ?_⟩
  rw [hl]
  have h3 : n * 250 ≤ 2000 := by omega
  have h4 : n * (258 + n * 250 + allC (rgP n)) ≤ 8 * 3500 := Nat.mul_le_mul hn (by omega)
  omega
theorem rg_gw (n : Nat) : gw (rgP n) ≤ 16 := (gw_le (by decide)).mpr fun p hp => by
  obtain ⟨k, hk, rfl⟩ := rgP_mem hp
  exact Nat.le_trans (chP_wid k) (by decide)
section
variable {K : PySem.W.Frag} {H H' : Hp} {D st : Addr} {ps : List (List Ins)} {as : List Addr} {W Ah At As Ap : Addr} {T : List Tr}
theorem refs_st (h : H D = some (.lst (as.map V.ref))) (s : Strm H st) : D ≠ st := fun z => by
  obtain ⟨l, ns', c, i, m, g1, _⟩ := s
  rw [z, g1] at h
  match as, h with
  | [], h => cases h
  | [_], h => cases h
  | _ :: _ :: _, h =>
    have := (List.cons.inj (List.cons.inj (HO.lst.inj (Option.some.inj h))).2).1
    cases this
theorem PgsK.wld (h : PgsK K H D ps) (w : WAt H W Ah At As Ap T) (b : ButL (wL Ah At As Ap) H H') : PgsK K H' D ps := by
  obtain ⟨as, h1, h2⟩ := h
  exact ⟨as, b _ _ (not4 (w.refs h1)) h1, Paired.imp (fun _ _ z => z.wld w b) h2⟩
theorem PgsK.draw (h : PgsK K H D ps) (s : Strm H st) (e : ExS st H H') : PgsK K H' D ps := by
  obtain ⟨as, h1, h2⟩ := h
  exact ⟨as, e.k _ _ (refs_st h1 s) h1, Paired.imp (fun _ _ z => z.draw s e) h2⟩
theorem PgsK.len (h : PgsK K H D ps) : ∃ xs, H D = some (.lst xs) ∧ xs.length = ps.length := by
  obtain ⟨as, h1, h2⟩ := h
  exact ⟨_, h1, by rw [List.length_map, Paired.len h2]⟩
theorem PgsK.get (h : PgsK K H D ps) : ∃ xs : List V, H D = some (.lst xs) ∧ xs.length = ps.length ∧ D ∉ [] ∧ ∀ (i : Nat) (p : List Ins), ps[i]? = some p → ∃ a : Addr, xs[i]? = some (V.ref a) ∧ PgK K H a p := by
  obtain ⟨as, h1, h2⟩ := h
  refine ⟨_, h1, by rw [List.length_map, Paired.len h2], by simp, fun i p hi => ?_⟩
  obtain ⟨a, e1, e2⟩ := Paired.get h2 hi
  exact ⟨a, by rw [List.getElem?_map, e1]; rfl, e2⟩
end
theorem butl_new {as : List Addr} {H1 H2 : Hp} {D : Addr} {o : HO} (b : ButL as H1 H2) (n : H1 D = none) : ButL as H1 (upd H2 D o) := fun c u nc e => by
  rw [upd_ne (ne_of_none e n)]
  exact b c u nc e
def costC (p : List Ins) : Nat := bigSum p + p.length * 4001
def costS (ps : List (List Ins)) : Nat := (ps.map costC).sum
theorem costS_take {ps : List (List Ins)} {j : Nat} {p : List Ins} (h : ps[j]? = some p) : costS (ps.take (j + 1)) = costS (ps.take j) + costC p := by
  unfold costS
  rw [List.take_add_one, h, List.map_append, List.sum_append]
  show _ + (costC p + 0) = _
  omega
theorem costS_le (ps : List (List Ins)) (j : Nat) : costS (ps.take j) ≤ costS ps := by
  have h : costS ps = costS (ps.take j) + costS (ps.drop j) := by
    unfold costS
    rw [← List.sum_append, ← List.map_append, List.take_append_drop]
  omega
theorem costS_bound {ps : List (List Ins)} {B : Nat} (h : ∀ p ∈ ps, bigSum p ≤ B) : costS ps ≤ ps.length * B + (ps.map List.length).sum * 4001 := by
  induction ps with
  | nil => exact Nat.zero_le _
  | cons p ps ih =>
    have h1 := ih fun q hq => h q (.tail _ hq)
    have h2 := h p (.head _)
    have e : costS (p :: ps) = costC p + costS ps := rfl
    have e2 : costC p = bigSum p + p.length * 4001 := rfl
    rw [e, e2, List.length_cons, List.map_cons, List.sum_cons, Nat.add_mul, Nat.add_mul]
    omega
theorem lens_le {ps : List (List Ins)} {m : Nat} (h : ∀ p ∈ ps, p.length ≤ m) : (ps.map List.length).sum ≤ ps.length * m := by
  have := sum_le_mul (ps.map List.length) (m := m) fun a ha => by
    obtain ⟨p, hp, rfl⟩ := List.mem_map.mp ha
    exact h p hp
  rwa [List.length_map] at this
theorem sum_codes (ps : List (List Ins)) : (ps.map fun p => (codeT p).sg.length).sum = ps.length + allC ps := by
  have : (ps.map fun p => (codeT p).sg.length) = ps.map fun p => 1 + sumC p := List.map_congr_left fun p _ => codeT_sum p
  rw [this, sum_map_add]
  unfold allC
  omega
theorem sum_ints : ∀ ns : List Nat, ((ns.map fun n : Nat => (n : Int)).sum) = ((ns.sum : Nat) : Int)
  | [] => rfl
  | n :: ns => by
    rw [List.map_cons, List.sum_cons, List.sum_cons, sum_ints ns]
    omega
theorem goodT_small {ps : List (List Ins)} (hn : ps.length ≤ 8) (hl : ∀ p ∈ ps, p.length ≤ 587) (h : ps.length + allC ps ≤ 2000) : GoodT ps ∧ (codesT ps).sg.length ≤ 150000 := by
  obtain ⟨h1, h2⟩ := goodT_of hn (by omega) hl
  refine ⟨h1, Nat.le_trans h2 ?_⟩
  have h3 : ps.length * 250 ≤ 2000 := Nat.mul_le_mul_right 250 hn
  have h4 : ps.length * (258 + ps.length * 250 + allC ps) ≤ 8 * 4258 := Nat.mul_le_mul hn (by omega)
  omega
theorem fit_small {ps : List (List Ins)} {x : Tr} (hn : ps.length ≤ 8) (hl : ∀ p ∈ ps, p.length ≤ 587) (h : ps.length + allC ps + x.sg.length ≤ 10000) : (Tr.node (codesT ps) x).sg.length ≤ 200000 := by
  obtain ⟨h1, h2⟩ := goodT_of hn (by omega) hl
  have h3 : ps.length * 250 ≤ 2000 := Nat.mul_le_mul_right 250 hn
  have h4 : ps.length * (258 + ps.length * 250 + allC ps) ≤ 8 * 12258 := Nat.mul_le_mul hn (by omega)
  rw [node_len]
  omega
theorem gw_of {ps : List (List Ins)} {t : Nat} (h : ∀ p ∈ ps, PgOk 16 t p) : gw ps ≤ 16 := (gw_le (by decide)).mpr fun p hp => (h p hp).wid (by decide)
end Nx

/-! The universal program. -/
namespace Nx
open PySem PySem.Spec PyProof.Rows L2
def uniP : List Ins := [.head 6 0, .tail 0 0, .cons 0 0 1, .jump 0 100, .head 4 6, .head 5 4, .tail 4 4, .head 3 4, .tail 4 4, .jump 5 2, .jump 0 73, .tail 5 5, .jump 5 9, .move 1 0, .jump 4 2, .jump 0 4, .tail 1 1, .tail 4 4, .jump 4 (-2), .head 4 1, .jump 0 63, .tail 5 5, .jump 5 19, .head 5 4, .tail 4 4, .move 1 0, .jump 5 2, .jump 0 4, .tail 1 1, .tail 5 5, .jump 5 (-2), .head 5 1, .move 1 0, .jump 4 2, .jump 0 4, .tail 1 1, .tail 4 4, .jump 4 (-2), .head 4 1, .cons 4 5 4, .jump 0 43, .tail 5 5, .jump 5 10, .move 1 0, .jump 4 2, .jump 0 4, .tail 1 1, .tail 4 4, .jump 4 (-2), .head 4 1, .head 4 4, .jump 0 32, .tail 5 5, .jump 5 10, .move 1 0, .jump 4 2, .jump 0 4, .tail 1 1, .tail 4 4, .jump 4 (-2), .head 4 1, .tail 4 4, .jump 0 21, .move 1 0, .jump 3 2, .jump 0 4, .tail 1 1, .tail 3 3, .jump 3 (-2), .head 3 1, .jump 3 2, .jump 0 27, .head 1 4, .tail 8 4, .jump 1 3, .jump 8 23, .jump 0 27, .head 1 7, .cons 6 1 6, .tail 7 7, .tail 8 8, .jump 8 (-4), .jump 0 21, .jump 3 4, .tail 0 0, .cons 0 4 0, .jump 0 12, .head 1 0, .cons 2 1 2, .tail 0 0, .tail 3 3, .jump 3 (-4), .tail 0 0, .cons 0 4 0, .head 1 2, .cons 0 1 0, .tail 2 2, .jump 2 (-3), .head 1 6, .cons 7 1 7, .tail 6 6, .tail 8 8, .jump 8 (-4), .jump 6 (-99), .head 0 0]
/-- the registers of the universal program: state, walk, passed, target, value, word, ahead, behind, way -/
abbrev ust (s w p t v wd a b wy : Tr) : List Tr := [s, w, p, t, v, wd, a, b, wy, .leaf, .leaf, .leaf, .leaf, .leaf, .leaf, .leaf, .leaf, .leaf, .leaf, .leaf]
/-- the tail taken n times -/
def tlN : Tr → Nat → Tr
  | t, 0 => t
  | t, n + 1 => tlN t.tl n
/-- the item of a list -/
def nthT (t : Tr) (n : Nat) : Tr := (tlN t n).hd
theorem tlN_succ (t : Tr) : ∀ n, tlN t (n + 1) = (tlN t n).tl
  | 0 => rfl
  | n + 1 => tlN_succ t.tl n
theorem tlN_leaf : ∀ n, tlN .leaf n = .leaf
  | 0 => rfl
  | n + 1 => tlN_leaf n
section
variable {is : List Ins} {n m k k' : Nat} {rs rs' us : List Tr} {i : Ins}
/-- as St, with B for the greatest size -/
def bigB (B : Nat) (i : Ins) (rs : List Tr) : Bool := match i with
  | .cons _ b c => decide (B < (Tr.node (reg rs b) (reg rs c)).sg.length)
  | _ => false
inductive SB (B : Nat) (is : List Ins) : Nat → Nat → List Tr → Nat → List Tr → Prop where
  | refl (k : Nat) (rs : List Tr) : SB B is 0 k rs k rs
  | step {n k k1 k' : Nat} {rs rs' : List Tr} {i : Ins} (h : is[k]? = some i) (g : bigB B i rs = false) (e : stepAt i k rs = (k1 : Int)) (t : SB B is n k1 (stepRs i rs) k' rs') : SB B is (n + 1) k rs k' rs'
variable {B : Nat} {k2 : Nat} {rs2 : List Tr}
theorem SB.trans (s : SB B is n k rs k' rs') (t : SB B is m k' rs' k2 rs2) : SB B is (n + m) k rs k2 rs2 := by
  induction s with
  | refl k rs =>
    rw [Nat.zero_add]
    exact t
  | @step n k k1 k' rs rs' i h g e _ ih =>
    rw [show n + 1 + m = (n + m) + 1 by omega]
    exact .step h g e (ih t)
theorem SB.cast (s : SB B is n k rs k' rs') (e1 : n = m) (e2 : k' = k2) : SB B is m k rs k2 rs' := by
  subst e1 e2
  exact s
theorem bigS_of (hB : B ≤ 200000) (g : bigB B i rs = false) : bigS i rs = false := by
  cases i with
  | cons a b c =>
    have g : ¬ B < _ := of_decide_eq_false g
    exact decide_eq_false (by omega)
  | _ => rfl
theorem SB.st (hB : B ≤ 200000) (s : SB B is n k rs k' rs') : St is n k rs k' rs' := by
  induction s with
  | refl k rs => exact .refl _ _
  | step h g e _ ih => exact .step h (bigS_of hB g) e ih
/-- a step that is no jump and no cons -/
theorem SB.go1 (h : is[k]? = some i) (g : bigB B i rs = false) (j : i.isJ = false) (t : SB B is n (k + 1) (stepRs i rs) k' rs') : SB B is (n + 1) k rs k' rs' := .step h g (by rw [stepAt_no j]; rfl) t
/-- a jump that is taken -/
theorem SB.jmp {r : Nat} {d : Int} {k1 : Nat} (h : is[k]? = some (.jump r d)) (c : reg rs r ≠ .leaf) (e : (k : Int) + d = (k1 : Int)) (t : SB B is n k1 rs k' rs') : SB B is (n + 1) k rs k' rs' := .step h rfl (by
  show (if reg rs r = .leaf then _ else _) = _
  rw [if_neg c, e]) t
/-- a jump that is not taken -/
theorem SB.jno {r : Nat} {d : Int} (h : is[k]? = some (.jump r d)) (c : reg rs r = .leaf) (t : SB B is n (k + 1) rs k' rs') : SB B is (n + 1) k rs k' rs' := .step h rfl (by
  show (if reg rs r = .leaf then _ else _) = _
  rw [if_pos c]
  rfl) t
theorem big_no {a b c : Nat} (h : (Tr.node (reg rs b) (reg rs c)).sg.length ≤ B) : bigB B (.cons a b c) rs = false := decide_eq_false (by omega)
/-- looking up: the walk goes along as far as the number in place says -/
theorem lk_loop {r : Nat} {f : Tr → Tr → List Tr} (g1 : ∀ w v, reg (f w v) 1 = w) (g2 : ∀ w v, reg (f w v) r = v) (g3 : ∀ w v u, (f w v).set 1 u = f u v) (g4 : ∀ w v u, (f w v).set r u = f w u)
    (i3 : is[k]? = some (.tail 1 1)) (i4 : is[k + 1]? = some (.tail r r)) (i5 : is[k + 2]? = some (.jump r (-2))) : ∀ (m : Nat) (w : Tr), SB B is (3 * (m + 1)) k (f w (numT (m + 1))) (k + 3) (f (tlN w (m + 1)) .leaf)
  | m, w => by
    have e1 : stepRs (.tail 1 1) (f w (numT (m + 1))) = f w.tl (numT (m + 1)) := by
      show (f w _).set 1 (reg (f w _) 1).tl = _
      rw [g1, g3]
    have e2 : stepRs (.tail r r) (f w.tl (numT (m + 1))) = f w.tl (numT m) := by
      show (f _ _).set r (reg (f _ _) r).tl = _
      rw [g2, g4]
      rfl
    refine SB.cast (n := 1 + (1 + (1 + 3 * m))) ?_ (by omega) rfl
    rw [Nat.add_comm 1 (1 + (1 + 3 * m))]
    refine .go1 i3 rfl rfl ?_
    rw [e1, Nat.add_comm 1 (1 + 3 * m)]
    refine .go1 i4 rfl rfl ?_
    rw [e2, Nat.add_comm 1 (3 * m)]
    cases m with
    | zero => exact .jno i5 (by rw [g2]; rfl) (.refl _ _)
    | succ m => exact .jmp (k1 := k) i5 (by rw [g2]; exact fun z => by cases z) (by omega) (lk_loop g1 g2 g3 g4 i3 i4 i5 m w.tl)
/-- the seven rows that look up -/
theorem lk {r : Nat} {s : Tr} {f : Tr → Tr → List Tr} (g0 : ∀ w v, reg (f w v) 0 = s) (g1 : ∀ w v, reg (f w v) 1 = w) (g2 : ∀ w v, reg (f w v) r = v) (g3 : ∀ w v u, (f w v).set 1 u = f u v) (g4 : ∀ w v u, (f w v).set r u = f w u) (hs : s ≠ .leaf)
    (i0 : is[k]? = some (.move 1 0)) (i1 : is[k + 1]? = some (.jump r 2)) (i2 : is[k + 2]? = some (.jump 0 4)) (i3 : is[k + 3]? = some (.tail 1 1)) (i4 : is[k + 4]? = some (.tail r r)) (i5 : is[k + 5]? = some (.jump r (-2))) (i6 : is[k + 6]? = some (.head r 1)) (m : Nat) (w : Tr) :
    ∃ n, n ≤ 3 * m + 4 ∧ SB B is n k (f w (numT m)) (k + 7) (f (tlN s m) (nthT s m)) := by
  have e0 : ∀ v, stepRs (.move 1 0) (f w v) = f s v := fun v => by
    show (f w v).set 1 (reg (f w v) 0) = _
    rw [g0, g3]
  have e6 : ∀ u v, stepRs (.head r 1) (f u v) = f u u.hd := fun u v => by
    show (f u v).set r (reg (f u v) 1).hd = _
    rw [g1, g4]
  cases m with
  | zero =>
    refine ⟨4, Nat.le_refl _, ?_⟩
    refine .go1 i0 rfl rfl ?_
    rw [e0]
    refine .jno i1 (by rw [g2]; rfl) (.jmp (k1 := k + 6) i2 (by rw [g0]; exact hs) (by omega) ?_)
    refine .go1 i6 rfl rfl ?_
    rw [e6]
    exact .refl _ _
  | succ m =>
    refine ⟨(3 * (m + 1) + 1) + 1 + 1, by omega, ?_⟩
    refine .go1 i0 rfl rfl ?_
    rw [e0]
    refine .jmp (k1 := k + 3) i1 (by rw [g2]; exact fun z => by cases z) (by omega) ?_
    refine SB.trans (lk_loop g1 g2 g3 g4 i3 i4 i5 m s) ?_
    refine .go1 i6 rfl rfl ?_
    rw [e6]
    exact .refl _ _
end
/-! ### the loops -/
section
variable {B : Nat} {s w p t v wd a b wy : Tr}
theorem fw_loop : ∀ (m : Nat) (xs zs ys : List Tr) (w wy : Tr), xs.length = m + 1 → wy.tl = numT m → (lstT (xs ++ zs)).sg.length + (lstT ys).sg.length ≤ B →
    ∃ w', SB B uniP (5 * (m + 1)) 98 (ust s w p t v wd (lstT (xs ++ zs)) (lstT ys) wy) 103 (ust s w' p t v wd (lstT zs) (lstT (xs.reverse ++ ys)) .leaf)
  | m, [], _, _, _, _, h, _, _ => by cases h
  | 0, x :: x2 :: xs, _, _, _, _, h, _, _ => by cases h
  | 0, [x], zs, ys, w, wy, _, hw, hb => by
    have hb : 1 + x.sg.length + (lstT zs).sg.length + (lstT ys).sg.length ≤ B := by
      have := node_len x (lstT zs)
      have e : lstT ([x] ++ zs) = .node x (lstT zs) := rfl
      rw [e] at hb
      omega
    refine ⟨x, ?_⟩
    refine SB.go1 (i := .head 1 6) rfl rfl rfl ?_
    refine SB.go1 (i := .cons 7 1 7) rfl (big_no (by show (Tr.node x (lstT ys)).sg.length ≤ _; rw [node_len]; have := (lstT zs).sg_len; omega)) rfl ?_
    refine SB.go1 (i := .tail 6 6) rfl rfl rfl ?_
    refine SB.go1 (i := .tail 8 8) rfl rfl rfl ?_
    refine SB.jno (r := 8) (d := -4) rfl hw ?_
    show SB B uniP 0 103 (ust s x p t v wd (lstT zs) (lstT (x :: ys)) wy.tl) 103 _
    rw [hw]
    exact .refl _ _
  | m + 1, x :: xs, zs, ys, w, wy, h, hw, hb => by
    have hb2 : 1 + x.sg.length + (lstT (xs ++ zs)).sg.length + (lstT ys).sg.length ≤ B := by
      have := node_len x (lstT (xs ++ zs))
      have e : lstT (x :: xs ++ zs) = .node x (lstT (xs ++ zs)) := rfl
      rw [e] at hb
      omega
    have e2 : lstT (x :: ys) = .node x (lstT ys) := rfl
    obtain ⟨w', ih⟩ := fw_loop m xs zs (x :: ys) x (numT (m + 1)) (Nat.succ.inj h) rfl (by rw [e2, node_len]; omega)
    refine ⟨w', ?_⟩
    rw [show 5 * (m + 1 + 1) = 5 * (m + 1) + 1 + 1 + 1 + 1 + 1 by omega]
    refine SB.go1 (i := .head 1 6) rfl rfl rfl ?_
    refine SB.go1 (i := .cons 7 1 7) rfl (big_no (by show (Tr.node x (lstT ys)).sg.length ≤ _; rw [node_len]; have := (lstT (xs ++ zs)).sg_len; omega)) rfl ?_
    refine SB.go1 (i := .tail 6 6) rfl rfl rfl ?_
    refine SB.go1 (i := .tail 8 8) rfl rfl rfl ?_
    refine SB.jmp (r := 8) (d := -4) (k1 := 98) rfl (by show wy.tl ≠ _; rw [hw]; exact fun z => by cases z) rfl ?_
    show SB B uniP _ 98 (ust s x p t v wd (lstT (xs ++ zs)) (lstT (x :: ys)) wy.tl) 103 _
    rw [hw, List.reverse_cons, List.append_assoc]
    exact ih
theorem bk_loop (hs : s ≠ .leaf) : ∀ (m : Nat) (ys zs xs : List Tr) (w wy : Tr), ys.length = m + 1 → wy.tl = numT m → (lstT (ys ++ zs)).sg.length + (lstT xs).sg.length ≤ B →
    ∃ w', SB B uniP (5 * (m + 1) + 1) 77 (ust s w p t v wd (lstT xs) (lstT (ys ++ zs)) wy) 103 (ust s w' p t v wd (lstT (ys.reverse ++ xs)) (lstT zs) .leaf)
  | m, [], _, _, _, _, h, _, _ => by cases h
  | 0, y :: y2 :: ys, _, _, _, _, h, _, _ => by cases h
  | 0, [y], zs, xs, w, wy, _, hw, hb => by
    have hb : 1 + y.sg.length + (lstT zs).sg.length + (lstT xs).sg.length ≤ B := by
      have := node_len y (lstT zs)
      have e : lstT ([y] ++ zs) = .node y (lstT zs) := rfl
      rw [e] at hb
      omega
    refine ⟨y, ?_⟩
    refine SB.go1 (i := .head 1 7) rfl rfl rfl ?_
    refine SB.go1 (i := .cons 6 1 6) rfl (big_no (by show (Tr.node y (lstT xs)).sg.length ≤ _; rw [node_len]; have := (lstT zs).sg_len; omega)) rfl ?_
    refine SB.go1 (i := .tail 7 7) rfl rfl rfl ?_
    refine SB.go1 (i := .tail 8 8) rfl rfl rfl ?_
    refine SB.jno (r := 8) (d := -4) rfl hw ?_
    refine SB.jmp (r := 0) (d := 21) (k1 := 103) rfl hs rfl ?_
    show SB B uniP 0 103 (ust s y p t v wd (lstT (y :: xs)) (lstT zs) wy.tl) 103 _
    rw [hw]
    exact .refl _ _
  | m + 1, y :: ys, zs, xs, w, wy, h, hw, hb => by
    have hb2 : 1 + y.sg.length + (lstT (ys ++ zs)).sg.length + (lstT xs).sg.length ≤ B := by
      have := node_len y (lstT (ys ++ zs))
      have e : lstT (y :: ys ++ zs) = .node y (lstT (ys ++ zs)) := rfl
      rw [e] at hb
      omega
    have e2 : lstT (y :: xs) = .node y (lstT xs) := rfl
    obtain ⟨w', ih⟩ := bk_loop hs m ys zs (y :: xs) y (numT (m + 1)) (Nat.succ.inj h) rfl (by rw [e2, node_len]; omega)
    refine ⟨w', ?_⟩
    rw [show 5 * (m + 1 + 1) + 1 = 5 * (m + 1) + 1 + 1 + 1 + 1 + 1 + 1 by omega]
    refine SB.go1 (i := .head 1 7) rfl rfl rfl ?_
    refine SB.go1 (i := .cons 6 1 6) rfl (big_no (by show (Tr.node y (lstT xs)).sg.length ≤ _; rw [node_len]; have := (lstT (ys ++ zs)).sg_len; omega)) rfl ?_
    refine SB.go1 (i := .tail 7 7) rfl rfl rfl ?_
    refine SB.go1 (i := .tail 8 8) rfl rfl rfl ?_
    refine SB.jmp (r := 8) (d := -4) (k1 := 77) rfl (by show wy.tl ≠ _; rw [hw]; exact fun z => by cases z) rfl ?_
    show SB B uniP _ 77 (ust s y p t v wd (lstT (y :: xs)) (lstT (ys ++ zs)) wy.tl) 103 _
    rw [hw, List.reverse_cons, List.append_assoc]
    exact ih
/-- the first heads of a list -/
def hds : Tr → Nat → List Tr
  | _, 0 => []
  | t, n + 1 => t.hd :: hds t.tl n
theorem two_len (s : Tr) : s.hd.sg.length + s.tl.sg.length ≤ s.sg.length + 1 := by
  cases s with
  | leaf => exact Nat.le_refl _
  | node a b =>
    rw [node_len]
    show a.sg.length + b.sg.length ≤ _
    omega
theorem dn_loop : ∀ (m : Nat) (s w t : Tr) (qs : List Tr), t.tl = numT m → s.sg.length + (lstT qs).sg.length + 2 * (m + 1) ≤ B →
    ∃ w', SB B uniP (5 * (m + 1)) 87 (ust s w (lstT qs) t v wd a b wy) 92 (ust (tlN s (m + 1)) w' (lstT ((hds s (m + 1)).reverse ++ qs)) .leaf v wd a b wy)
  | m, s, w, t, qs, ht, hb => by
    have h2 := two_len s
    have hq := (lstT qs).sg_len
    have hbig : bigB B (.cons 2 1 2) (stepRs (.head 1 0) (ust s w (lstT qs) t v wd a b wy)) = false := big_no (by
      show (Tr.node s.hd (lstT qs)).sg.length ≤ _
      rw [node_len]
      have := hd_len s
      omega)
    cases m with
    | zero =>
      refine ⟨s.hd, ?_⟩
      refine SB.go1 (i := .head 1 0) rfl rfl rfl ?_
      refine SB.go1 (i := .cons 2 1 2) rfl hbig rfl ?_
      refine SB.go1 (i := .tail 0 0) rfl rfl rfl ?_
      refine SB.go1 (i := .tail 3 3) rfl rfl rfl ?_
      refine SB.jno (r := 3) (d := -4) rfl ht ?_
      show SB B uniP 0 92 (ust s.tl s.hd (lstT (s.hd :: qs)) t.tl v wd a b wy) 92 _
      rw [ht]
      exact .refl _ _
    | succ m =>
      have e2 : lstT (s.hd :: qs) = .node s.hd (lstT qs) := rfl
      obtain ⟨w', ih⟩ := dn_loop m s.tl s.hd (numT (m + 1)) (s.hd :: qs) rfl (by
        rw [e2, node_len]
        omega)
      refine ⟨w', ?_⟩
      rw [show 5 * (m + 1 + 1) = 5 * (m + 1) + 1 + 1 + 1 + 1 + 1 by omega]
      refine SB.go1 (i := .head 1 0) rfl rfl rfl ?_
      refine SB.go1 (i := .cons 2 1 2) rfl hbig rfl ?_
      refine SB.go1 (i := .tail 0 0) rfl rfl rfl ?_
      refine SB.go1 (i := .tail 3 3) rfl rfl rfl ?_
      refine SB.jmp (r := 3) (d := -4) (k1 := 87) rfl (by show t.tl ≠ _; rw [ht]; exact fun z => by cases z) rfl ?_
      show SB B uniP _ 87 (ust s.tl s.hd (lstT (s.hd :: qs)) t.tl v wd a b wy) 92 _
      rw [ht, show hds s (m + 1 + 1) = s.hd :: hds s.tl (m + 1) from rfl, List.reverse_cons, List.append_assoc]
      exact ih
def rv : List Tr → Tr → Tr
  | [], s => s
  | h :: ps, s => rv ps (.node h s)
theorem rv_app : ∀ (l r : List Tr) (z : Tr), rv (l ++ r) z = rv r (rv l z)
  | [], _, _ => rfl
  | _ :: l, r, z => rv_app l r _
theorem rv_rev : ∀ (l : List Tr) (z : Tr), rv l.reverse z = l.foldr Tr.node z
  | [], _ => rfl
  | h :: l, z => by
    rw [List.reverse_cons, rv_app, rv_rev l z]
    rfl
theorem up_loop : ∀ (ps : List Tr) (s w : Tr), ps ≠ [] → s.sg.length + (lstT ps).sg.length ≤ B →
    ∃ w', SB B uniP (4 * ps.length) 94 (ust s w (lstT ps) t v wd a b wy) 98 (ust (rv ps s) w' .leaf t v wd a b wy)
  | [], _, _, h, _ => absurd rfl h
  | h :: ps, s, w, _, hb => by
    have e : lstT (h :: ps) = .node h (lstT ps) := rfl
    rw [e, node_len] at hb
    have hp := (lstT ps).sg_len
    have hbig : bigB B (.cons 0 1 0) (stepRs (.head 1 2) (ust s w (lstT (h :: ps)) t v wd a b wy)) = false := big_no (by
      show (Tr.node h s).sg.length ≤ _
      rw [node_len]
      omega)
    cases ps with
    | nil =>
      refine ⟨h, ?_⟩
      refine SB.go1 (i := .head 1 2) rfl rfl rfl ?_
      refine SB.go1 (i := .cons 0 1 0) rfl hbig rfl ?_
      refine SB.go1 (i := .tail 2 2) rfl rfl rfl ?_
      exact SB.jno (r := 2) (d := -3) rfl rfl (.refl _ _)
    | cons q ps =>
      obtain ⟨w', ih⟩ := up_loop (q :: ps) (.node h s) h (fun z => by cases z) (by rw [node_len]; omega)
      refine ⟨w', ?_⟩
      rw [show 4 * (h :: q :: ps).length = 4 * (q :: ps).length + 1 + 1 + 1 + 1 by simp only [List.length_cons]; omega]
      refine SB.go1 (i := .head 1 2) rfl rfl rfl ?_
      refine SB.go1 (i := .cons 0 1 0) rfl hbig rfl ?_
      refine SB.go1 (i := .tail 2 2) rfl rfl rfl ?_
      exact SB.jmp (r := 2) (d := -3) (k1 := 94) rfl (fun z => by cases z) rfl ih
/-- the list with another item at n -/
def setN (s : Tr) (n : Nat) (v : Tr) : Tr := (hds s n).foldr Tr.node (.node v (tlN s n).tl)
theorem hds_len : ∀ (n : Nat) (s : Tr), (hds s n).length = n
  | 0, _ => rfl
  | n + 1, s => by
    show (hds s.tl n).length + 1 = _
    rw [hds_len n]
theorem hds_sz : ∀ (n : Nat) (s : Tr), (lstT (hds s n)).sg.length + (tlN s n).sg.length ≤ s.sg.length + 2 * n + 1
  | 0, s => by
    show 1 + s.sg.length ≤ _
    omega
  | n + 1, s => by
    have ih := hds_sz n s.tl
    have h2 := two_len s
    have e : lstT (hds s (n + 1)) = .node s.hd (lstT (hds s.tl n)) := rfl
    rw [e, node_len]
    show _ + (tlN s.tl n).sg.length ≤ _
    omega
theorem lst_rev (l : List Tr) : (lstT l.reverse).sg.length = (lstT l).sg.length := by
  rw [lstT_len, lstT_len, List.length_reverse, List.map_reverse, List.sum_reverse]
theorem change (m : Nat) (w : Tr) (hb : s.sg.length + v.sg.length + 2 * m + 10 ≤ B) : ∃ n w', n ≤ 9 * m + 4 ∧ SB B uniP n 83 (ust s w .leaf (numT m) v wd a b wy) 98 (ust (setN s m v) w' .leaf .leaf v wd a b wy) := by
  have ht := tl_len s
  cases m with
  | zero =>
    refine ⟨4, w, by omega, ?_⟩
    refine SB.jno (r := 3) (d := 4) rfl rfl ?_
    refine SB.go1 (i := .tail 0 0) rfl rfl rfl ?_
    refine SB.go1 (i := .cons 0 4 0) rfl (big_no (by show (Tr.node v s.tl).sg.length ≤ _; rw [node_len]; omega)) rfl ?_
    exact SB.jmp (r := 0) (d := 12) (k1 := 98) rfl (fun z => by cases z) rfl (.refl _ _)
  | succ m =>
    obtain ⟨w1, h1⟩ := dn_loop (B := B) (v := v) (wd := wd) (a := a) (b := b) (wy := wy) m s w (numT (m + 1)) [] rfl (by show _ + 1 + _ ≤ _; omega)
    have hs := hds_sz (m + 1) s
    have h3 := tl_len (tlN s (m + 1))
    have h4 := (tlN s (m + 1)).sg_len
    obtain ⟨w2, h2⟩ := up_loop (B := B) (t := .leaf) (v := v) (wd := wd) (a := a) (b := b) (wy := wy) ((hds s (m + 1)).reverse ++ []) (.node v (tlN s (m + 1)).tl) w1 (fun z => by
      have := congrArg List.length z
      rw [List.append_nil, List.length_reverse, hds_len] at this
      cases this) (by
      rw [node_len, List.append_nil, lst_rev]
      omega)
    refine ⟨5 * (m + 1) + (4 * (m + 1) + 1 + 1) + 1, w2, by omega, ?_⟩
    refine SB.jmp (r := 3) (d := 4) (k1 := 87) rfl (fun z => by cases z) rfl (SB.trans h1 ?_)
    refine SB.go1 (i := .tail 0 0) rfl rfl rfl ?_
    refine SB.go1 (i := .cons 0 4 0) rfl (big_no (by show (Tr.node v (tlN s (m + 1)).tl).sg.length ≤ _; rw [node_len]; have := (lstT (hds s (m + 1))).sg_len; omega)) rfl ?_
    rw [List.append_nil, rv_rev, List.length_reverse, hds_len] at h2
    rw [List.append_nil]
    exact h2
end
/-! ### the list of the registers -/
/-- the length of a list -/
def sp : Tr → Nat
  | .leaf => 0
  | .node _ r => sp r + 1
theorem sp_tl (s : Tr) : sp s.tl = sp s - 1 := by
  cases s <;> rfl
theorem sp_tlN : ∀ (n : Nat) (s : Tr), sp (tlN s n) = sp s - n
  | 0, _ => rfl
  | n + 1, s => by
    show sp (tlN s.tl n) = _
    rw [sp_tlN n, sp_tl]
    omega
theorem sp_set : ∀ (n : Nat) (s v : Tr), sp (setN s n v) = max (sp s) (n + 1)
  | 0, s, v => by
    show sp s.tl + 1 = _
    rw [sp_tl]
    omega
  | n + 1, s, v => by
    show sp (setN s.tl n v) + 1 = _
    rw [sp_set n, sp_tl]
    omega
theorem nth_set : ∀ (n : Nat) (s v : Tr) (j : Nat), nthT (setN s n v) j = if j = n then v else nthT s j
  | 0, s, v, 0 => rfl
  | 0, s, v, j + 1 => by
    show nthT s.tl j = _
    rw [if_neg (by omega)]
    rfl
  | n + 1, s, v, 0 => by
    show s.hd = _
    rw [if_neg (by omega)]
    rfl
  | n + 1, s, v, j + 1 => by
    show nthT (setN s.tl n v) j = _
    rw [nth_set n]
    by_cases c : j = n
    · rw [if_pos c, if_pos (by omega)]
    · rw [if_neg c, if_neg (by omega)]
      rfl
theorem set_ne (n : Nat) (s v : Tr) : setN s n v ≠ .leaf := fun z => by
  have := sp_set n s v
  rw [z] at this
  have e : sp .leaf = 0 := rfl
  omega
def rsum (rs : List Tr) : Nat := (rs.map fun t => t.sg.length).sum
theorem sz_reps : ∀ (rs : List Tr) (s : Tr), sp s ≤ rs.length → (∀ j, j < rs.length → nthT s j = reg rs j) → s.sg.length ≤ 1 + rs.length + rsum rs
  | rs, .leaf, _, _ => by
    show 1 ≤ _
    omega
  | [], .node a b, h, _ => by cases h
  | r :: rs, .node a b, h, g => by
    have ih := sz_reps rs b (Nat.le_of_succ_le_succ h) fun j hj => by
      have := g (j + 1) (Nat.succ_lt_succ hj)
      exact this
    have h0 : a = r := g 0 (Nat.succ_pos _)
    have e : rsum (r :: rs) = r.sg.length + rsum rs := by
      unfold rsum
      rw [List.map_cons, List.sum_cons]
    rw [node_len, e, List.length_cons, h0]
    omega
/-- a list of registers -/
structure Reps (s : Tr) (rs : List Tr) : Prop where
  ne : s ≠ .leaf
  sp : Nx.sp s ≤ 20
  at_ : ∀ j, j < 20 → nthT s j = reg rs j
theorem reg_setN {rs : List Tr} {a j : Nat} {v : Tr} (h : a < rs.length) : reg (rs.set a v) j = if j = a then v else reg rs j := by
  unfold reg
  rw [List.getD_eq_getElem?_getD, List.getD_eq_getElem?_getD]
  by_cases c : j = a
  · subst c
    rw [if_pos rfl, List.getElem?_set_self h]
    rfl
  · rw [if_neg c, List.getElem?_set_ne (fun z => c z.symm)]
theorem Reps.set {s : Tr} {rs : List Tr} (h : Reps s rs) (hl : rs.length = 20) {a : Nat} (ha : a < 20) (v : Tr) : Reps (setN s a v) (rs.set a v) := ⟨set_ne _ _ _, by rw [sp_set]; have := h.sp; omega, fun j hj => by rw [nth_set, reg_setN (by omega), h.at_ j hj]⟩
theorem Reps.size {s : Tr} {rs : List Tr} (h : Reps s rs) (hl : rs.length = 20) : s.sg.length ≤ 21 + rsum rs := by
  have := sz_reps rs s (by have := h.sp; omega) (fun j hj => h.at_ j (by omega))
  omega
/-! ### one step -/
abbrev AH (is : List Ins) (k : Nat) : Tr := lstT ((is.map Ins.codeT).drop k)
abbrev BH (is : List Ins) (k : Nat) : Tr := lstT ((is.map Ins.codeT).take k).reverse
/-- the universal program before the step at k -/
def FS (is : List Ins) (k : Nat) (rs us : List Tr) : Prop := ∃ s w t v wd, us = ust s w .leaf t v wd (AH is k) (BH is k) .leaf ∧ Reps s rs
section
variable {B : Nat} {is : List Ins} {n m k k1 : Nat} {rs us : List Tr} {i : Ins} {s w p t v wd a b wy : Tr}
theorem lst_app (xs ys : List Tr) : (lstT (xs ++ ys)).sg.length + 1 = (lstT xs).sg.length + (lstT ys).sg.length := by
  rw [lstT_len, lstT_len, lstT_len, List.map_append, List.sum_append, List.length_append]
  omega
theorem ab_len (is : List Ins) (k : Nat) : (AH is k).sg.length + (BH is k).sg.length = (codeT is).sg.length + 1 := by
  have h := lst_app ((is.map Ins.codeT).take k) ((is.map Ins.codeT).drop k)
  rw [List.take_append_drop] at h
  have : (BH is k).sg.length = (lstT ((is.map Ins.codeT).take k)).sg.length := lst_rev _
  have e : codeT is = lstT (is.map Ins.codeT) := rfl
  rw [e, this]
  show (lstT ((is.map Ins.codeT).drop k)).sg.length + _ = _
  omega
/-- forward -/
theorem forw (c : Nat) (wy : Tr) (hw : wy.tl = numT c) (hk : k + (c + 1) ≤ is.length) (hb : (codeT is).sg.length + 1 ≤ B) (w : Tr) :
    ∃ w', SB B uniP (5 * (c + 1)) 98 (ust s w p t v wd (AH is k) (BH is k) wy) 103 (ust s w' p t v wd (AH is (k + (c + 1))) (BH is (k + (c + 1))) .leaf) := by
  have e1 : (is.map Ins.codeT).drop k = ((is.map Ins.codeT).drop k).take (c + 1) ++ (is.map Ins.codeT).drop (k + (c + 1)) := by
    rw [← List.drop_drop, List.take_append_drop]
  have e2 : ((is.map Ins.codeT).take (k + (c + 1))).reverse = (((is.map Ins.codeT).drop k).take (c + 1)).reverse ++ ((is.map Ins.codeT).take k).reverse := by
    rw [List.take_add, List.reverse_append]
  have hab : (lstT ((is.map Ins.codeT).drop k)).sg.length + (lstT ((is.map Ins.codeT).take k).reverse).sg.length = _ := ab_len is k
  have e3 : AH is k = lstT (((is.map Ins.codeT).drop k).take (c + 1) ++ (is.map Ins.codeT).drop (k + (c + 1))) := congrArg lstT e1
  have e4 : BH is (k + (c + 1)) = lstT ((((is.map Ins.codeT).drop k).take (c + 1)).reverse ++ ((is.map Ins.codeT).take k).reverse) := congrArg lstT e2
  obtain ⟨w', h⟩ := fw_loop (B := B) (s := s) (p := p) (t := t) (v := v) (wd := wd) c (((is.map Ins.codeT).drop k).take (c + 1)) ((is.map Ins.codeT).drop (k + (c + 1))) ((is.map Ins.codeT).take k).reverse w wy (by rw [List.length_take, List.length_drop, List.length_map]; omega) hw (by rw [← e1]; omega)
  exact ⟨w', by rw [e3, e4]; exact h⟩
/-- back -/
theorem backw (hs : s ≠ .leaf) (c : Nat) (wy : Tr) (hw : wy.tl = numT c) (hc : c + 1 ≤ k) (hk : k ≤ is.length) (hb : (codeT is).sg.length + 1 ≤ B) (w : Tr) :
    ∃ w', SB B uniP (5 * (c + 1) + 1) 77 (ust s w p t v wd (AH is k) (BH is k) wy) 103 (ust s w' p t v wd (AH is (k - (c + 1))) (BH is (k - (c + 1))) .leaf) := by
  obtain ⟨j, rfl⟩ : ∃ j, k = j + (c + 1) := ⟨k - (c + 1), by omega⟩
  rw [Nat.add_sub_cancel]
  have e1 : (is.map Ins.codeT).drop j = ((is.map Ins.codeT).drop j).take (c + 1) ++ (is.map Ins.codeT).drop (j + (c + 1)) := by
    rw [← List.drop_drop, List.take_append_drop]
  have e2 : ((is.map Ins.codeT).take (j + (c + 1))).reverse = (((is.map Ins.codeT).drop j).take (c + 1)).reverse ++ ((is.map Ins.codeT).take j).reverse := by
    rw [List.take_add, List.reverse_append]
  have hab : (lstT ((is.map Ins.codeT).drop (j + (c + 1)))).sg.length + (lstT ((is.map Ins.codeT).take (j + (c + 1))).reverse).sg.length = _ := ab_len is (j + (c + 1))
  have e3 : AH is j = lstT ((((is.map Ins.codeT).drop j).take (c + 1)).reverse.reverse ++ (is.map Ins.codeT).drop (j + (c + 1))) := by
    rw [List.reverse_reverse]
    exact congrArg lstT e1
  have e4 : BH is (j + (c + 1)) = lstT ((((is.map Ins.codeT).drop j).take (c + 1)).reverse ++ ((is.map Ins.codeT).take j).reverse) := congrArg lstT e2
  obtain ⟨w', h⟩ := bk_loop (B := B) (s := s) (p := p) (t := t) (v := v) (wd := wd) hs c (((is.map Ins.codeT).drop j).take (c + 1)).reverse ((is.map Ins.codeT).take j).reverse ((is.map Ins.codeT).drop (j + (c + 1))) w wy (by rw [List.length_reverse, List.length_take, List.length_drop, List.length_map]; omega) hw (by rw [← e2]; omega)
  exact ⟨w', by rw [e3, e4]; exact h⟩
end
section
variable {B : Nat} {is : List Ins} {n m k k1 : Nat} {rs us : List Tr} {i : Ins} {s w p t v wd a b wy : Tr}
theorem dec (ha : a.hd = i.codeT) (hne : a ≠ .leaf) : SB B uniP 6 103 (ust s w p t v wd a b wy) 9 (ust s w p (numT i.a) i.restT.tl (numT i.no) a b wy) := by
  refine SB.jmp (r := 6) (d := -99) (k1 := 4) rfl hne rfl ?_
  refine SB.go1 (i := .head 4 6) rfl rfl rfl ?_
  refine SB.go1 (i := .head 5 4) rfl rfl rfl ?_
  refine SB.go1 (i := .tail 4 4) rfl rfl rfl ?_
  refine SB.go1 (i := .head 3 4) rfl rfl rfl ?_
  refine SB.go1 (i := .tail 4 4) rfl rfl rfl ?_
  show SB B uniP 0 9 (ust s w p a.hd.tl.hd a.hd.tl.tl a.hd.hd a b wy) 9 _
  rw [ha, show i.codeT.tl.hd = numT i.a by cases i <;> rfl]
  exact .refl _ _
/-- from the case of its word to the change -/
theorem cases_ (hj : i.isJ = false) (hb : i.below 20) (hbig : bigB B i rs = false) (h : Reps s rs) :
    ∃ n w' wd', n ≤ 150 ∧ SB B uniP n 9 (ust s w p (numT i.a) i.restT.tl (numT i.no) a b wy) 83 (ust s w' p (numT i.a) (newT i rs) wd' a b wy) := by
  have hs := h.ne
  cases i with
  | jump x d => cases hj
  | set x u =>
    exact ⟨2, w, .leaf, by omega, SB.jno (r := 5) (d := 2) rfl rfl (SB.jmp (r := 0) (d := 73) (k1 := 83) rfl hs rfl (.refl _ _))⟩
  | move x y =>
    have hy : y < 20 := hb y (by simp [Ins.regs])
    obtain ⟨n, hn, s1⟩ := lk (B := B) (is := uniP) (k := 13) (r := 4) (s := s) (f := fun w v => ust s w p (numT x) v .leaf a b wy) (fun _ _ => rfl) (fun _ _ => rfl) (fun _ _ => rfl) (fun _ _ _ => rfl) (fun _ _ _ => rfl) hs rfl rfl rfl rfl rfl rfl rfl y w
    rw [h.at_ y hy] at s1
    refine ⟨(n + 1) + 1 + 1 + 1, tlN s y, .leaf, by omega, ?_⟩
    refine SB.jmp (r := 5) (d := 2) (k1 := 11) rfl (fun z => by cases z) rfl ?_
    refine SB.go1 (i := .tail 5 5) rfl rfl rfl ?_
    refine SB.jno (r := 5) (d := 9) rfl rfl ?_
    exact SB.trans s1 (SB.jmp (r := 0) (d := 63) (k1 := 83) rfl hs rfl (.refl _ _))
  | cons x y z =>
    have hy : y < 20 := hb y (by simp [Ins.regs])
    have hz : z < 20 := hb z (by simp [Ins.regs])
    obtain ⟨n1, hn1, s1⟩ := lk (B := B) (is := uniP) (k := 25) (r := 5) (s := s) (f := fun w wd => ust s w p (numT x) (numT z) wd a b wy) (fun _ _ => rfl) (fun _ _ => rfl) (fun _ _ => rfl) (fun _ _ _ => rfl) (fun _ _ _ => rfl) hs rfl rfl rfl rfl rfl rfl rfl y w
    rw [h.at_ y hy] at s1
    obtain ⟨n2, hn2, s2⟩ := lk (B := B) (is := uniP) (k := 32) (r := 4) (s := s) (f := fun w v => ust s w p (numT x) v (reg rs y) a b wy) (fun _ _ => rfl) (fun _ _ => rfl) (fun _ _ => rfl) (fun _ _ _ => rfl) (fun _ _ _ => rfl) hs rfl rfl rfl rfl rfl rfl rfl z (tlN s y)
    rw [h.at_ z hz] at s2
    refine ⟨(n1 + (n2 + (1 + 1))) + 1 + 1 + 1 + 1 + 1 + 1 + 1, tlN s z, reg rs y, by omega, ?_⟩
    refine SB.jmp (r := 5) (d := 2) (k1 := 11) rfl (fun z => by cases z) rfl ?_
    refine SB.go1 (i := .tail 5 5) rfl rfl rfl ?_
    refine SB.jmp (r := 5) (d := 9) (k1 := 21) rfl (fun z => by cases z) rfl ?_
    refine SB.go1 (i := .tail 5 5) rfl rfl rfl ?_
    refine SB.jno (r := 5) (d := 19) rfl rfl ?_
    refine SB.go1 (i := .head 5 4) rfl rfl rfl ?_
    refine SB.go1 (i := .tail 4 4) rfl rfl rfl ?_
    refine SB.trans s1 (SB.trans s2 ?_)
    refine SB.go1 (i := .cons 4 5 4) rfl hbig rfl ?_
    exact SB.jmp (r := 0) (d := 43) (k1 := 83) rfl hs rfl (.refl _ _)
  | head x y =>
    have hy : y < 20 := hb y (by simp [Ins.regs])
    obtain ⟨n, hn, s1⟩ := lk (B := B) (is := uniP) (k := 43) (r := 4) (s := s) (f := fun w v => ust s w p (numT x) v .leaf a b wy) (fun _ _ => rfl) (fun _ _ => rfl) (fun _ _ => rfl) (fun _ _ _ => rfl) (fun _ _ _ => rfl) hs rfl rfl rfl rfl rfl rfl rfl y w
    rw [h.at_ y hy] at s1
    refine ⟨(n + (1 + 1)) + 1 + 1 + 1 + 1 + 1 + 1 + 1, tlN s y, .leaf, by omega, ?_⟩
    refine SB.jmp (r := 5) (d := 2) (k1 := 11) rfl (fun z => by cases z) rfl ?_
    refine SB.go1 (i := .tail 5 5) rfl rfl rfl ?_
    refine SB.jmp (r := 5) (d := 9) (k1 := 21) rfl (fun z => by cases z) rfl ?_
    refine SB.go1 (i := .tail 5 5) rfl rfl rfl ?_
    refine SB.jmp (r := 5) (d := 19) (k1 := 41) rfl (fun z => by cases z) rfl ?_
    refine SB.go1 (i := .tail 5 5) rfl rfl rfl ?_
    refine SB.jno (r := 5) (d := 10) rfl rfl ?_
    refine SB.trans s1 ?_
    refine SB.go1 (i := .head 4 4) rfl rfl rfl ?_
    exact SB.jmp (r := 0) (d := 32) (k1 := 83) rfl hs rfl (.refl _ _)
  | tail x y =>
    have hy : y < 20 := hb y (by simp [Ins.regs])
    obtain ⟨n, hn, s1⟩ := lk (B := B) (is := uniP) (k := 54) (r := 4) (s := s) (f := fun w v => ust s w p (numT x) v .leaf a b wy) (fun _ _ => rfl) (fun _ _ => rfl) (fun _ _ => rfl) (fun _ _ _ => rfl) (fun _ _ _ => rfl) hs rfl rfl rfl rfl rfl rfl rfl y w
    rw [h.at_ y hy] at s1
    refine ⟨(n + (1 + 1)) + 1 + 1 + 1 + 1 + 1 + 1 + 1 + 1 + 1, tlN s y, .leaf, by omega, ?_⟩
    refine SB.jmp (r := 5) (d := 2) (k1 := 11) rfl (fun z => by cases z) rfl ?_
    refine SB.go1 (i := .tail 5 5) rfl rfl rfl ?_
    refine SB.jmp (r := 5) (d := 9) (k1 := 21) rfl (fun z => by cases z) rfl ?_
    refine SB.go1 (i := .tail 5 5) rfl rfl rfl ?_
    refine SB.jmp (r := 5) (d := 19) (k1 := 41) rfl (fun z => by cases z) rfl ?_
    refine SB.go1 (i := .tail 5 5) rfl rfl rfl ?_
    refine SB.jmp (r := 5) (d := 10) (k1 := 52) rfl (fun z => by cases z) rfl ?_
    refine SB.go1 (i := .tail 5 5) rfl rfl rfl ?_
    refine SB.jno (r := 5) (d := 10) rfl rfl ?_
    refine SB.trans s1 ?_
    refine SB.go1 (i := .tail 4 4) rfl rfl rfl ?_
    exact SB.jmp (r := 0) (d := 21) (k1 := 83) rfl hs rfl (.refl _ _)
theorem AH_hd (hi : is[k]? = some i) : (AH is k).hd = i.codeT ∧ AH is k ≠ .leaf := by
  have h : (is.map Ins.codeT)[k]? = some i.codeT := by rw [List.getElem?_map, hi]; rfl
  obtain ⟨hk, e⟩ := List.getElem?_eq_some_iff.mp h
  have e2 : AH is k = lstT ((is.map Ins.codeT)[k] :: (is.map Ins.codeT).drop (k + 1)) := congrArg lstT (List.drop_eq_getElem_cons hk)
  rw [e2, e]
  exact ⟨rfl, fun z => by cases z⟩
/-- one step of the program -/
theorem uni_step (hi : is[k]? = some i) (hk1 : stepAt i k rs = (k1 : Int)) (hle : k1 ≤ is.length) (hb : i.below 20) (hl : rs.length = 20) (hbig : bigB B i rs = false) (h : FS is k rs us) (hsz : (codeT is).sg.length + 1 ≤ B)
    (hrs : 100 + rsum rs + (newT i rs).sg.length ≤ B) : ∃ n us', 0 < n ∧ n ≤ 400 + 5 * is.length ∧ SB B uniP n 103 us 103 us' ∧ FS is k1 (stepRs i rs) us' := by
  obtain ⟨s, w, t, v, wd, rfl, hR⟩ := h
  obtain ⟨ha, hne⟩ := AH_hd hi
  have hkl := (List.getElem?_eq_some_iff.mp hi).1
  have h1 := dec (B := B) (s := s) (w := w) (p := .leaf) (t := t) (v := v) (wd := wd) (b := BH is k) (wy := .leaf) ha hne
  have hs := hR.size hl
  have hsn := hR.ne
  cases hj : i.isJ with
  | false =>
    obtain ⟨n2, w2, wd2, hn2, h2⟩ := cases_ (B := B) (w := w) (p := .leaf) (a := AH is k) (b := BH is k) (wy := .leaf) hj hb hbig hR
    have hia := Ins.below_a hb
    obtain ⟨n3, w3, hn3, h3⟩ := change (B := B) (s := s) (v := newT i rs) (wd := wd2) (a := AH is k) (b := BH is k) (wy := .leaf) i.a w2 (by omega)
    obtain ⟨w4, h4⟩ := forw (B := B) (is := is) (k := k) (s := setN s i.a (newT i rs)) (p := .leaf) (t := .leaf) (v := newT i rs) (wd := wd2) 0 .leaf rfl (by omega) hsz w3
    have ek : k1 = k + (0 + 1) := by
      rw [stepAt_no hj] at hk1
      omega
    subst ek
    refine ⟨6 + (n2 + (n3 + 5 * (0 + 1))), _, by omega, by omega, h1.trans (h2.trans (h3.trans h4)), _, _, _, _, _, rfl, ?_⟩
    rw [stepRs_no hj]
    exact hR.set hl hia _
  | true =>
    cases i with
    | jump x d =>
      have hx : x < 20 := hb x (by simp [Ins.regs])
      obtain ⟨n2, hn2, s2⟩ := lk (B := B) (is := uniP) (k := 63) (r := 3) (s := s) (f := fun w t => ust s w .leaf t (wayT d) (numT 1) (AH is k) (BH is k) .leaf) (fun _ _ => rfl) (fun _ _ => rfl) (fun _ _ => rfl) (fun _ _ _ => rfl) (fun _ _ _ => rfl) hsn rfl rfl rfl rfl rfl rfl rfl x w
      rw [hR.at_ x hx] at s2
      have h2 : SB B uniP (n2 + 1 + 1 + 1 + 1 + 1 + 1 + 1 + 1 + 1) 9 (ust s w .leaf (numT x) (wayT d) (numT 5) (AH is k) (BH is k) .leaf) 70 (ust s (tlN s x) .leaf (reg rs x) (wayT d) (numT 1) (AH is k) (BH is k) .leaf) := by
        refine SB.jmp (r := 5) (d := 2) (k1 := 11) rfl (fun z => by cases z) rfl ?_
        refine SB.go1 (i := .tail 5 5) rfl rfl rfl ?_
        refine SB.jmp (r := 5) (d := 9) (k1 := 21) rfl (fun z => by cases z) rfl ?_
        refine SB.go1 (i := .tail 5 5) rfl rfl rfl ?_
        refine SB.jmp (r := 5) (d := 19) (k1 := 41) rfl (fun z => by cases z) rfl ?_
        refine SB.go1 (i := .tail 5 5) rfl rfl rfl ?_
        refine SB.jmp (r := 5) (d := 10) (k1 := 52) rfl (fun z => by cases z) rfl ?_
        refine SB.go1 (i := .tail 5 5) rfl rfl rfl ?_
        refine SB.jmp (r := 5) (d := 10) (k1 := 63) rfl (fun z => by cases z) rfl ?_
        exact s2
      have h12 := h1.trans h2
      show ∃ n us', 0 < n ∧ n ≤ 400 + 5 * is.length ∧ SB B uniP n 103 _ 103 us' ∧ FS is k1 rs us'
      by_cases c : reg rs x = .leaf
      · have ek : k1 = k + (0 + 1) := by
          have e : stepAt (.jump x d) k rs = (k : Int) + 1 := if_pos c
          rw [e] at hk1
          omega
        subst ek
        obtain ⟨w4, h4⟩ := forw (B := B) (is := is) (k := k) (s := s) (p := .leaf) (t := reg rs x) (v := wayT d) (wd := numT 1) 0 .leaf rfl (by omega) hsz (tlN s x)
        exact ⟨6 + (n2 + 1 + 1 + 1 + 1 + 1 + 1 + 1 + 1 + 1) + (5 * (0 + 1) + 1 + 1), _, by omega, by omega, h12.trans (SB.jno (r := 3) (d := 2) rfl c (SB.jmp (r := 0) (d := 27) (k1 := 98) rfl hsn rfl h4)), _, _, _, _, _, rfl, hR⟩
      · have e : (k : Int) + d = (k1 : Int) := by
          have e : stepAt (.jump x d) k rs = (k : Int) + d := if_neg c
          rw [← e, hk1]
        have h3 : ∀ {n us'}, SB B uniP n 74 (ust s (if d < 0 then .node .leaf .leaf else .leaf) .leaf (reg rs x) (wayT d) (numT 1) (AH is k) (BH is k) (numT d.natAbs)) 103 us' → SB B uniP (6 + (n2 + 1 + 1 + 1 + 1 + 1 + 1 + 1 + 1 + 1) + (n + 1 + 1 + 1)) 103 (ust s w .leaf t v wd (AH is k) (BH is k) .leaf) 103 us' := fun {n us'} g => by
          refine h12.trans ?_
          refine SB.jmp (r := 3) (d := 2) (k1 := 72) rfl c rfl ?_
          refine SB.go1 (i := .head 1 4) rfl rfl rfl ?_
          exact SB.go1 (i := .tail 8 4) rfl rfl rfl g
        by_cases hd : d < 0
        · rw [if_pos hd] at h3
          obtain ⟨c2, hc2⟩ : ∃ c2, d.natAbs = c2 + 1 := ⟨d.natAbs - 1, by omega⟩
          obtain ⟨w4, h4⟩ := backw (B := B) (is := is) (k := k) (s := s) (p := .leaf) (t := reg rs x) (v := wayT d) (wd := numT 1) hsn c2 (numT d.natAbs) (by rw [hc2]; rfl) (by omega) (by omega) hsz (.node .leaf .leaf)
          have ek : k1 = k - (c2 + 1) := by omega
          subst ek
          exact ⟨_, _, by omega, by omega, h3 (SB.jmp (r := 1) (d := 3) (k1 := 77) rfl (fun z => by cases z) rfl h4), _, _, _, _, _, rfl, hR⟩
        · rw [if_neg hd] at h3
          cases hc2 : d.natAbs with
          | zero =>
            have ek : k1 = k := by omega
            subst ek
            rw [hc2] at h3
            exact ⟨_, _, by omega, by omega, h3 (SB.jno (r := 1) (d := 3) rfl rfl (SB.jno (r := 8) (d := 23) rfl rfl (SB.jmp (r := 0) (d := 27) (k1 := 103) rfl hsn rfl (.refl _ _)))), _, _, _, _, _, rfl, hR⟩
          | succ c2 =>
            have ek : k1 = k + (c2 + 1) := by omega
            subst ek
            obtain ⟨w4, h4⟩ := forw (B := B) (is := is) (k := k) (s := s) (p := .leaf) (t := reg rs x) (v := wayT d) (wd := numT 1) c2 (numT (c2 + 1)) rfl (by omega) hsz .leaf
            rw [hc2] at h3
            exact ⟨_, _, by omega, by omega, h3 (SB.jno (r := 1) (d := 3) rfl rfl (SB.jmp (r := 8) (d := 23) (k1 := 98) rfl (fun z => by cases z) rfl h4)), _, _, _, _, _, rfl, hR⟩
    | _ => cases hj
end
section
variable {B X : Nat} {is : List Ins} {n m k k' k2 : Nat} {rs rs' us rs2 : List Tr} {i : Ins} {x y : Tr}
theorem mem_rsum {rs : List Tr} {t : Tr} (h : t ∈ rs) : t.sg.length ≤ rsum rs := le_sum _ (List.mem_map.mpr ⟨t, h, rfl⟩)
theorem uni_many (hJ : JOk is) (hb : ∀ i ∈ is, i.below 20) (hB : 2 * X + 100 ≤ B) (hsz : (codeT is).sg.length + 1 ≤ B) (s : St is n k rs k' rs') : ∀ {us : List Tr}, rs.length = 20 → (∀ m k2 rs2, m ≤ n → St is m k rs k2 rs2 → rsum rs2 ≤ X) → FS is k rs us →
    ∃ N us', n ≤ N ∧ N ≤ n * (400 + 5 * is.length) ∧ SB B uniP N 103 us 103 us' ∧ FS is k' rs' us' := by
  induction s with
  | refl k rs => exact fun {us} _ _ h => ⟨0, us, Nat.le_refl _, Nat.zero_le _, .refl _ _, h⟩
  | @step n k k1 k' rs rs' i h g e t ih =>
    intro us hl hX hF
    obtain ⟨j2, e2, l2⟩ := hJ k i rs h
    have ek : k1 = j2 := by
      rw [e] at e2
      omega
    have hbi := hb i (List.mem_of_getElem? h)
    have h0 := hX 0 k rs (Nat.zero_le _) (.refl _ _)
    have h1 := hX 1 k1 (stepRs i rs) (by omega) (.step h g e (.refl _ _))
    have hn : (newT i rs).sg.length ≤ X := by
      cases hj : i.isJ with
      | true =>
        cases i with
        | jump a d =>
          show 1 ≤ _
          have := mem_rsum (reg_mem (rs := rs) (b := 0) (by omega))
          have := (reg rs 0).sg_len
          omega
        | _ => cases hj
      | false =>
        refine Nat.le_trans (mem_rsum ?_) h1
        rw [stepRs_no hj]
        exact List.mem_iff_getElem?.mpr ⟨i.a, by rw [List.getElem?_set_self (by rw [hl]; exact Ins.below_a hbi)]⟩
    have gB : bigB B i rs = false := by
      cases i with
      | cons a b c => exact decide_eq_false (by show ¬ B < (newT (.cons a b c) rs).sg.length; omega)
      | _ => rfl
    obtain ⟨N1, us1, p1, q1, s1, F1⟩ := uni_step h e (by omega) hbi hl gB hF hsz (by omega)
    obtain ⟨N2, us2, p2, q2, s2, F2⟩ := ih (us := us1) (by rw [stepRs_len]; exact hl) (fun m k2 rs2 hm t2 => hX (m + 1) k2 rs2 (by omega) (.step h g e t2)) F1
    refine ⟨N1 + N2, us2, by omega, ?_, s1.trans s2, F2⟩
    rw [Nat.succ_mul]
    omega
theorem uni_start (hx : x.sg.length + 2 ≤ B) : ∃ us, SB B uniP 4 0 (rs0 (.node (codeT is) x)) 103 us ∧ FS is 0 (rs0 x) us := by
  refine ⟨ust (.node x .leaf) .leaf .leaf .leaf .leaf .leaf (codeT is) .leaf .leaf, ?_, .node x .leaf, .leaf, .leaf, .leaf, .leaf, rfl, ⟨(fun z => by cases z), (by show 0 + 1 ≤ 20; decide), fun j hj => ?_⟩⟩
  · refine SB.go1 (i := .head 6 0) rfl rfl rfl ?_
    refine SB.go1 (i := .tail 0 0) rfl rfl rfl ?_
    refine SB.go1 (i := .cons 0 0 1) rfl (big_no (by show (Tr.node x .leaf).sg.length ≤ _; rw [node_len]; show 1 + _ + 1 ≤ _; omega)) rfl ?_
    exact SB.jmp (r := 0) (d := 100) (k1 := 103) rfl (fun z => by cases z) rfl (.refl _ _)
  · cases j with
    | zero => rfl
    | succ j =>
      show (tlN .leaf j).hd = _
      rw [tlN_leaf]
      show Tr.leaf = (List.replicate 19 Tr.leaf).getD j .leaf
      rw [List.getD_eq_getElem?_getD, List.getElem?_replicate]
      split <;> rfl
theorem uni_end (h : FS is is.length rs us) : ∃ us', SB B uniP 2 103 us 105 us' ∧ reg us' 0 = reg rs 0 := by
  obtain ⟨s, w, t, v, wd, rfl, hR⟩ := h
  have e : AH is is.length = .leaf := by
    show lstT ((is.map Ins.codeT).drop is.length) = _
    rw [List.drop_eq_nil_of_le (by rw [List.length_map]; exact Nat.le_refl _)]
    rfl
  rw [e]
  refine ⟨_, SB.jno (r := 6) (d := -99) rfl rfl (SB.go1 (i := .head 0 0) rfl rfl rfl (.refl _ _)), ?_⟩
  exact hR.at_ 0 (by decide)
theorem uniP_len : uniP.length = 105 := rfl
def okI (w k i n : Nat) : Ins → Bool
  | .set a t => decide (a < w) && decide (t.pairs ≤ k)
  | .move a b => decide (a < w) && decide (b < w)
  | .cons a b c => decide (a < w) && (decide (b < w) && decide (c < w))
  | .head a b => decide (a < w) && decide (b < w)
  | .tail a b => decide (a < w) && decide (b < w)
  | .jump a m => decide (a < w) && (decide (0 ≤ (i : Int) + m) && decide ((i : Int) + m ≤ n))
theorem okI_ok {w k i n : Nat} {x : Ins} (h : okI w k i n x = true) : x.ok w k i n := by
  cases x <;> simpa [okI, Ins.ok] using h
theorem uni_chk : ((List.range 105).all fun j => match uniP[j]? with | some x => okI 9 0 j 105 x | none => true) = true := by decide +kernel
theorem uni_ok : PgOk 9 0 uniP := fun j x hx => by
  have hj : j < 105 := (List.getElem?_eq_some_iff.mp hx).1
  have := List.all_eq_true.mp uni_chk j (List.mem_range.mpr hj)
  rw [hx] at this
  exact okI_ok this
theorem uni_jok : JOk uniP := uni_ok.jok
/-- the states of a run that are not too large -/
def Calm (is : List Ins) (n : Nat) (x : Tr) : Prop := ∀ m k2 rs2, m ≤ n → St is m 0 (rs0 x) k2 rs2 → rsum rs2 ≤ 99000
theorem rsum_rs0 (x : Tr) : rsum (rs0 x) = x.sg.length + 19 := rfl
theorem uni_ret (hJ : JOk is) (hb : ∀ i ∈ is, i.below 20) (hsz : (codeT is).sg.length + 1 ≤ 200000) (hC : Calm is n x) (r : Ret is n x y) : ∃ N, n ≤ N ∧ N ≤ 6 + n * (400 + 5 * is.length) ∧ Ret uniP N (.node (codeT is) x) y := by
  obtain ⟨us, s, e⟩ := r
  have h0 := hC 0 0 _ (Nat.zero_le _) (.refl _ _)
  rw [rsum_rs0] at h0
  obtain ⟨u0, s0, F0⟩ := uni_start (B := 200000) (is := is) (x := x) (by omega)
  obtain ⟨N, u1, p1, q1, s1, F1⟩ := uni_many (B := 200000) (X := 99000) hJ hb (by decide) hsz s (rs0_len x) hC F0
  obtain ⟨u2, s2, e2⟩ := uni_end (B := 200000) F1
  refine ⟨4 + (N + 2), by omega, by omega, u2, ?_, by rw [e2, e]⟩
  rw [uniP_len]
  exact (s0.trans (s1.trans s2)).st (Nat.le_refl _)
theorem uni_out (hJ : JOk is) (hb : ∀ i ∈ is, i.below 20) (hsz : (codeT is).sg.length + 1 ≤ 200000) (hC : Calm is n x) (r : Out is n x) : Out uniP n (.node (codeT is) x) := by
  obtain ⟨k, us, s, hk⟩ := r
  have h0 := hC 0 0 _ (Nat.zero_le _) (.refl _ _)
  rw [rsum_rs0] at h0
  obtain ⟨u0, s0, F0⟩ := uni_start (B := 200000) (is := is) (x := x) (by omega)
  obtain ⟨N, u1, p1, q1, s1, F1⟩ := uni_many (B := 200000) (X := 99000) hJ hb (by decide) hsz s (rs0_len x) hC F0
  obtain ⟨k2, rs2, g1, g2⟩ := (Out.go (m := n) ⟨103, u1, (s0.trans s1).st (Nat.le_refl _), by rw [uniP_len]; omega⟩ (by omega) : ∃ k2 rs2, go uniP n 0 (rs0 (.node (codeT is) x)) = some (k2, rs2, n) ∧ k2 < uniP.length)
  exact Out.of_go uni_jok g1 g2
/-! ### runs below B, and the universal program on its own code -/
theorem uni_retB (hJ : JOk is) (hb : ∀ i ∈ is, i.below 20) (hB : 2 * X + 100 ≤ B) (hsz : (codeT is).sg.length + 1 ≤ B) (hx : x.sg.length + 2 ≤ B) (hC : ∀ m k2 rs2, m ≤ n → St is m 0 (rs0 x) k2 rs2 → rsum rs2 ≤ X) (r : Ret is n x y) :
    ∃ N us, n ≤ N ∧ N ≤ 6 + n * (400 + 5 * is.length) ∧ SB B uniP N 0 (rs0 (.node (codeT is) x)) 105 us ∧ reg us 0 = y := by
  obtain ⟨us, s, e⟩ := r
  obtain ⟨u0, s0, F0⟩ := uni_start (B := B) (is := is) (x := x) hx
  obtain ⟨N, u1, p1, q1, s1, F1⟩ := uni_many (B := B) (X := X) hJ hb hB hsz s (rs0_len x) hC F0
  obtain ⟨u2, s2, e2⟩ := uni_end (B := B) F1
  exact ⟨4 + (N + 2), u2, by omega, by omega, s0.trans (s1.trans s2), by rw [e2, e]⟩
theorem SB.pre (s : St is m k rs k2 rs2) : ∀ {n k' : Nat} {rs' : List Tr}, m ≤ n → SB B is n k rs k' rs' → SB B is m k rs k2 rs2 := by
  induction s with
  | refl k rs => exact fun _ _ => .refl _ _
  | @step m k k1 k2 rs rs2 i h g e t ih =>
    intro n k' rs' hm s
    cases s with
    | refl => omega
    | @step n _ k3 _ _ _ i2 h2 g2 e2 t2 =>
      rw [h] at h2
      cases h2
      rw [e] at e2
      have ek : k1 = k3 := by omega
      subst ek
      exact .step h g2 e (ih (by omega) t2)
theorem newT_leB (hl : rs.length = 20) (hb : i.below 20) (hi : i.big ≤ B) (h1 : 1 ≤ B) (g : bigB B i rs = false) (h : ∀ t ∈ rs, t.sg.length ≤ B) : (newT i rs).sg.length ≤ B := by
  have rg : ∀ b, b ∈ i.regs → (reg rs b).sg.length ≤ B := fun b hr => h _ (reg_mem (by rw [hl]; exact hb b hr))
  cases i with
  | set a t => exact hi
  | move a b => exact rg b (by simp [Ins.regs])
  | cons a b c =>
    have g : ¬ B < _ := of_decide_eq_false g
    show (Tr.node (reg rs b) (reg rs c)).sg.length ≤ _
    omega
  | head a b => exact Nat.le_trans (hd_len _) (rg b (by simp [Ins.regs]))
  | tail a b => exact Nat.le_trans (tl_len _) (rg b (by simp [Ins.regs]))
  | jump a d => exact h1
theorem SB.le (hb : ∀ i ∈ is, i.below 20) (hi : ∀ i ∈ is, i.big ≤ B) (h1 : 1 ≤ B) (s : SB B is n k rs k' rs') : rs.length = 20 → (∀ t ∈ rs, t.sg.length ≤ B) → ∀ t ∈ rs', t.sg.length ≤ B := by
  induction s with
  | refl k rs => exact fun _ h => h
  | @step n k k1 k' rs rs' i h g e t ih =>
    intro hl hr
    have hm := List.mem_of_getElem? h
    exact ih (by rw [stepRs_len]; exact hl) (stepRs_le hr fun _ => newT_leB hl (hb i hm) (hi i hm) h1 g hr)
theorem rsum_leN {m : Nat} : ∀ rs : List Tr, (∀ t ∈ rs, t.sg.length ≤ m) → rsum rs ≤ rs.length * m
  | [], _ => Nat.zero_le _
  | t :: rs, h => by
    have ih := rsum_leN rs fun u hu => h u (.tail _ hu)
    have h1 := h t (.head _)
    have e : rsum (t :: rs) = t.sg.length + rsum rs := by
      unfold rsum
      rw [List.map_cons, List.sum_cons]
    rw [e, List.length_cons, Nat.succ_mul]
    omega
theorem uni_below : ∀ i ∈ uniP, i.below 20 := fun i hi r hr => by
  obtain ⟨j, hj⟩ := List.mem_iff_getElem?.mp hi
  exact Nat.lt_of_lt_of_le (Ins.ok_below (uni_ok j i hj) r hr) (by decide)
/-- in a run of the universal program below B the registers together stay at most 20 * B -/
theorem uni_calm {z : Tr} (hz : z.sg.length ≤ B) (hB : 20 * B ≤ X) (s : SB B uniP n 0 (rs0 z) k' us) : ∀ m k2 rs2, m ≤ n → St uniP m 0 (rs0 z) k2 rs2 → rsum rs2 ≤ X := fun m k2 rs2 hm t => by
  have hz1 := z.sg_len
  have h := SB.le uni_below (fun i hi => Nat.le_trans (uni_ok.big i hi) (by omega)) (by omega) (SB.pre t hm s) (rs0_len z) (fun u hu => by
    rcases List.mem_cons.mp hu with rfl | hu
    · exact hz
    · rw [(List.mem_replicate.mp hu).2]
      show 1 ≤ _
      omega)
  have hl : rs2.length = 20 := by rw [t.len]; exact rs0_len z
  have := rsum_leN rs2 h
  rw [hl] at this
  omega
end
end Nx

/-! The lines of the universal program. -/
namespace Nx
open PySem PySem.Spec PyProof.Rows L2
/-- a list of lines -/
def LnsAt (H : Hp) (p : Addr) (ls : List Line) : Prop := ∃ xs, H p = some (.lst xs) ∧ Lns H xs ls
theorem LnsAt.same {H H' : Hp} {p : Addr} {ls : List Line} (h : LnsAt H p ls) (s : Same H H') : LnsAt H' p ls := by
  obtain ⟨xs, h1, h2⟩ := h
  exact ⟨xs, s _ _ h1, h2.same s⟩
/-- one row more -/
theorem ln_put {H : Hp} {T : Addr} {vs : List V} {ls : List Line} (l : Line) (hL : Lns H vs ls) (n : H T = none) : Lns (upd H T (.tup l.vs)) (vs ++ [.ref T]) (ls ++ [l]) :=
  Paired.app (hL.same (Same.upd n)) (.cons ⟨T, rfl, upd_same⟩ .nil)
/-- a list of lines behind the rows -/
theorem lns_star {H : Hp} {vs ys : List V} {ls ms : List Line} (hL : Lns H vs ls) (h : Lns H ys ms) : Lns H (vs ++ ys) (ls ++ ms) := Paired.app hL h
theorem ln_end {H : Hp} {xs : List V} {ls : List Line} {p : Addr} (hL : Lns H xs ls) (n : H p = none) : LnsAt (upd H p (.lst xs)) p ls := ⟨xs, upd_same, hL.same (Same.upd n)⟩
theorem LnsAt.cat {H : Hp} {a b : Addr} {ls ms : List Line} (h : LnsAt H a ls) (g : LnsAt H b ms) : ∃ xs ys, H a = some (.lst xs) ∧ H b = some (.lst ys) ∧ xs.length = ls.length ∧ ys.length = ms.length ∧ ∀ p, H p = none → LnsAt (upd H p (.lst (xs ++ ys))) p (ls ++ ms) := by
  obtain ⟨xs, h1, h2⟩ := h
  obtain ⟨ys, g1, g2⟩ := g
  exact ⟨xs, ys, h1, g1, Paired.len h2, Paired.len g2, fun p n => ln_end (Paired.app h2 g2) n⟩
def lkL (r : Nat) : List Line := [.ins (.move 1 0), .ins (.jump r 2), .ins (.jump 0 4), .ins (.tail 1 1), .ins (.tail r r), .ins (.jump r (-2)), .ins (.head r 1)]
def goL : List Line := [.mark "forward", .ins (.head 1 6), .ins (.cons 7 1 7), .ins (.tail 6 6), .ins (.tail 8 8), .jmp 8 "forward", .mark "fetch", .jmp 6 "decode", .ins (.head 0 0)]
def chL : List Line := [.mark "change", .jmp 3 "down", .ins (.tail 0 0), .ins (.cons 0 4 0), .jmp 0 "forward", .mark "down", .ins (.head 1 0), .ins (.cons 2 1 2), .ins (.tail 0 0), .ins (.tail 3 3), .jmp 3 "down", .ins (.tail 0 0), .ins (.cons 0 4 0), .mark "up", .ins (.head 1 2), .ins (.cons 0 1 0), .ins (.tail 2 2), .jmp 2 "up"]
def bgL : List Line := [.ins (.head 6 0), .ins (.tail 0 0), .ins (.cons 0 0 1), .jmp 0 "fetch"]
def dcL : List Line := [.mark "decode", .ins (.head 4 6), .ins (.head 5 4), .ins (.tail 4 4), .ins (.head 3 4), .ins (.tail 4 4), .jmp 5 "move", .jmp 0 "change"]
def caL (n f : Str) (ls : List Line) : List Line := [.mark n, .ins (.tail 5 5), .jmp 5 f] ++ ls ++ [.jmp 0 "change"]
def jmL : List Line := [.mark "jump"] ++ lkL 3 ++ [.jmp 3 "made", .jmp 0 "forward", .mark "made", .ins (.head 1 4), .ins (.tail 8 4), .jmp 1 "back", .jmp 8 "forward", .jmp 0 "fetch", .mark "back", .ins (.head 1 7), .ins (.cons 6 1 6), .ins (.tail 7 7), .ins (.tail 8 8), .jmp 8 "back", .jmp 0 "fetch"]
def mkL : List Line := caL "move" "cons" (lkL 4) ++ caL "cons" "head" ([.ins (.head 5 4), .ins (.tail 4 4)] ++ lkL 5 ++ lkL 4 ++ [.ins (.cons 4 5 4)]) ++ caL "head" "tail" (lkL 4 ++ [.ins (.head 4 4)]) ++ caL "tail" "jump" (lkL 4 ++ [.ins (.tail 4 4)])
def unL : List Line := bgL ++ dcL ++ mkL ++ jmL ++ chL ++ goL
/-- where the marks stand -/
def unD (n : Str) : Nat := (mval unL n).getD 0
theorem un_plc : plc unD 0 unL = uniP := by decide +kernel
theorem un_chk : (unL.all fun l => match l with | .jmp _ n => (mval unL n).isSome | .ins x => decide (x.big ≤ 1000000) | _ => true) = true := by decide +kernel
theorem un_marks : ∀ r n, Line.jmp r n ∈ unL → mval unL n = some (unD n) := fun r n h => by
  have := List.all_eq_true.mp un_chk _ h
  obtain ⟨v, hv⟩ := Option.isSome_iff_exists.mp this
  unfold unD
  rw [hv]
  rfl
theorem un_bigs : ∀ i ∈ unL, ∀ x, i = Line.ins x → x.big ≤ 1000000 := fun i h x e => by
  have := List.all_eq_true.mp un_chk _ h
  rw [e] at this
  exact of_decide_eq_true this
theorem un_len : unL.length ≤ 1000000 := by decide +kernel
end Nx

/-! Fixed points: a program in front of the universal one; runs that may grow too large. -/
namespace Nx
open PySem PySem.Spec PyProof.Rows L2
section
variable {is t A : List Ins} {n m k k' N B X : Nat} {rs rs' us : List Tr} {x y c v z : Tr}
/-- one of the first n steps is too large -/
def TooBig (is : List Ins) (n : Nat) (x : Tr) : Prop := ∃ m k rs i, m < n ∧ St is m 0 (rs0 x) k rs ∧ is[k]? = some i ∧ bigS i rs = true
theorem TooBig.go (h : TooBig is n x) (hm : n ≤ m) : Nx.go is m 0 (rs0 x) = none := by
  obtain ⟨j, k, rs, i, h1, h2, h3, h4⟩ := h
  have := h2.rn.big h3 h4 (m - (j + 1))
  rw [show j + (m - (j + 1) + 1) = m by omega] at this
  exact this
/-- a run without the limit: with it the same, or one of its steps is too large -/
theorem SB.or (s : SB B is n k rs k' rs') : St is n k rs k' rs' ∨ ∃ m k2 rs2 i, m < n ∧ St is m k rs k2 rs2 ∧ is[k2]? = some i ∧ bigS i rs2 = true := by
  induction s with
  | refl k rs => exact .inl (.refl _ _)
  | @step n k k1 k' rs rs' i h g e t ih =>
    cases hg : bigS i rs with
    | true => exact .inr ⟨0, k, rs, i, by omega, .refl _ _, h, hg⟩
    | false =>
      rcases ih with ih | ⟨m, k2, rs2, i2, h1, h2, h3, h4⟩
      · exact .inl (.step h hg e ih)
      · exact .inr ⟨m + 1, k2, rs2, i2, by omega, .step h hg e h2, h3, h4⟩
theorem St.sb (s : St is n k rs k' rs') : SB 200000 is n k rs k' rs' := by
  induction s with
  | refl k rs => exact .refl _ _
  | @step n k k1 k' rs rs' i h g e t ih =>
    refine .step h ?_ e ih
    cases i with
    | cons a b c => exact g
    | _ => rfl
/-- the universal program without the limit -/
theorem uni_any (hJ : JOk is) (hb : ∀ i ∈ is, i.below 20) (hi : ∀ i ∈ is, i.big ≤ 200000) (hx : x.sg.length ≤ 200000) (r : Ret is n x y) : ∃ B N us, n ≤ N ∧ N ≤ 6 + n * (400 + 5 * is.length) ∧ SB B uniP N 0 (rs0 (.node (codeT is) x)) 105 us ∧ reg us 0 = y := by
  obtain ⟨L, hL⟩ : ∃ L, L = 200000 := ⟨_, rfl⟩
  have hX : ∀ m k2 rs2, m ≤ n → St is m 0 (rs0 x) k2 rs2 → rsum rs2 ≤ 20 * L := fun m k2 rs2 _ s => by
    have h := SB.le hb hi (by decide) s.sb (rs0_len x) (fun u hu => by
      rcases List.mem_cons.mp hu with rfl | hu
      · exact hx
      · rw [(List.mem_replicate.mp hu).2]
        decide)
    rw [← hL] at h
    have h2 := rsum_leN rs2 h
    have hl : rs2.length = 20 := by rw [s.len]; exact rs0_len x
    rw [hl] at h2
    exact h2
  obtain ⟨N, us, h1, h2, h3, h4⟩ := uni_retB (X := 20 * L) (B := 2 * (20 * L) + 100 + ((codeT is).sg.length + 1) + (x.sg.length + 2)) hJ hb (by omega) (by omega) (by omega) hX r
  exact ⟨_, N, us, h1, h2, h3, h4⟩
/-! ### the fixed point -/
def fxA : List Ins := [.move 16 0, .move 0 1, .set 1 .leaf]
def fxQ (t : List Ins) : List Ins := (fxA ++ t) ++ (.cons 0 0 16 :: cln 9)
def fxP (t : List Ins) : List Ins := fxQ t ++ uniP
theorem cln9_len : (cln 9).length = 8 := rfl
theorem fxQ_len (t : List Ins) : (fxQ t).length = t.length + 12 := by
  unfold fxQ
  rw [List.length_append, List.length_append, List.length_cons, cln9_len]
  show 3 + t.length + (8 + 1) = _
  omega
theorem fxP_len (t : List Ins) : (fxP t).length = t.length + 117 := by
  unfold fxP
  rw [List.length_append, fxQ_len, uniP_len]
theorem fx_start (x c : Tr) : ∃ us, St fxA 3 0 (rs1 x c) 3 us ∧ us.length = 20 ∧ reg us 16 = x ∧ Ag 16 (rs0 c) us := by
  refine ⟨(((rs1 x c).set 16 x).set 0 c).set 1 .leaf, .step (i := .move 16 0) rfl rfl (k1 := 1) rfl (.step (i := .move 0 1) rfl rfl (k1 := 2) rfl (.step (i := .set 1 .leaf) rfl rfl (k1 := 3) rfl (.refl _ _))), rfl, rfl, fun j hj => ?_⟩
  match j, hj with
  | 0, _ => rfl
  | 1, _ => rfl
  | 2, _ => rfl
  | 3, _ => rfl
  | 4, _ => rfl
  | 5, _ => rfl
  | 6, _ => rfl
  | 7, _ => rfl
  | 8, _ => rfl
  | 9, _ => rfl
  | 10, _ => rfl
  | 11, _ => rfl
  | 12, _ => rfl
  | 13, _ => rfl
  | 14, _ => rfl
  | 15, _ => rfl
  | j + 16, h => omega
/-- what the given program does stands in front -/
theorem fx_run (hw : ∀ i ∈ t, i.below 16) (s : St t n 0 (rs0 c) k rs) : ∃ us, St (fxA ++ t) (3 + n) 0 (rs1 x c) (3 + k) us ∧ us.length = 20 ∧ reg us 16 = x ∧ Ag 16 rs us := by
  obtain ⟨us, s0, l, e, a⟩ := fx_start x c
  obtain ⟨zs, tz, az, lz, oz⟩ := s.agree (w := 16) hw a (by show 16 ≤ 20; decide) (by omega)
  exact ⟨zs, St.seq (A := fxA) s0 tz, by rw [lz, l], by rw [oz 16 (Nat.le_refl _), e], az⟩
theorem fx_pre (hw : ∀ i ∈ t, i.below 16) (r : Ret t n c y) (hf : (Tr.node y x).sg.length ≤ 200000) : ∃ vs, St (fxQ t) (n + 12) 0 (rs1 x c) (fxQ t).length vs ∧ vs.length = 20 ∧ Ag 9 (rs0 (.node y x)) vs := by
  obtain ⟨rs, s, e⟩ := r
  obtain ⟨us, s1, l, e16, a⟩ := fx_run (x := x) hw s
  have e0 : reg us 0 = y := by rw [← a 0 (by decide), e]
  have hl3 : (fxA ++ t).length = 3 + t.length := by rw [List.length_append]; rfl
  have one : St (.cons 0 0 16 :: cln 9) 1 0 us 1 (us.set 0 (.node y x)) := by
    refine .step (i := .cons 0 0 16) rfl (decide_eq_false ?_) (k1 := 1) rfl ?_
    · show ¬ 200000 < (Tr.node (reg us 0) (reg us 16)).sg.length
      rw [e0, e16]
      omega
    · have : stepRs (.cons 0 0 16) us = us.set 0 (.node y x) := by
        show us.set 0 (.node (reg us 0) (reg us 16)) = _
        rw [e0, e16]
      rw [this]
      exact .refl _ _
  obtain ⟨vs, s2, lv, ev⟩ := cln_run 9 (us.set 0 (.node y x)) (by rw [List.length_set, l]; decide)
  have s2 := s2.right [.cons 0 0 16]
  have two : St (.cons 0 0 16 :: cln 9) (1 + 8) 0 us 9 vs := one.trans s2
  have s1 : St (fxA ++ t) (3 + n) 0 (rs1 x c) (fxA ++ t).length us := s1.cast rfl hl3.symm
  refine ⟨vs, (St.seq s1 two).cast (by omega) (by rw [fxQ_len, hl3]; omega), by rw [lv, List.length_set, l], fun j hj => ?_⟩
  rw [ev, rs0_reg]
  by_cases c0 : j = 0
  · subst c0
    rw [if_pos rfl, if_neg (by omega), reg_set _ (by omega)]
  · rw [if_neg c0, if_pos (by omega)]
theorem uni_bel9 : ∀ i ∈ uniP, i.below 9 := fun i hi r hr => by
  obtain ⟨j, hj⟩ := List.mem_iff_getElem?.mp hi
  exact Ins.ok_below (uni_ok j i hj) r hr
/-- the whole: 18 steps more than the given one and the universal one -/
theorem fx_st (h : (codeT (wocP (fxP t))).sg.length ≤ 200000) (hw : ∀ i ∈ t, i.below 16) (r : Ret t n (codeT (wocP (fxP t))) y) (hf : (Tr.node y x).sg.length ≤ 200000) (s : St uniP N 0 (rs0 (.node y x)) k us) : ∃ vs, St (wocP (fxP t)) (n + N + 18) 0 (rs0 x) (6 + ((fxQ t).length + k)) vs ∧ Ag 9 us vs := by
  obtain ⟨ws, s1, l, a⟩ := fx_pre (x := x) hw r hf
  obtain ⟨zs, tz, az, lz, oz⟩ := s.agree (w := 9) uni_bel9 a (by show 9 ≤ 20; decide) (by omega)
  exact ⟨zs, (woc_run h (St.seq (A := fxQ t) s1 tz)).cast (by omega) rfl, az⟩
theorem fx_len (t : List Ins) : (wocP (fxP t)).length = 6 + ((fxQ t).length + 105) := by
  rw [woc_is, List.length_append]
  show 6 + (fxP t).length = _
  unfold fxP
  rw [List.length_append, uniP_len]
theorem fx_ret (h : (codeT (wocP (fxP t))).sg.length ≤ 200000) (hw : ∀ i ∈ t, i.below 16) (r : Ret t n (codeT (wocP (fxP t))) y) (hf : (Tr.node y x).sg.length ≤ 200000) (s : Ret uniP N (.node y x) v) : Ret (wocP (fxP t)) (n + N + 18) x v := by
  obtain ⟨us, s, e⟩ := s
  obtain ⟨vs, s2, a⟩ := fx_st h hw r hf s
  exact ⟨vs, s2.cast rfl (fx_len t).symm, by rw [← a 0 (by decide), e]⟩
theorem fx_out (h : (codeT (wocP (fxP t))).sg.length ≤ 200000) (hw : ∀ i ∈ t, i.below 16) (r : Ret t n (codeT (wocP (fxP t))) y) (hf : (Tr.node y x).sg.length ≤ 200000) (s : Out uniP N (.node y x)) : Out (wocP (fxP t)) (n + N + 18) x := by
  obtain ⟨k, us, s, hk⟩ := s
  obtain ⟨vs, s2, a⟩ := fx_st h hw r hf s
  rw [uniP_len] at hk
  exact ⟨_, vs, s2, by rw [fx_len]; omega⟩
theorem fx_big (h : (codeT (wocP (fxP t))).sg.length ≤ 200000) (hw : ∀ i ∈ t, i.below 16) (r : Ret t n (codeT (wocP (fxP t))) y) (hf : (Tr.node y x).sg.length ≤ 200000) (s : TooBig uniP N (.node y x)) : TooBig (wocP (fxP t)) (n + N + 18) x := by
  obtain ⟨m, k, us, i, h1, h2, h3, h4⟩ := s
  obtain ⟨vs, s2, a⟩ := fx_st h hw r hf h2
  refine ⟨_, _, vs, i, by omega, s2, ?_, by rw [← a.big (uni_bel9 i (List.mem_of_getElem? h3))]; exact h4⟩
  have e : wocP (fxP t) = (preP (fxP t) ++ fxQ t) ++ uniP := by
    rw [woc_is]
    show preP _ ++ (fxQ t ++ uniP) = _
    rw [List.append_assoc]
  rw [e, List.getElem?_append_right (by rw [List.length_append]; show 6 + (fxQ t).length ≤ _; omega)]
  have : 6 + ((fxQ t).length + k) - (preP (fxP t) ++ fxQ t).length = k := by
    rw [List.length_append]
    show 6 + ((fxQ t).length + k) - (6 + (fxQ t).length) = k
    omega
  rw [this]
  exact h3
/-- what a fixed point does on x, if the given program returns the code of a program that returns something -/
theorem fx_all (h : (codeT (wocP (fxP t))).sg.length ≤ 200000) (hw : ∀ i ∈ t, i.below 16) {p : List Ins} (r : Ret t n (codeT (wocP (fxP t))) (codeT p)) (hf : (Tr.node (codeT p) x).sg.length ≤ 200000) (hJ : JOk p) (hb : ∀ i ∈ p, i.below 20) (hi : ∀ i ∈ p, i.big ≤ 200000) (s : Ret p m x v) :
    ∃ M, M ≤ n + 100 * (p.length + 40) * (m + 1) + 200 ∧ (Ret (wocP (fxP t)) M x v ∨ TooBig (wocP (fxP t)) M x) := by
  have hx : x.sg.length ≤ 200000 := by
    rw [node_len] at hf
    omega
  obtain ⟨B, N, us, h1, h2, h3, h4⟩ := uni_any hJ hb hi hx s
  refine ⟨n + N + 18, ?_, ?_⟩
  · have h5 : m * (400 + 5 * p.length) ≤ m * (100 * (p.length + 40)) := Nat.mul_le_mul_left _ (by omega)
    rw [Nat.mul_succ, Nat.mul_comm (100 * (p.length + 40)) m]
    omega
  · rcases h3.or with g | ⟨m2, k2, rs2, i, g1, g2, g3, g4⟩
    · exact .inl (fx_ret h hw r hf ⟨us, g.cast rfl uniP_len.symm, h4⟩)
    · exact .inr (fx_big h hw r hf ⟨m2, k2, rs2, i, g1, g2, g3, g4⟩)
/-! ### it is a program -/
theorem fxP_ok (h : PgOk 16 200000 t) : PgOk 17 200000 (fxP t) := by
  have h1 : PgOk 17 200000 fxA := PgOk.flat fun i hi => by
    simp only [fxA, List.mem_cons, List.not_mem_nil, or_false] at hi
    rcases hi with rfl | rfl | rfl
    · exact ⟨rfl, by decide, by decide⟩
    · exact ⟨rfl, by decide, by decide⟩
    · exact ⟨rfl, by decide, Nat.zero_le _⟩
  have h2 : PgOk 17 200000 ([.cons 0 0 16] : List Ins) := PgOk.flat fun i hi => by
    rw [List.mem_singleton.mp hi]
    exact ⟨rfl, by decide, by decide, by decide⟩
  have h3 : PgOk 17 200000 (cln 9) := cln_ok (by decide)
  have h4 : PgOk 17 200000 uniP := fun j i hj => by
    have := uni_ok j i hj
    cases i with
    | set a t => exact ⟨by have := this.1; omega, by have := this.2; omega⟩
    | move a b => exact ⟨by have := this.1; omega, by have := this.2; omega⟩
    | cons a b c => exact ⟨by have := this.1; omega, by have := this.2.1; omega, by have := this.2.2; omega⟩
    | head a b => exact ⟨by have := this.1; omega, by have := this.2; omega⟩
    | tail a b => exact ⟨by have := this.1; omega, by have := this.2; omega⟩
    | jump a d => exact ⟨by have := this.1; omega, this.2⟩
  exact ((h1.app (PgOk.wide h (by decide))).app (h2.app h3)).app h4
theorem fxP_mem {P : Ins → Prop} (h1 : P (.move 16 0)) (h2 : P (.move 0 1)) (h3 : P (.set 1 .leaf)) (h4 : P (.cons 0 0 16)) (h5 : ∀ k, k < 8 → P (.set (k + 1) .leaf)) (h6 : ∀ i ∈ uniP, P i) (h : ∀ i ∈ t, P i) : ∀ i ∈ fxP t, P i := fun i hi => by
  unfold fxP fxQ at hi
  rcases List.mem_append.mp hi with hi | hi
  · rcases List.mem_append.mp hi with hi | hi
    · rcases List.mem_append.mp hi with hi | hi
      · simp only [fxA, List.mem_cons, List.not_mem_nil, or_false] at hi
        rcases hi with rfl | rfl | rfl
        · exact h1
        · exact h2
        · exact h3
      · exact h i hi
    · rcases List.mem_cons.mp hi with rfl | hi
      · exact h4
      · obtain ⟨k, hk, rfl⟩ := cln_mem hi
        exact h5 k hk
  · exact h6 i hi
theorem sumC_uni : sumC uniP ≤ 7000 := by decide +kernel
theorem sumC_fx (t : List Ins) : sumC (fxP t) ≤ sumC t + 7500 := by
  unfold fxP fxQ
  have hu := sumC_uni
  have h1 : sumC fxA ≤ 100 := by decide +kernel
  have h2 : sumC (.cons 0 0 16 :: cln 9) ≤ 200 := by decide +kernel
  rw [sumC_app, sumC_app, sumC_app]
  omega
end
end Nx

namespace Nx
open PySem PySem.Spec PyProof.Rows L2
def topS (i : Nat) : Stmt := PySem.Challenge.pw_narcissus_k40_too_wide_everywhere.main.body.getD i (.Pass ⟨0, 0, 0, 0⟩)
/-- the top's built-ins and constants -/
structure Txt (K : PySem.W.Frag) (mg : Str → Option Value) (cl : Cn → Addr) (w : World) : Prop where
  m_list : mg "list" = none
  m_int : mg "int" = none
  m_abs : mg "abs" = none
  m_len : mg "len" = none
  m_range : mg "range" = none
  m_sum : mg "sum" = none
  m_reversed : mg "reversed" = none
  m_zip : mg "zip" = none
  m_max : mg "max" = none
  m_isinstance : mg "isinstance" = none
  m_str : mg "str" = none
  m_all : mg "all" = none
  m_tuple : mg "tuple" = none
  m_WORDS : mg "WORDS" = some (.ref (cl .WORDS)) ∧ (∀ H, SqT K H (cl .WORDS) ([("set" : Str), ("move" : Str), ("cons" : Str), ("head" : Str), ("tail" : Str), ("jump" : Str)].map V.str)) ∧ ∃ o, K.lookup (cl .WORDS) = some o ∧ o.cls = .type "tuple" ∧ o.dict = none
  m_SHAPES : mg "SHAPES" = some (.ref (cl .SHAPES)) ∧ DLit K w (cl .SHAPES) [(("set" : Str), ("rt" : Str)), (("move" : Str), ("rr" : Str)), (("cons" : Str), ("rrr" : Str)), (("head" : Str), ("rr" : Str)), (("tail" : Str), ("rr" : Str)), (("jump" : Str), ("rn" : Str))]
  m_CODE_OF_FIRST : mg "CODE_OF_FIRST" = some (.ref (cl .CODE_OF_FIRST)) ∧ ∃ b0 b1 b2 : Addr, ∀ H, SqT K H (cl .CODE_OF_FIRST) [.ref b0, .ref b1, .ref b2] ∧ SqT K H b0 [.str "set", .int 2, .str "100"] ∧ SqT K H b1 [.str "cons", .int 2, .int 2, .int 1] ∧ SqT K H b2 [.str "cons", .int 2, .int 3, .int 2]
  m_MOST_TREE : ∃ t, mg "MOST_TREE" = some (.int 200000 t)
  m_LEAF : ∃ t, mg "LEAF" = some (.str "0" t)
  m_MOST_CODE : ∃ t, mg "MOST_CODE" = some (.int 600 t)
  m_BACK : ∃ t, mg "BACK" = some (.str "100" t)
  m_MOST_WIDTH : ∃ t, mg "MOST_WIDTH" = some (.int 16 t)
  m_STATE : ∃ t, mg "STATE" = some (.int 0 t)
  m_WALK : ∃ t, mg "WALK" = some (.int 1 t)
  m_PASSED : ∃ t, mg "PASSED" = some (.int 2 t)
  m_TARGET : ∃ t, mg "TARGET" = some (.int 3 t)
  m_VALUE : ∃ t, mg "VALUE" = some (.int 4 t)
  m_WORD : ∃ t, mg "WORD" = some (.int 5 t)
  m_AHEAD : ∃ t, mg "AHEAD" = some (.int 6 t)
  m_BEHIND : ∃ t, mg "BEHIND" = some (.int 7 t)
  m_WAY : ∃ t, mg "WAY" = some (.int 8 t)
  m_PAIR : ∃ t, mg "PAIR" = some (.str "100" t)
  e_TooLarge : mg "TooLarge" = some (.ref (cl .TooLarge)) ∧ ExcK K (cl .TooLarge)
  p_TooLarge_TooLarge : PySem.W.kitOne K (.ref (cl .TooLarge)) (.ref (cl .TooLarge)) = some true ∧ PySem.W.subIn K (.ref (cl .TooLarge)) (.ref (cl .TooLarge)) = some true
  p_TooLarge_TooWide : PySem.W.kitOne K (.ref (cl .TooLarge)) (.ref (cl .TooWide)) = some false ∧ PySem.W.subIn K (.ref (cl .TooLarge)) (.ref (cl .TooWide)) = some false
  e_TooWide : mg "TooWide" = some (.ref (cl .TooWide)) ∧ ExcK K (cl .TooWide)
  p_TooWide_TooLarge : PySem.W.kitOne K (.ref (cl .TooWide)) (.ref (cl .TooLarge)) = some false ∧ PySem.W.subIn K (.ref (cl .TooWide)) (.ref (cl .TooLarge)) = some false
  p_TooWide_TooWide : PySem.W.kitOne K (.ref (cl .TooWide)) (.ref (cl .TooWide)) = some true ∧ PySem.W.subIn K (.ref (cl .TooWide)) (.ref (cl .TooWide)) = some true
section
variable {P : Program} {w : World} {K : PySem.W.Frag} {mg : Str → Option Value} {base : Heap} {cl : Cn → Addr}
abbrev s_law_stream : Stmt := topS 62
abbrev nm_law_stream : List Str := ["script", "mixed", "cell"]
theorem sc_law_stream : FnScope nm_law_stream ["script"] (defScope s_law_stream) := ⟨rfl, rfl, rfl, by decide +kernel, rfl, by decide +kernel, by decide +kernel⟩
def sp_law_stream (K : PySem.W.Frag) (cl : Cn → Addr) : Sp := fun vs H Q _ => ∃ (a : Addr) (ns : List Int), vs = [.ref a] ∧ SqL K H a (ns.map V.int) ∧ ns.length ≤ 63 ∧ ∀ st H', Same H H' → H st = none → Strm H' st → Q (.ref st) H'
theorem ok_law_stream (T : Txt K mg cl w) {f : Addr} {fd : FuncData} (F : Fun K "_law_stream" "_law_stream" s_law_stream f fd) : FnOk P w K mg base CX0 1 f fd ["script"] (sp_law_stream K cl) := by
  have m_list := T.m_list
  have m_int := T.m_int
  refine F.ok sc_law_stream (fun vs H Q E h => ?_) (fun cdv A outer s H vs Q E hr h => ?_)
  · obtain ⟨x, i, rfl, _⟩ := h
    rfl
  · obtain ⟨a, ns, rfl, hS, hlen, q⟩ := h
    refine ⟨_, (pss_cons (ps_set (i := 1) sc_law_stream.nd rfl (Or.inl rfl) pe_int)
      (pss_cons (ps_for PassesOwn.never rfl (pi_list (pv 0)) (pg_name (i := 2) sc_law_stream.nd rfl (Or.inl rfl)) (pss_one (ps_set (i := 1) sc_law_stream.nd rfl (Or.inl rfl) (pe_op op_mod (pe_callTy call_int1 (by rfl) m_int (by decide +kernel) (pa_cons (pe_op op_add (pe_op op_add (pe_op op_mul (pv 1) pe_int) (pe_op op_mod (pe_callTy call_int1 (by rfl) m_int (by decide +kernel) (pa_cons (pv 2) pa_nil)) pe_int)) pe_int) pa_nil)) pe_int))))
      (pss_one (ps_ret (pe_lst (pa_cons (pe_callTy (call_listOf : CallR _ _ (rListOf K)) (by rfl) m_list (by decide +kernel) (pa_cons (pv 0) pa_nil)) (pa_cons pe_int (pa_cons pe_int (pa_cons (pv 1) pa_nil))))))))), ?_⟩
    refine ⟨_, rfl, a, rfl, ⟨_, hS⟩, for_list (K := K) (a := a) (xs := ns.map V.int) (fun i σ H' => ∃ (m : Int) (v : Option V), σ = [some (.ref a), some (.int m), v] ∧ H = H' ∧ 0 ≤ m ∧ m < 2147483647)
      ⟨17, none, rfl, rfl, by decide, by decide⟩ (fun i σ H' _ ⟨_, _, _, e, _⟩ => e ▸ hS) ?_ ?_⟩
    · rintro i y σ H' hi ⟨m, v, rfl, rfl, h1, h2⟩
      obtain ⟨u, _, rfl⟩ := map_int hi
      refine ⟨_, rfl, _, _, rfl, rfl, .inl ⟨by omega, by omega⟩, _, rfl, .inl ⟨_, rfl, _, _, rfl, rfl, (by show (0 : Int) < 65521; omega), _, _, rfl, rfl, _, _, rfl, rfl, .inl ⟨_, rfl, _, _, rfl, rfl, (by show (0 : Int) < 2147483647; omega), ?_⟩⟩⟩
      exact ⟨_, _, rfl, rfl, Int.emod_nonneg _ (by decide), Int.emod_lt_of_pos _ (by decide)⟩
    · rintro σ H' ⟨m, v, rfl, rfl, h1, h2⟩
      refine ⟨_, rfl, _, _, rfl, .inl hS, fun p np => ⟨_, rfl, (by show 4 ≤ sizeLine; decide), fun st nst => ?_⟩⟩
      have n1 : p ≠ st := fun z => by
        rw [z, upd_same] at nst
        cases nst
      refine q st _ (fun b o e => ?_) ?_ ⟨p, ns, 0, 0, m, upd_same, ?_, by decide, by decide, h1, h2⟩
      · rw [upd_ne (fun z => ?_), upd_ne (ne_of_none e np)]
        · exact e
        · rw [z] at e
          rw [upd_ne n1.symm, e] at nst
          cases nst
      · rw [upd_ne n1.symm] at nst
        exact nst
      · rw [upd_ne n1, upd_same]
abbrev s_law_draw : Stmt := topS 63
abbrev nm_law_draw : List Str := ["stream", "many", "value"]
theorem sc_law_draw : FnScope nm_law_draw ["stream", "many"] (defScope s_law_draw) := ⟨rfl, rfl, rfl, by decide +kernel, rfl, by decide +kernel, by decide +kernel⟩
def sp_law_draw (K : PySem.W.Frag) (cl : Cn → Addr) : Sp := fun vs H Q _ => ∃ (st : Addr) (n : Int), vs = [.ref st, .int n] ∧ 0 < n ∧ n < 1073741824 ∧ Strm H st ∧ ∀ (k : Nat) H', (k : Int) < n → ExS st H H' → Strm H' st → Q (.int k) H'
theorem draw_go {st : Addr} {H : Hp} {n : Int} {Q : VK} (hn : 0 < n) (q : ∀ (k : Nat) H', (k : Int) < n → ExS st H H' → Strm H' st → Q (.int k) H') {H' : Hp} (x : Int) (e : ExS st H H') (s : Strm H' st) : Q (.int (x % n)) H' := by
  have h1 : 0 ≤ x % n := Int.emod_nonneg _ (by omega)
  have h2 := Int.emod_lt_of_pos x hn
  have := q (x % n).toNat H' (by omega) e s
  rw [show (((x % n).toNat : Nat) : Int) = x % n by omega] at this
  exact this
theorem ok_law_draw (T : Txt K mg cl w) {f : Addr} {fd : FuncData} (F : Fun K "_law_draw" "_law_draw" s_law_draw f fd) : FnOk P w K mg base CX0 1 f fd ["stream", "many"] (sp_law_draw K cl) := by
  have m_abs := T.m_abs
  have m_int := T.m_int
  have m_len := T.m_len
  refine F.ok sc_law_draw (fun vs H Q E h => ?_) (fun cdv A outer s H vs Q E hr h => ?_)
  · obtain ⟨x, i, rfl, _⟩ := h
    rfl
  · obtain ⟨st, n, rfl, hn, hn2, ⟨l, ns, c, i, m, hst, hl, c0, i0, m0, m1⟩, q⟩ := h
    have nl : l ≠ st := ne_of hl hst (fun z => by
      have := HO.lst.inj z
      cases ns with
      | nil => cases this
      | cons a r => cases (List.cons.inj this).1)
    have hL : SqL K H st [.ref l, .int c, .int i, .int m] := SqL.of hst
    refine ⟨_, (Evl.pss_cut (ps_if (PW.pt (pw_and (pt_cmpR op_eq (pe_ix (ix_list : IxR _ (rIxL K)) (pv 0) pe_int (fun _ _ => rfl)) pe_int (nomark _)) (pw_and1 (pt_cmpR op_lt (pe_ix (ix_list : IxR _ (rIxL K)) (pv 0) pe_int (fun _ _ => rfl)) (pe_callB (call_lenS : CallR _ _ (rLenS K)) (by rfl) m_len (by decide +kernel) (pa_cons (pe_ix (ix_list : IxR _ (rIxL K)) (pv 0) pe_int (fun _ _ => rfl)) pa_nil)) (nomark _))))) (pss_cons (ps_asg (pe_callB call_abs (by rfl) m_abs (by decide +kernel) (pa_cons (pe_callTy call_int1 (by rfl) m_int (by decide +kernel) (pa_cons (pe_ix (ix_list : IxR _ (rIxL K)) (pe_ix (ix_list : IxR _ (rIxL K)) (pv 0) pe_int (fun _ _ => rfl)) (pe_ix (ix_list : IxR _ (rIxL K)) (pv 0) pe_int (fun _ _ => rfl)) (fun _ _ => rfl)) pa_nil)) pa_nil)) (pg_sub (pv 0) pe_int set_list))
      (pss_one (ps_asg (pe_op op_add (pe_ix (ix_list : IxR _ (rIxL K)) (pv 0) pe_int (fun _ _ => rfl)) pe_int) (pg_sub (pv 0) pe_int set_list)))) pss_nil)
      (pss_cons (ps_if (pt_cmpR op_eq (pe_ix (ix_list : IxR _ (rIxL K)) (pv 0) pe_int (fun _ _ => rfl)) pe_int (nomark _)) (pss_cons (ps_asg (pe_op op_mod (pe_callTy call_int1 (by rfl) m_int (by decide +kernel) (pa_cons (pe_op op_add (pe_op op_mul (pe_ix (ix_list : IxR _ (rIxL K)) (pv 0) pe_int (fun _ _ => rfl)) pe_int) pe_int) pa_nil)) pe_int) (pg_sub (pv 0) pe_int set_list))
      (pss_one (ps_ret (pe_op op_mod (pe_callTy call_int1 (by rfl) m_int (by decide +kernel) (pa_cons (pe_op op_fdiv (pe_ix (ix_list : IxR _ (rIxL K)) (pv 0) pe_int (fun _ _ => rfl)) pe_int) pa_nil)) (pv 1))))) pss_nil)
      (pss_cons (ps_set (i := 2) sc_law_draw.nd rfl (Or.inl rfl) (pe_op op_mod (pe_callTy call_int1 (by rfl) m_int (by decide +kernel) (pa_cons (pe_ix (ix_list : IxR _ (rIxL K)) (pv 0) pe_int (fun _ _ => rfl)) pa_nil)) (pv 1)))
      (pss_cons (ps_asg (pe_op op_fdiv (pe_ix (ix_list : IxR _ (rIxL K)) (pv 0) pe_int (fun _ _ => rfl)) (pv 1)) (pg_sub (pv 0) pe_int set_list))
      (pss_one (ps_ret (pv 2))))))), ?_⟩
    -- the first part leaves a row again
    refine ⟨fun σ H' => ∃ (c i : Int), σ = [some (.ref st), some (.int n), none] ∧ 0 ≤ c ∧ 0 ≤ i ∧ ExS st H H' ∧ H' st = some (.lst [.ref l, .int c, .int i, .int m]) ∧ H' l = some (.lst (ns.map V.int)), ?_, ?_⟩
    · refine ⟨_, rfl, _, _, _, _, rfl, rfl, hL, rfl, rfl, _, rfl, ?_⟩
      by_cases hc : c = 0
      · subst hc
        rw [decide_eq_true rfl]
        refine iteT ?_
        refine ⟨_, rfl, _, _, _, _, rfl, rfl, hL, rfl, _, rfl, _, _, _, _, rfl, rfl, hL, rfl, _, _, rfl, .inl (SqL.of hl), _, _, rfl, rfl, _, rfl, ?_⟩
        by_cases hi : i < (((ns.map V.int).length : Nat) : Int)
        · rw [decide_eq_true hi]
          refine iteT ?_
          obtain ⟨j, rfl⟩ : ∃ j : Nat, i = j := ⟨i.toNat, by omega⟩
          have hj : j < ns.length := by
            rw [List.length_map] at hi
            omega
          have ha : atI (ns.map V.int) (j : Int) = some (.int ns[j]) := atI_nat (by rw [List.getElem?_map, List.getElem?_eq_getElem hj]; rfl)
          refine ⟨_, rfl, _, _, _, _, rfl, rfl, hL, rfl, _, rfl, _, _, _, _, rfl, rfl, hL, rfl, _, _, _, _, rfl, rfl, SqL.of hl, ha, .inl ⟨_, rfl, _, rfl, ?_⟩⟩
          refine ⟨_, rfl, _, _, _, 1, rfl, rfl, hst, rfl, ?_⟩
          refine ⟨_, rfl, _, _, _, _, rfl, rfl, SqL.of upd_same, rfl, _, _, rfl, rfl, ?_⟩
          refine ⟨_, rfl, _, _, _, 2, rfl, rfl, upd_same, rfl, ?_⟩
          refine ⟨_, _, rfl, ?_, ?_, ?_, upd_same, ?_⟩
          · split <;> omega
          · omega
          · rw [upd_upd]
            exact ExS.put hst
          · rw [upd_upd, upd_ne nl]
            exact hl
        · rw [decide_eq_false hi]
          refine iteF ?_
          exact ⟨_, _, rfl, c0, i0, .refl, hst, hl⟩
      · rw [decide_eq_false (fun z => hc (V.int.inj z))]
        refine iteF (iteF ?_)
        exact ⟨_, _, rfl, c0, i0, .refl, hst, hl⟩
    · rintro σ H1 ⟨c, i, rfl, c0, i0, ex, hst, hl⟩
      have hL : SqL K H1 st [.ref l, .int c, .int i, .int m] := SqL.of hst
      refine ⟨_, rfl, _, _, _, _, rfl, rfl, hL, rfl, rfl, _, rfl, ?_⟩
      refine ite2 (fun e => ?_) (fun e => ?_)
      · refine ⟨_, rfl, _, _, _, _, rfl, rfl, hL, rfl, _, _, rfl, rfl, .inl ⟨by omega, by omega⟩, _, _, rfl, rfl, .inl ⟨_, rfl, _, _, rfl, rfl, (by show (0 : Int) < 2147483647; omega), ?_⟩⟩
        refine ⟨_, rfl, _, _, _, 3, rfl, rfl, hst, rfl, ?_⟩
        refine ⟨_, rfl, _, _, _, _, rfl, rfl, SqL.of upd_same, rfl, _, _, rfl, rfl, ⟨by show (0 : Int) < 97; omega, by show (97 : Int) < 1073741824; omega⟩, .inl ⟨_, rfl, _, rfl, _, _, rfl, rfl, hn, ?_⟩⟩
        refine draw_go hn q _ (ex.trans (ExS.put hst)) ⟨l, ns, _, _, _, upd_same, ?_, c0, i0, Int.emod_nonneg _ (by decide), Int.emod_lt_of_pos _ (by decide)⟩
        rw [upd_ne nl]
        exact hl
      · refine ⟨_, rfl, _, _, _, _, rfl, rfl, hL, rfl, .inl ⟨_, rfl, _, rfl, _, _, rfl, rfl, hn, ?_⟩⟩
        refine ⟨_, rfl, _, _, _, _, rfl, rfl, hL, rfl, _, rfl, _, _, rfl, rfl, ⟨hn, hn2⟩, ?_⟩
        refine ⟨_, rfl, _, _, _, 1, rfl, rfl, hst, rfl, ?_⟩
        refine ⟨_, rfl, ?_⟩
        refine draw_go hn q _ (ex.trans (ExS.put hst)) ⟨l, ns, _, _, _, upd_same, ?_, Int.ediv_nonneg c0 (by omega), i0, m0, m1⟩
        rw [upd_ne nl]
        exact hl
abbrev s_law_tree : Stmt := topS 64
abbrev nm_law_tree : List Str := ["stream", "pairs", "left"]
theorem sc_law_tree : FnScope nm_law_tree ["stream", "pairs"] (defScope s_law_tree) := ⟨rfl, rfl, rfl, by decide +kernel, rfl, by decide +kernel, by decide +kernel⟩
def sp_law_tree_n (n : Nat) (K : PySem.W.Frag) (cl : Cn → Addr) : Sp := fun vs H Q _ => ∃ (st : Addr) (d : Nat), vs = [.ref st, .int d] ∧ d < n ∧ d ≤ 100 ∧ Strm H st ∧ ∀ (t : Tr) H', t.pairs = d → ExS st H H' → Strm H' st → Q (.str t.str) H'
theorem sp_law_tree_0 (K : PySem.W.Frag) (cl : Cn → Addr) {vs : List V} {H : Hp} {Q : VK} {E : XK} : ¬ sp_law_tree_n 0 K cl vs H Q E := fun ⟨_, _, _, h, _⟩ => Nat.not_lt_zero _ h
def sp_law_tree (K : PySem.W.Frag) (cl : Cn → Addr) : Sp := sp_law_tree_n 40 K cl
theorem ok_law_tree (T : Txt K mg cl w) (H_law_draw : Has P w K mg base CX0 1 "_law_draw" ["stream", "many"] (sp_law_draw K cl)) {f : Addr} {fd : FuncData} (F : Fun K "_law_tree" "_law_tree" s_law_tree f fd) (g_law_tree : mg "_law_tree" = some (.ref f)) (b_law_tree : Binds K fd ["stream", "pairs"] []) : ∀ n : Nat, FnOk P w K mg base CX0 (2 + n) f fd ["stream", "pairs"] (sp_law_tree_n n K cl) := by
  obtain ⟨f_law_draw, d_law_draw, G_law_draw, g_law_draw, k_law_draw, b_law_draw⟩ := H_law_draw.ex
  have k_law_tree := F.kp
  intro n
  induction n with
  | zero => exact F.ok sc_law_tree (fun vs H Q E h => absurd h (sp_law_tree_0 K cl)) (fun cdv A outer s H vs Q E hr h => absurd h (sp_law_tree_0 K cl))
  | succ n G_law_tree =>
  refine F.ok sc_law_tree (fun vs H Q E h => ?_) (fun cdv A outer s H vs Q E hr h => ?_)
  · obtain ⟨st, d, rfl, _⟩ := h
    rfl
  · obtain ⟨st, d, rfl, hd, hd2, st1, q⟩ := h
    have hz : sizeLine = 16777216 := rfl
    have hr : Room (2 + n) _ := hr
    refine ⟨_, (pss_cons (ps_if (pt_cmpR op_eq (pv 1) pe_int (nomark _)) (pss_one (ps_ret pe_str)) pss_nil)
      (pss_cons (ps_set (i := 2) sc_law_tree.nd rfl (Or.inl rfl) (pe_call G_law_draw (hr.mono (by first | decide | omega)) (by rfl) g_law_draw k_law_draw b_law_draw .nil pass0 (pa_cons (pv 0) (pa_cons (pv 1) pa_nil))))
      (pss_one (ps_ret (pe_op op_add_str (pe_op op_add_str pe_str (pe_call G_law_tree (hr.mono (by first | decide | omega)) (by rfl) g_law_tree k_law_tree b_law_tree .nil pass0 (pa_cons (pv 0) (pa_cons (pv 2) pa_nil)))) (pe_call G_law_tree (hr.mono (by first | decide | omega)) (by rfl) g_law_tree k_law_tree b_law_tree .nil pass0 (pa_cons (pv 0) (pa_cons (pe_op op_sub (pe_op op_sub (pv 1) pe_int) (pv 2)) pa_nil)))))))), ?_⟩
    refine ⟨_, rfl, rfl, _, rfl, ?_⟩
    by_cases c : d = 0
    · subst c
      refine iteS rfl ?_
      exact q .leaf H rfl .refl st1
    refine iteNo (fun z => c (by have := V.int.inj z; omega)) ?_
    have d0 : 0 < (d : Int) := by omega
    have d1 : (d : Int) < 1073741824 := by omega
    refine ⟨_, rfl, _, rfl, st, (d : Int), rfl, d0, d1, st1, fun l H1 hl ex1 st1' => ?_⟩
    have hl2 : l < n := by omega
    have hl3 : d - 1 - l < n := by omega
    have e3 : (d : Int) - 1 - (l : Int) = ((d - 1 - l : Nat) : Int) := by omega
    have ll : (Str.ofString "1").length = 1 := by decide +kernel
    refine ⟨_, rfl, _, rfl, st, l, rfl, hl2, by omega, st1', fun a H2 ha ex2 st2 => ?_⟩
    have la := a.str_len
    have sa := a.sg_len
    refine ⟨_, _, rfl, rfl, (by rw [ll]; omega), _, rfl, _, rfl, _, _, rfl, rfl, _, rfl, _, _, rfl, rfl, st, d - 1 - l, (by show [V.ref st, V.int ((d : Int) - 1 - (l : Int))] = _; rw [e3]), hl3, by omega, st2, fun b H3 hb ex3 st3 => ?_⟩
    have lb := b.str_len
    have sb := b.sg_len
    refine ⟨_, _, rfl, rfl, (by rw [Str.length_append, ll]; omega), ?_⟩
    rw [str_cons]
    exact q (.node a b) H3 (by show a.pairs + b.pairs + 1 = d; omega) ((ex1.trans ex2).trans ex3) st3
abbrev s_law_short_program : Stmt := topS 65
abbrev nm_law_short_program : List Str := ["stream", "a", "pick", "k"]
theorem sc_law_short_program : FnScope nm_law_short_program ["stream"] (defScope s_law_short_program) := ⟨rfl, rfl, rfl, by decide +kernel, rfl, by decide +kernel, by decide +kernel⟩
def sp_law_short_program (K : PySem.W.Frag) (cl : Cn → Addr) : Sp := fun vs H Q _ => ∃ (st : Addr), vs = [.ref st] ∧ Strm H st ∧
  ∀ p H' is, ExS st H H' → Strm H' st → H p = none → PgAt H' p is → is.length ≤ 8 → PgOk 5 4 is → Q (.ref p) H'
theorem ok_law_short_program (T : Txt K mg cl w) (H_law_draw : Has P w K mg base CX0 1 "_law_draw" ["stream", "many"] (sp_law_draw K cl)) (H_law_tree : Has P w K mg base CX0 42 "_law_tree" ["stream", "pairs"] (sp_law_tree K cl)) {f : Addr} {fd : FuncData} (F : Fun K "_law_short_program" "_law_short_program" s_law_short_program f fd) : FnOk P w K mg base CX0 43 f fd ["stream"] (sp_law_short_program K cl) := by
  have m_range := T.m_range
  obtain ⟨f_law_draw, d_law_draw, G_law_draw, g_law_draw, k_law_draw, b_law_draw⟩ := H_law_draw.ex
  obtain ⟨f_law_tree, d_law_tree, G_law_tree, g_law_tree, k_law_tree, b_law_tree⟩ := H_law_tree.ex
  refine F.ok sc_law_short_program (fun vs H Q E h => ?_) (fun cdv A outer s H vs Q E hr h => ?_)
  · obtain ⟨x, rfl, _⟩ := h
    rfl
  · obtain ⟨st, rfl, st0, q⟩ := h
    have hz : sizeLine = 16777216 := rfl
    have hno : ∀ {X : Hp} {p : Addr}, ExS st H X → X p = none → H p = none := fun {X p} e n => by
      cases h : H p with
      | none => rfl
      | some o =>
        by_cases c : p = st
        · have := st0.has
          rw [c] at n
          exact absurd n (fun z => by
            obtain ⟨l, ns, c, i, m, h1, _⟩ := st0
            obtain ⟨r', h'⟩ := e.hd l _ h1
            rw [z] at h'
            cases h')
        · rw [e p o c h] at n
          cases n
    refine ⟨_, (pss_cons (ps_set (i := 1) sc_law_short_program.nd rfl (Or.inl rfl) (pe_op op_add pe_int (pe_call G_law_draw (hr.mono (by decide)) (by rfl) g_law_draw k_law_draw b_law_draw .nil pass0 (pa_cons (pv 0) (pa_cons pe_int pa_nil)))))
      (pss_cons (ps_set (i := 2) sc_law_short_program.nd rfl (Or.inl rfl) (pe_call G_law_draw (hr.mono (by decide)) (by rfl) g_law_draw k_law_draw b_law_draw .nil pass0 (pa_cons (pv 0) (pa_cons pe_int pa_nil))))
      (pss_cons (ps_if (pt_cmpR op_eq (pv 2) pe_int (nomark _)) (pss_one (ps_ret (pe_lc (own := [("k", 3)]) (g := gName 3) (tt := tYes) rfl sc_law_short_program.nd (pi_range1 (by rfl) m_range (pa_cons (pe_call G_law_draw (hr.mono (by decide)) (by rfl) g_law_draw k_law_draw b_law_draw .nil pass0 (pa_cons (pv 0) (pa_cons pe_int pa_nil))) pa_nil)) (blkOk_by (N := nm_law_short_program) (sc := defScope s_law_short_program) (by decide +kernel)) (fun _ _ _ _ _ => (pg_name (i := 3) sc_law_short_program.nd rfl (Or.inl rfl))) (fun _ _ _ _ _ => pts_nil) (fun _ _ _ _ _ => (pe_tup (pa_cons (pe_ix (ix_list : IxR _ (rIxL K)) (pe_lst (pa_cons pe_str (pa_cons pe_str pa_nil))) (pe_call G_law_draw (hr.mono (by decide)) (by rfl) g_law_draw k_law_draw b_law_draw .nil pass0 (pa_cons (pv 0) (pa_cons pe_int pa_nil))) (fun _ _ => rfl)) (pa_cons pe_int (pa_cons pe_int pa_nil)))))))) pss_nil)
      (pss_cons (ps_if (pt_cmpR op_eq (pv 2) pe_int (nomark _)) (pss_one (ps_ret (pe_lst (pa_cons (pe_tup (pa_cons pe_str (pa_cons pe_int (pa_cons (pe_call G_law_tree (hr.mono (by decide)) (by rfl) g_law_tree k_law_tree b_law_tree .nil pass0 (pa_cons (pv 0) (pa_cons (pe_call G_law_draw (hr.mono (by decide)) (by rfl) g_law_draw k_law_draw b_law_draw .nil pass0 (pa_cons (pv 0) (pa_cons pe_int pa_nil))) pa_nil))) pa_nil)))) pa_nil)))) pss_nil)
      (pss_cons (ps_if (pt_cmpR op_eq (pv 2) pe_int (nomark _)) (pss_one (ps_ret (pe_lst (pa_cons (pe_tup (pa_cons pe_str (pa_cons pe_int (pa_cons (pe_call G_law_draw (hr.mono (by decide)) (by rfl) g_law_draw k_law_draw b_law_draw .nil pass0 (pa_cons (pv 0) (pa_cons pe_int pa_nil))) (pa_cons pe_int pa_nil))))) pa_nil)))) pss_nil)
      (pss_cons (ps_if (pt_cmpR op_eq (pv 2) pe_int (nomark _)) (pss_one (ps_ret (pe_lst (pa_cons (pe_tup (pa_cons pe_str (pa_cons (pv 1) (pa_cons pe_int pa_nil)))) (pa_cons (pe_tup (pa_cons pe_str (pa_cons (pe_op op_add (pv 1) pe_int) (pa_cons pe_int pa_nil)))) (pa_cons (pe_tup (pa_cons pe_str (pa_cons pe_int (pa_cons (pe_op op_add (pv 1) pe_int) (pa_cons (pv 1) pa_nil))))) pa_nil)))))) pss_nil)
      (pss_cons (ps_if (pt_cmpR op_eq (pv 2) pe_int (nomark _)) (pss_one (ps_ret (pe_lst (pa_cons (pe_tup (pa_cons pe_str (pa_cons (pv 1) (pa_cons (pe_call G_law_tree (hr.mono (by decide)) (by rfl) g_law_tree k_law_tree b_law_tree .nil pass0 (pa_cons (pv 0) (pa_cons (pe_op op_add pe_int (pe_call G_law_draw (hr.mono (by decide)) (by rfl) g_law_draw k_law_draw b_law_draw .nil pass0 (pa_cons (pv 0) (pa_cons pe_int pa_nil)))) pa_nil))) pa_nil)))) (pa_cons (pe_tup (pa_cons pe_str (pa_cons (pv 1) (pa_cons pe_int pa_nil)))) pa_nil))))) pss_nil)
      (pss_cons (ps_if (pt_cmpR op_eq (pv 2) pe_int (nomark _)) (pss_one (ps_ret (pe_lst (pa_cons (pe_tup (pa_cons pe_str (pa_cons pe_int (pa_cons pe_int pa_nil)))) (pa_cons (pe_tup (pa_cons pe_str (pa_cons pe_int (pa_cons (pe_un un_neg pe_int) pa_nil)))) (pa_cons (pe_tup (pa_cons pe_str (pa_cons pe_int (pa_cons (pe_call G_law_tree (hr.mono (by decide)) (by rfl) g_law_tree k_law_tree b_law_tree .nil pass0 (pa_cons (pv 0) (pa_cons (pe_call G_law_draw (hr.mono (by decide)) (by rfl) g_law_draw k_law_draw b_law_draw .nil pass0 (pa_cons (pv 0) (pa_cons pe_int pa_nil))) pa_nil))) pa_nil)))) pa_nil)))))) pss_nil)
      (pss_one (ps_ret (pe_lst (pa_cons (pe_tup (pa_cons pe_str (pa_cons (pv 1) (pa_cons pe_int pa_nil)))) (pa_cons (pe_tup (pa_cons pe_str (pa_cons (pv 1) (pa_cons pe_int pa_nil)))) (pa_cons (pe_tup (pa_cons pe_str (pa_cons pe_int (pa_cons pe_int pa_nil)))) (pa_cons (pe_tup (pa_cons pe_str (pa_cons pe_int (pa_cons pe_int (pa_cons (pv 1) pa_nil))))) pa_nil))))))))))))))), ?_⟩
    refine ⟨_, rfl, st, _, rfl, by decide, by decide, st0, fun a0 H1 ha0 ex1 st1 => ⟨_, _, rfl, rfl, ?_⟩⟩
    have ea : (1 : Int) + (a0 : Int) = ((1 + a0 : Nat) : Int) := by omega
    have ea2 : ((1 + a0 : Nat) : Int) + 1 = ((1 + a0 + 1 : Nat) : Int) := by omega
    have ha : 1 + a0 ≤ 3 := by omega
    have ha1 : 1 + a0 < 5 := by omega
    have ha2 : 1 + a0 + 1 < 5 := by omega
    dsimp only
    rw [ea]
    generalize 1 + a0 = a at ha ha1 ha2 ea2
    refine ⟨_, rfl, st, _, rfl, by decide, by decide, st1, fun pick H2 hpick ex2 st2 => ?_⟩
    have ex2 := ex1.trans ex2
    refine ⟨_, rfl, rfl, _, rfl, ?_⟩
    by_cases c0 : pick = 0
    · subst c0
      refine iteS rfl ?_
      refine ⟨_, rfl, st, _, rfl, by decide, by decide, st2, fun n H3 hn ex3 st3 => ?_⟩
      refine ⟨n, rfl, by omega, by omega, fun D nD => lc_range (lo := 0) (n := n) (fun i H' => ∃ (as : List Addr) (is : List Ins), is.length = i ∧ PIn 4 H3 st D 5 n as is H') ⟨[], [], rfl, ⟨upd_same, .nil, fun j x h => (by cases h), .off (st3.ne nD) nD .refl, st3.off nD .refl st3⟩⟩ (fun i H' hi p => ?_) (fun H' p => ?_)⟩
      · obtain ⟨as, is, rfl, inv⟩ := p
        have nps := st3.ne nD
        have hsz := inv.size
        refine ⟨rfl, ?_⟩
        simp only [tYes, ↓reduceIte]
        refine ⟨(by show 2 ≤ sizeLine; omega), fun L nL => ⟨_, rfl, st, _, rfl, by decide, by decide, (Same.upd nL).strm inv.sm, fun d H5 hd ex5 st5 => ?_⟩⟩
        have nLs := inv.sm.ne nL
        have hL := ex5 _ _ nLs (upd_same (H := H') (a := L) (o := .lst [.str "head", .str "tail"]))
        have inv5 := (inv.go nps (Same.upd (o := .lst [.str "head", .str "tail"]) nL).exs ((Same.upd nL).strm inv.sm)).go nps ex5 st5
        have dd : d = 0 ∨ d = 1 := by omega
        rcases dd with rfl | rfl
        · refine ⟨_, _, _, _, rfl, rfl, SqL.of hL, atI_nat (j := 0) rfl, (by show 3 ≤ sizeLine; omega), fun T nT => ?_⟩
          exact ⟨as.map V.ref, Same.upd nT _ _ inv5.at_, by omega, as ++ [T], is ++ [.head 0 0], by rw [List.length_append]; rfl, PIn.push (x := .head 0 0) nD st3 inv5 ⟨by decide, by decide⟩ nT⟩
        · refine ⟨_, _, _, _, rfl, rfl, SqL.of hL, atI_nat (j := 1) rfl, (by show 3 ≤ sizeLine; omega), fun T nT => ?_⟩
          exact ⟨as.map V.ref, Same.upd nT _ _ inv5.at_, by omega, as ++ [T], is ++ [.tail 0 0], by rw [List.length_append]; rfl, PIn.push (x := .tail 0 0) nD st3 inv5 ⟨by decide, by decide⟩ nT⟩
      · obtain ⟨as, is, hl, inv⟩ := p
        obtain ⟨h1, h2⟩ := inv.done hl
        exact q D H' is ((ex2.trans ex3).trans inv.ex) inv.sm (hno (ex2.trans ex3) nD) h1 (by omega) h2
    refine iteNo (fun z => c0 (by have := V.int.inj z; omega)) ⟨_, rfl, rfl, _, rfl, ?_⟩
    by_cases c1 : pick = 1
    · subst c1
      refine iteS rfl ?_
      refine ⟨_, rfl, _, rfl, st, _, rfl, by decide, by decide, st2, fun d H3 hd ex3 st3 => ?_⟩
      refine ⟨st, d, rfl, (by show d < 40; omega), by omega, st3, fun t H4 ht ex4 st4 => ?_⟩
      have ex4 := (ex2.trans ex3).trans ex4
      refine ⟨(by show 3 ≤ sizeLine; omega), fun T0 nT0 => ?_⟩
      have sT0 := Same.upd (o := .tup [.str "set", .int 0, .str t.str]) nT0
      refine ⟨(by show 1 ≤ sizeLine; omega), fun D nD => ?_⟩
      have sD := Same.upd (o := .lst [.ref T0]) nD
      have rT0 := sD _ _ upd_same
      have sB := sT0
      have sA := sB.trans sD
      refine q D _ [.set 0 t] (ex4.trans sA.exs) (sA.strm st4) (hno (ex4.trans sB.exs) nD) ⟨[T0], upd_same, (.cons rT0 .nil)⟩ (by show 1 ≤ 8; decide) (fun j x hx => ?_)
      match j, hx with
      | 0, hx => cases hx; exact ⟨by decide, by omega⟩
      | j + 1, hx => cases hx
    refine iteNo (fun z => c1 (by have := V.int.inj z; omega)) ⟨_, rfl, rfl, _, rfl, ?_⟩
    by_cases c2 : pick = 2
    · subst c2
      refine iteS rfl ?_
      refine ⟨_, rfl, st, _, rfl, by decide, by decide, st2, fun d H3 hd ex3 st3 => ?_⟩
      have ex3 := ex2.trans ex3
      refine ⟨(by show 4 ≤ sizeLine; omega), fun T0 nT0 => ?_⟩
      have sT0 := Same.upd (o := .tup [.str "cons", .int 0, .int (d : Int), .int 0]) nT0
      refine ⟨(by show 1 ≤ sizeLine; omega), fun D nD => ?_⟩
      have sD := Same.upd (o := .lst [.ref T0]) nD
      have rT0 := sD _ _ upd_same
      have sB := sT0
      have sA := sB.trans sD
      refine q D _ [.cons 0 d 0] (ex3.trans sA.exs) (sA.strm st3) (hno (ex3.trans sB.exs) nD) ⟨[T0], upd_same, (.cons rT0 .nil)⟩ (by show 1 ≤ 8; decide) (fun j x hx => ?_)
      match j, hx with
      | 0, hx => cases hx; exact ⟨by decide, by omega, by decide⟩
      | j + 1, hx => cases hx
    refine iteNo (fun z => c2 (by have := V.int.inj z; omega)) ⟨_, rfl, rfl, _, rfl, ?_⟩
    by_cases c3 : pick = 3
    · subst c3
      refine iteS rfl ?_
      refine ⟨_, rfl, (by show 3 ≤ sizeLine; omega), fun T0 nT0 => ?_⟩
      have sT0 := Same.upd (o := .tup [.str "head", .int (a : Int), .int 0]) nT0
      refine ⟨_, rfl, _, _, rfl, rfl, (by show 3 ≤ sizeLine; omega), fun T1 nT1 => ?_⟩
      have sT1 := Same.upd (o := .tup [.str "tail", .int ((a : Int) + 1), .int 0]) nT1
      refine ⟨_, rfl, _, _, rfl, rfl, _, rfl, (by show 4 ≤ sizeLine; omega), fun T2 nT2 => ?_⟩
      have sT2 := Same.upd (o := .tup [.str "cons", .int 0, .int ((a : Int) + 1), .int (a : Int)]) nT2
      refine ⟨(by show 3 ≤ sizeLine; omega), fun D nD => ?_⟩
      have sD := Same.upd (o := .lst [.ref T0, .ref T1, .ref T2]) nD
      have rT0 := sD _ _ (sT2 _ _ (sT1 _ _ upd_same))
      have rT1 := sD _ _ (sT2 _ _ upd_same)
      have rT2 := sD _ _ upd_same
      have sB := ((sT0.trans sT1).trans sT2)
      have sA := sB.trans sD
      refine q D _ [.head a 0, .tail (a + 1) 0, .cons 0 (a + 1) a] (ex2.trans sA.exs) (sA.strm st2) (hno (ex2.trans sB.exs) nD) ⟨[T0, T1, T2], upd_same, (.cons rT0 (.cons rT1 (.cons rT2 .nil)))⟩ (by show 3 ≤ 8; decide) (fun j x hx => ?_)
      match j, hx with
      | 0, hx => cases hx; exact ⟨by omega, by decide⟩
      | 1, hx => cases hx; exact ⟨by omega, by decide⟩
      | 2, hx => cases hx; exact ⟨by decide, by omega, by omega⟩
      | j + 3, hx => cases hx
    refine iteNo (fun z => c3 (by have := V.int.inj z; omega)) ⟨_, rfl, rfl, _, rfl, ?_⟩
    by_cases c4 : pick = 4
    · subst c4
      refine iteS rfl ?_
      refine ⟨_, rfl, _, rfl, _, rfl, st, _, rfl, by decide, by decide, st2, fun d H3 hd ex3 st3 => ⟨_, _, rfl, rfl, ?_⟩⟩
      refine ⟨st, 1 + d, (by show [V.ref st, V.int ((1 : Int) + (d : Int))] = _; rw [show (1 : Int) + (d : Int) = ((1 + d : Nat) : Int) by omega]), (by show 1 + d < 40; omega), by omega, st3, fun t H4 ht ex4 st4 => ?_⟩
      have ex4 := (ex2.trans ex3).trans ex4
      refine ⟨(by show 3 ≤ sizeLine; omega), fun T0 nT0 => ?_⟩
      have sT0 := Same.upd (o := .tup [.str "set", .int (a : Int), .str t.str]) nT0
      refine ⟨_, rfl, (by show 3 ≤ sizeLine; omega), fun T1 nT1 => ?_⟩
      have sT1 := Same.upd (o := .tup [.str "jump", .int (a : Int), .int 0]) nT1
      refine ⟨(by show 2 ≤ sizeLine; omega), fun D nD => ?_⟩
      have sD := Same.upd (o := .lst [.ref T0, .ref T1]) nD
      have rT0 := sD _ _ (sT1 _ _ upd_same)
      have rT1 := sD _ _ upd_same
      have sB := (sT0.trans sT1)
      have sA := sB.trans sD
      refine q D _ [.set a t, .jump a 0] (ex4.trans sA.exs) (sA.strm st4) (hno (ex4.trans sB.exs) nD) ⟨[T0, T1], upd_same, (.cons rT0 (.cons rT1 .nil))⟩ (by show 2 ≤ 8; decide) (fun j x hx => ?_)
      match j, hx with
      | 0, hx => cases hx; exact ⟨by omega, by omega⟩
      | 1, hx => cases hx; exact ⟨by omega, by decide, by show (_ : Int) ≤ ((2 : Nat) : Int); decide⟩
      | j + 2, hx => cases hx
    refine iteNo (fun z => c4 (by have := V.int.inj z; omega)) ⟨_, rfl, rfl, _, rfl, ?_⟩
    by_cases c5 : pick = 5
    · subst c5
      refine iteS rfl ?_
      refine ⟨(by show 3 ≤ sizeLine; omega), fun T0 nT0 => ?_⟩
      have sT0 := Same.upd (o := .tup [.str "tail", .int 0, .int 0]) nT0
      refine ⟨_, rfl, (by show 3 ≤ sizeLine; omega), fun T1 nT1 => ?_⟩
      have sT1 := Same.upd (o := .tup [.str "jump", .int 0, .int (-1)]) nT1
      refine ⟨_, rfl, _, rfl, st, _, rfl, by decide, by decide, (sT0.trans sT1).strm st2, fun d H3 hd ex3 st3 => ?_⟩
      refine ⟨st, d, rfl, (by show d < 40; omega), by omega, st3, fun t H4 ht ex4 st4 => ?_⟩
      have nA0 := ((sT0.trans sT1).strm st2)
      have x34 := ex3.trans ex4
      have ex5 := ((ex2.trans (sT0.trans sT1).exs).trans ex3).trans ex4
      have k0 := x34 _ _ (fun z => by have := st2.ne nT0; exact this z) (sT1 _ _ (upd_same (H := H2) (a := T0) (o := .tup [.str "tail", .int 0, .int 0])))
      have k1 := x34 _ _ (fun z => by have := (sT0.strm st2).ne nT1; exact this z) (upd_same (a := T1) (o := .tup [.str "jump", .int 0, .int (-1)]))
      refine ⟨(by show 3 ≤ sizeLine; omega), fun T2 nT2 => ?_⟩
      have sT2 := Same.upd (o := .tup [.str "set", .int 0, .str t.str]) nT2
      refine ⟨(by show 3 ≤ sizeLine; omega), fun D nD => ?_⟩
      have sD := Same.upd (o := .lst [.ref T0, .ref T1, .ref T2]) nD
      have sA := sT2.trans sD
      refine q D _ [.tail 0 0, .jump 0 (-1), .set 0 t] (ex5.trans sA.exs) (sA.strm st4) (hno (ex5.trans sT2.exs) nD) ⟨[T0, T1, T2], upd_same, (.cons (sA _ _ k0) (.cons (sA _ _ k1) (.cons (sD _ _ upd_same) .nil)))⟩ (by show 3 ≤ 8; decide) (fun j x hx => ?_)
      match j, hx with
      | 0, hx => cases hx; exact ⟨by decide, by decide⟩
      | 1, hx => cases hx; exact ⟨by decide, by decide, by show (_ : Int) ≤ ((3 : Nat) : Int); decide⟩
      | 2, hx => cases hx; exact ⟨by decide, by omega⟩
      | j + 3, hx => cases hx
    refine iteNo (fun z => c5 (by have := V.int.inj z; omega)) ?_
    refine ⟨_, rfl, (by show 3 ≤ sizeLine; omega), fun T0 nT0 => ?_⟩
    have sT0 := Same.upd (o := .tup [.str "tail", .int (a : Int), .int 0]) nT0
    refine ⟨_, rfl, (by show 3 ≤ sizeLine; omega), fun T1 nT1 => ?_⟩
    have sT1 := Same.upd (o := .tup [.str "jump", .int (a : Int), .int 2]) nT1
    refine ⟨(by show 3 ≤ sizeLine; omega), fun T2 nT2 => ?_⟩
    have sT2 := Same.upd (o := .tup [.str "jump", .int 0, .int 0]) nT2
    refine ⟨_, rfl, (by show 4 ≤ sizeLine; omega), fun T3 nT3 => ?_⟩
    have sT3 := Same.upd (o := .tup [.str "cons", .int 0, .int 0, .int (a : Int)]) nT3
    refine ⟨(by show 4 ≤ sizeLine; omega), fun D nD => ?_⟩
    have sD := Same.upd (o := .lst [.ref T0, .ref T1, .ref T2, .ref T3]) nD
    have rT0 := sD _ _ (sT3 _ _ (sT2 _ _ (sT1 _ _ upd_same)))
    have rT1 := sD _ _ (sT3 _ _ (sT2 _ _ upd_same))
    have rT2 := sD _ _ (sT3 _ _ upd_same)
    have rT3 := sD _ _ upd_same
    have sB := (((sT0.trans sT1).trans sT2).trans sT3)
    have sA := sB.trans sD
    refine q D _ [.tail a 0, .jump a 2, .jump 0 0, .cons 0 0 a] (ex2.trans sA.exs) (sA.strm st2) (hno (ex2.trans sB.exs) nD) ⟨[T0, T1, T2, T3], upd_same, (.cons rT0 (.cons rT1 (.cons rT2 (.cons rT3 .nil))))⟩ (by show 4 ≤ 8; decide) (fun j x hx => ?_)
    match j, hx with
    | 0, hx => cases hx; exact ⟨by omega, by decide⟩
    | 1, hx => cases hx; exact ⟨by omega, by decide, by show (_ : Int) ≤ ((4 : Nat) : Int); decide⟩
    | 2, hx => cases hx; exact ⟨by decide, by decide, by show (_ : Int) ≤ ((4 : Nat) : Int); decide⟩
    | 3, hx => cases hx; exact ⟨by decide, by decide, by omega⟩
    | j + 4, hx => cases hx
abbrev s_law_size : Stmt := topS 68
abbrev nm_law_size : List Str := ["program", "words", "size", "one"]
theorem sc_law_size : FnScope nm_law_size ["program"] (defScope s_law_size) := ⟨rfl, rfl, rfl, by decide +kernel, rfl, by decide +kernel, by decide +kernel⟩
def jpC (n : Int) : Nat := if n < 0 then 2 else 0
theorem csz_jmp (a : Nat) (n : Int) : csz (.jump a n) = 2 * a + 2 * n.natAbs + 17 + jpC n := by
  show (Tr.node (numT 5) (.node (numT a) (.node (if n < 0 then .node .leaf .leaf else .leaf) (numT n.natAbs)))).sg.length = _
  rw [node_len, node_len, node_len, numT_len, numT_len, numT_len]
  unfold jpC
  split
  · have : (Tr.node .leaf .leaf).sg.length = 3 := rfl
    omega
  · have : Tr.leaf.sg.length = 1 := rfl
    omega
def sp_law_size (K : PySem.W.Frag) (cl : Cn → Addr) : Sp := fun vs H Q _ => ∃ (p : Addr) (is : List Ins), vs = [.ref p] ∧ PgK K H p is ∧ is.length ≤ 1000 ∧ (∀ i ∈ is, i.small) ∧ ∀ H', Same H H' → Q (.int ((1 + sumC is : Nat) : Int)) H'
theorem sumC_take {is : List Ins} {j : Nat} {i : Ins} (h : is[j]? = some i) : sumC (is.take (j + 1)) = sumC (is.take j) + (1 + csz i) := by
  rw [List.take_add_one, h, sumC_app]
  rfl
theorem ok_law_size (T : Txt K mg cl w) {f : Addr} {fd : FuncData} (F : Fun K "_law_size" "_law_size" s_law_size f fd) : FnOk P w K mg base CX0 1 f fd ["program"] (sp_law_size K cl) := by
  have m_len := T.m_len
  have m_int := T.m_int
  have m_abs := T.m_abs
  refine F.ok sc_law_size (fun vs H Q E h => ?_) (fun cdv A outer s H vs Q E hr h => ?_)
  · obtain ⟨n, _, rfl, _⟩ := h
    rfl
  · obtain ⟨p, is, rfl, hp, hl, hs, q⟩ := h
    have hz : sizeLine = 16777216 := rfl
    refine ⟨_, (pss_cons (ps_set (i := 1) sc_law_size.nd rfl (Or.inl rfl) (pe_lst (pa_cons pe_str (pa_cons pe_str (pa_cons pe_str (pa_cons pe_str (pa_cons pe_str (pa_cons pe_str pa_nil))))))))
      (pss_cons (ps_set (i := 2) sc_law_size.nd rfl (Or.inl rfl) pe_int)
      (pss_cons (ps_for PassesOwn.never rfl (pi_list (pv 0)) (pg_name (i := 3) sc_law_size.nd rfl (Or.inl rfl)) (pss_cons (ps_set (i := 2) sc_law_size.nd rfl (Or.inl rfl) (pe_op op_add (pe_op op_add (pe_op op_add (pv 2) pe_int) (pe_op op_mul pe_int (pe_bm PySem.F.plainAttrs_list PySem.F.slot_list_index PySem.F.type_list_index mt_index (pv 1) (pa_cons (pe_ix (ix_tup : IxR _ (rIxT K)) (pv 3) pe_int (fun _ _ => rfl)) pa_nil)))) (pe_op op_mul pe_int (pe_ix (ix_tup : IxR _ (rIxT K)) (pv 3) pe_int (fun _ _ => rfl)))))
      (pss_one (ps_if (pt_cmpR op_eq (pe_ix (ix_tup : IxR _ (rIxT K)) (pv 3) pe_int (fun _ _ => rfl)) pe_str (nomark _)) (pss_one (ps_set (i := 2) sc_law_size.nd rfl (Or.inl rfl) (pe_op op_add (pv 2) (pe_callB call_len_str (by rfl) m_len (by decide +kernel) (pa_cons (pe_ix (ix_tup : IxR _ (rIxT K)) (pv 3) pe_int (fun _ _ => rfl)) pa_nil))))) (pss_one (ps_if (pt_cmpR op_eq (pe_ix (ix_tup : IxR _ (rIxT K)) (pv 3) pe_int (fun _ _ => rfl)) pe_str (nomark _)) (pss_one (ps_set (i := 2) sc_law_size.nd rfl (Or.inl rfl) (pe_op op_add (pe_op op_add (pe_op op_add (pv 2) pe_int) (pe_op op_mul pe_int (pe_ix (ix_tup : IxR _ (rIxT K)) (pv 3) pe_int (fun _ _ => rfl)))) (pe_op op_mul pe_int (pe_ix (ix_tup : IxR _ (rIxT K)) (pv 3) pe_int (fun _ _ => rfl)))))) (pss_one (ps_if (pt_cmpR op_eq (pe_ix (ix_tup : IxR _ (rIxT K)) (pv 3) pe_int (fun _ _ => rfl)) pe_str (nomark _)) (pss_one (ps_set (i := 2) sc_law_size.nd rfl (Or.inl rfl) (pe_op op_add (pe_op op_add (pe_op op_add (pv 2) pe_int) (pe_op op_mul pe_int (pe_callB call_abs (by rfl) m_abs (by decide +kernel) (pa_cons (pe_ix (ix_tup : IxR _ (rIxT K)) (pv 3) pe_int (fun _ _ => rfl)) pa_nil)))) (pe_op op_mul pe_int (pe_callTy call_int1 (by rfl) m_int (by decide +kernel) (pa_cons (pe_cmpR op_lt (pe_ix (ix_tup : IxR _ (rIxT K)) (pv 3) pe_int (fun _ _ => rfl)) pe_int (nomark _)) pa_nil)))))) (pss_one (ps_set (i := 2) sc_law_size.nd rfl (Or.inl rfl) (pe_op op_add (pe_op op_add (pv 2) pe_int) (pe_op op_mul pe_int (pe_ix (ix_tup : IxR _ (rIxT K)) (pv 3) pe_int (fun _ _ => rfl))))))))))))))
      (pss_one (ps_ret (pv 2)))))), ?_⟩
    refine ⟨(by show 6 ≤ sizeLine; omega), fun W nW => ?_⟩
    have sW := Same.upd (o := .lst [.str "set", .str "move", .str "cons", .str "head", .str "tail", .str "jump"]) nW
    have hW : upd H W (.lst [.str "set", .str "move", .str "cons", .str "head", .str "tail", .str "jump"]) W = some (.lst [.str "set", .str "move", .str "cons", .str "head", .str "tail", .str "jump"]) := upd_same
    have hpW := hp.same sW
    have q : ∀ H', Same (upd H W (.lst [.str "set", .str "move", .str "cons", .str "head", .str "tail", .str "jump"])) H' → Q (.int ((1 + sumC is : Nat) : Int)) H' := fun H' s => q H' (sW.trans s)
    clear hp sW nW
    generalize upd H W (.lst [V.str "set", V.str "move", V.str "cons", V.str "head", V.str "tail", V.str "jump"]) = HW at hW hpW q ⊢
    obtain ⟨xs, hx, hlen, hget⟩ := hpW.get
    refine ⟨_, rfl, p, rfl, ⟨_, SqL.of hx⟩, for_list (K := K) (a := p) (xs := xs) (fun j σ H' => ∃ v3, σ = [some (.ref p), some (.ref W), some (.int ((1 + sumC (is.take j) : Nat) : Int)), v3] ∧ Same HW H') ⟨none, rfl, .refl _⟩ (fun j σ H' _ ⟨_, _, sm⟩ => sm.seq (SqL.of hx)) ?_ ?_⟩
    · rintro j y σ H1 hi ⟨v3, rfl, sm⟩
      have hil : j < is.length := by
        have := (List.getElem?_eq_some_iff.mp hi).1
        omega
      have hix := List.getElem?_eq_getElem hil
      rw [sumC_take hix]
      obtain ⟨a, ha, hrow⟩ := hget j _ hix
      have hmem := List.getElem_mem hil
      generalize is[j] = x at hix hrow hmem ⊢
      rw [ha] at hi
      cases hi
      generalize sumC (is.take j) = S
      have hrow2 := sm.seqT hrow
      have hW2 := sm _ _ hW
      have hsx := hs x hmem
      have hat0 : atI x.vs 0 = some (.str x.word) := atI_nat (j := 0) rfl
      have ne : ∀ {x y : String}, (Str.ofString x ≠ Str.ofString y) → ¬ V.str (Str.ofString x) = V.str (Str.ofString y) := fun h z => h (V.str.inj z)
      refine ⟨_, rfl, _, _, rfl, rfl, _, rfl, .inl ⟨rfl, _, SqL.of hW2⟩, _, rfl, _, _, _, .str x.word, rfl, rfl, hrow2, hat0, ?_⟩
      try delta tNil
      refine idx_word x hW2 ?_
      refine ⟨_, _, rfl, rfl, .inl (by decide), _, _, rfl, rfl, _, rfl, _, _, _, _, rfl, rfl, hrow2, atI_nat (j := 1) x.a_at, _, _, rfl, rfl, .inl (by decide), _, _, rfl, rfl, ?_⟩
      have fin : ∀ m : Int, m = ((1 + (S + (1 + csz x)) : Nat) : Int) → ([some (V.ref p), some (.ref W), some (.int m), some (.ref a)] : List (Option V)) = [some (.ref p), some (.ref W), some (.int ((1 + (S + (1 + csz x)) : Nat) : Int)), some (.ref a)] := fun m e => by rw [e]
      · refine ⟨_, rfl, _, _, _, .str x.word, rfl, rfl, hrow2, hat0, rfl, _, rfl, ?_⟩
        cases x with
        | set r t =>
          have hz2 := csz_set r t
          have ht := t.str_len
          have hsm : t.sg.length ≤ 200000 := hsx.2
          refine iteS rfl ⟨_, rfl, _, rfl, _, _, _, _, rfl, rfl, hrow2, atI_nat (j := 2) rfl, _, rfl, (by omega), _, _, rfl, rfl, _, fin _ ?_, sm⟩
          show ((1 + S : Nat) : Int) + 5 + 2 * ((0 : Nat) : Int) + 2 * ((r : Nat) : Int) + ((t.str.length : Nat) : Int) = _
          omega
        | move r b =>
          have hz2 := csz_move r b
          refine iteNo (ne (by decide +kernel)) ⟨_, rfl, _, _, _, _, rfl, rfl, hrow2, hat0, rfl, _, rfl, iteNo (ne (by decide +kernel)) ⟨_, rfl, _, _, _, _, rfl, rfl, hrow2, hat0, rfl, _, rfl, iteNo (ne (by decide +kernel)) ⟨_, rfl, _, _, rfl, rfl, _, rfl, _, _, _, _, rfl, rfl, hrow2, atI_nat (j := 2) rfl, _, _, rfl, rfl, .inl (by decide), _, _, rfl, rfl, _, fin _ ?_, sm⟩⟩⟩
          show ((1 + S : Nat) : Int) + 5 + 2 * ((1 : Nat) : Int) + 2 * ((r : Nat) : Int) + 1 + 2 * ((b : Nat) : Int) = _
          omega
        | head r b =>
          have hz2 := csz_head r b
          refine iteNo (ne (by decide +kernel)) ⟨_, rfl, _, _, _, _, rfl, rfl, hrow2, hat0, rfl, _, rfl, iteNo (ne (by decide +kernel)) ⟨_, rfl, _, _, _, _, rfl, rfl, hrow2, hat0, rfl, _, rfl, iteNo (ne (by decide +kernel)) ⟨_, rfl, _, _, rfl, rfl, _, rfl, _, _, _, _, rfl, rfl, hrow2, atI_nat (j := 2) rfl, _, _, rfl, rfl, .inl (by decide), _, _, rfl, rfl, _, fin _ ?_, sm⟩⟩⟩
          show ((1 + S : Nat) : Int) + 5 + 2 * ((3 : Nat) : Int) + 2 * ((r : Nat) : Int) + 1 + 2 * ((b : Nat) : Int) = _
          omega
        | tail r b =>
          have hz2 := csz_tail r b
          refine iteNo (ne (by decide +kernel)) ⟨_, rfl, _, _, _, _, rfl, rfl, hrow2, hat0, rfl, _, rfl, iteNo (ne (by decide +kernel)) ⟨_, rfl, _, _, _, _, rfl, rfl, hrow2, hat0, rfl, _, rfl, iteNo (ne (by decide +kernel)) ⟨_, rfl, _, _, rfl, rfl, _, rfl, _, _, _, _, rfl, rfl, hrow2, atI_nat (j := 2) rfl, _, _, rfl, rfl, .inl (by decide), _, _, rfl, rfl, _, fin _ ?_, sm⟩⟩⟩
          show ((1 + S : Nat) : Int) + 5 + 2 * ((4 : Nat) : Int) + 2 * ((r : Nat) : Int) + 1 + 2 * ((b : Nat) : Int) = _
          omega
        | cons r b c =>
          have hz2 := csz_cons r b c
          refine iteNo (ne (by decide +kernel)) ⟨_, rfl, _, _, _, _, rfl, rfl, hrow2, hat0, rfl, _, rfl, iteS rfl ⟨_, rfl, _, _, rfl, rfl, _, rfl, _, _, _, _, rfl, rfl, hrow2, atI_nat (j := 2) rfl, _, _, rfl, rfl, .inl (by decide), _, _, rfl, rfl, _, rfl, _, _, _, _, rfl, rfl, hrow2, atI_nat (j := 3) rfl, _, _, rfl, rfl, .inl (by decide), _, _, rfl, rfl, _, fin _ ?_, sm⟩⟩
          show ((1 + S : Nat) : Int) + 5 + 2 * ((2 : Nat) : Int) + 2 * ((r : Nat) : Int) + 3 + 2 * ((b : Nat) : Int) + 2 * ((c : Nat) : Int) = _
          omega
        | jump r n =>
          have hz2 := csz_jmp r n
          refine iteNo (ne (by decide +kernel)) ⟨_, rfl, _, _, _, _, rfl, rfl, hrow2, hat0, rfl, _, rfl, iteNo (ne (by decide +kernel)) ⟨_, rfl, _, _, _, _, rfl, rfl, hrow2, hat0, rfl, _, rfl, iteS rfl ?_⟩⟩
          refine ⟨_, rfl, _, _, rfl, rfl, _, rfl, _, _, _, _, rfl, rfl, hrow2, atI_nat (j := 2) rfl, _, rfl, _, _, rfl, rfl, .inl (by decide), _, _, rfl, rfl, _, rfl, _, _, _, _, rfl, rfl, hrow2, atI_nat (j := 2) rfl, _, _, rfl, rfl, .inr ⟨_, rfl, _, _, rfl, rfl, .inl (by decide), _, _, rfl, rfl, _, fin _ ?_, sm⟩⟩
          show ((1 + S : Nat) : Int) + 5 + 2 * ((5 : Nat) : Int) + 2 * ((r : Nat) : Int) + 3 + 2 * _ + 2 * (if decide (n < 0) = true then 1 else 0) = _
          unfold jpC at hz2
          by_cases c : n < 0
          · rw [decide_eq_true c, if_pos rfl]
            rw [if_pos c] at hz2
            have := abs_nat n
            omega
          · rw [decide_eq_false c, if_neg (show ¬ (false = true) by decide)]
            rw [if_neg c] at hz2
            have := abs_nat n
            omega
    · rintro σ H1 ⟨v3, rfl, sm⟩
      refine ⟨_, rfl, ?_⟩
      rw [List.take_of_length_le (by omega)]
      exact q _ sm
abbrev s_trees_of : Stmt := topS 15
abbrev nm_trees_of : List Str := ["program", "instruction"]
theorem sc_trees_of : FnScope nm_trees_of ["program"] (defScope s_trees_of) := ⟨rfl, rfl, rfl, by decide +kernel, rfl, by decide +kernel, by decide +kernel⟩
/-- the rows of a list, with the trees that they set -/
def TrR (K : PySem.W.Frag) (H : Hp) (xs : List V) (os : List (Option Str)) : Prop := xs.length = os.length ∧ ∀ (j : Nat) (y : V), xs[j]? = some y → ∃ (T : Addr) (us : List V) (w : Str) (o : Option Str), y = .ref T ∧ SqT K H T us ∧ us[0]? = some (.str w) ∧ os[j]? = some o ∧
  ((w = Str.ofString "set" ∧ ∃ t, us[2]? = some (.str t) ∧ o = some t) ∨ (w ≠ Str.ofString "set" ∧ o = none))
theorem TrR.vd {K : PySem.W.Frag} {H : Hp} {xs : List V} {ds : List PyData} (r : VdA H xs ds)
    (form : ∀ (j : Nat) (d : PyData), ds[j]? = some d → ∃ w ps, d = .tuple (.str w :: ps) ∧ ((w = Str.ofString "set" ∧ ∃ p0 t, ps = [p0, .str t] ∧ treeD d = some t) ∨ (w ≠ Str.ofString "set" ∧ treeD d = none))) : TrR K H xs (ds.map treeD) := by
  refine ⟨by rw [List.length_map]; exact r.len, fun j y hy => ?_⟩
  obtain ⟨d, hd, hvd⟩ := r.get' hy
  obtain ⟨w, ps, rfl, hf⟩ := form j d hd
  obtain ⟨T, us, rfl, hT, hu, _⟩ := hvd.row
  refine ⟨T, _, w, treeD (.tuple (.str w :: ps)), rfl, SqT.of hT, rfl, by rw [List.getElem?_map, hd]; rfl, ?_⟩
  rcases hf with ⟨hw, p0, t, rfl, ht⟩ | ⟨hw, ht⟩
  · refine .inl ⟨hw, t, ?_, ht⟩
    cases hu with
    | cons hu0 r1 =>
      cases r1 with
      | cons ht1 r2 =>
        cases r2
        cases ht1 with
        | str _ hts => rfl
  · exact .inr ⟨hw, ht⟩
theorem TrR.pg {K : PySem.W.Frag} {H : Hp} : ∀ {as : List Addr} {is : List Ins}, RowsK K H as is → TrR K H (as.map V.ref) (is.map fun i => i.tree.map Tr.str) := fun {as is} r => by
  have hl := Paired.len r
  refine ⟨by rw [List.length_map, List.length_map, hl], fun j y hy => ?_⟩
  have hj : j < is.length := by
    have := (List.getElem?_eq_some_iff.mp hy).1
    rw [List.length_map] at this
    omega
  have hi := List.getElem?_eq_getElem hj
  obtain ⟨a, h1, h2⟩ := Paired.get r hi
  rw [List.getElem?_map, h1] at hy
  cases hy
  generalize is[j] = i at hi h2
  refine ⟨a, i.vs, i.word, i.tree.map Tr.str, rfl, h2, rfl, by rw [List.getElem?_map, hi]; rfl, ?_⟩
  cases i with
  | set a t => exact .inl ⟨rfl, t.str, rfl, rfl⟩
  | move a b => exact .inr ⟨(by decide +kernel : Str.ofString "move" ≠ Str.ofString "set"), rfl⟩
  | cons a b c => exact .inr ⟨(by decide +kernel : Str.ofString "cons" ≠ Str.ofString "set"), rfl⟩
  | head a b => exact .inr ⟨(by decide +kernel : Str.ofString "head" ≠ Str.ofString "set"), rfl⟩
  | tail a b => exact .inr ⟨(by decide +kernel : Str.ofString "tail" ≠ Str.ofString "set"), rfl⟩
  | jump a m => exact .inr ⟨(by decide +kernel : Str.ofString "jump" ≠ Str.ofString "set"), rfl⟩
theorem take_id {os : List (Option Str)} {j : Nat} {o : Option Str} (h : os[j]? = some o) : (os.take (j + 1)).filterMap id = (os.take j).filterMap id ++ o.toList := by
  rw [List.take_add_one, h, List.filterMap_append]
  cases o <;> rfl
theorem id_map (ds : List PyData) : (ds.map treeD).filterMap id = ds.filterMap treeD := by
  rw [List.filterMap_map]
  rfl
theorem id_trees (is : List Ins) : (is.map fun i => i.tree.map Tr.str).filterMap id = (is.filterMap Ins.tree).map Tr.str := by
  induction is with
  | nil => rfl
  | cons i r ih =>
    rw [List.map_cons, List.filterMap_cons, List.filterMap_cons]
    cases e : i.tree with
    | none => exact ih
    | some t =>
      show t.str :: _ = _
      rw [ih]
      rfl
def sp_trees_of (K : PySem.W.Frag) (cl : Cn → Addr) : Sp := fun vs H Q _ => ∃ (a : Addr) (xs : List V) (os : List (Option Str)), vs = [.ref a] ∧ H a = some (.lst xs) ∧ TrR K H xs os ∧ os.length ≤ 1000000 ∧
  ∀ D H', Same H H' → H D = none → H' D = some (.lst ((os.filterMap id).map V.str)) → Q (.ref D) H'
theorem ok_trees_of (T : Txt K mg cl w) {f : Addr} {fd : FuncData} (F : Fun K "trees_of" "trees_of" s_trees_of f fd) : FnOk P w K mg base CX0 1 f fd ["program"] (sp_trees_of K cl) := by
  refine F.ok sc_trees_of (fun vs H Q E h => ?_) (fun cdv A outer s H vs Q E hr h => ?_)
  · obtain ⟨a, xs, ds, rfl, _⟩ := h
    rfl
  · obtain ⟨a, xs, os, rfl, ha, r, hlen, q⟩ := h
    have hn := r.1
    have szl : sizeLine = 16777216 := rfl
    refine ⟨_, (pss_one (ps_ret (pe_lc (own := [("instruction", 1)]) (g := gName 1) rfl sc_trees_of.nd (pi_list (pv 0)) (blkOk_by (N := nm_trees_of) (sc := defScope s_trees_of) (by decide +kernel)) (fun _ _ _ _ _ => (pg_name (i := 1) sc_trees_of.nd rfl (Or.inl rfl))) (fun _ _ _ _ _ => pts_one (pt_cmpR op_eq (pe_ix (ix_tup : IxR _ (rIxT K)) (pv 1) pe_int (fun _ _ => rfl)) pe_str (nomark _))) (fun _ _ _ _ _ => (pe_ix (ix_tup : IxR _ (rIxT K)) (pv 1) pe_int (fun _ _ => rfl)))))), ?_⟩
    refine ⟨_, rfl, a, rfl, ⟨_, SqL.of ha⟩, fun D nD => lc_it walk_list (fun j H' => Same H H' ∧ H' D = some (.lst (((os.take j).filterMap id).map V.str))) ⟨Same.upd nD, upd_same⟩ (fun j H' _ s => SqL.of (s.1 _ _ ha)) ?_ ?_⟩
    · rintro j y H2 H3 hj ⟨s2, hD⟩ ⟨rfl, hy⟩
      obtain ⟨T, us, w, o, rfl, hT, hw0, ho, hf⟩ := r.2 j y hy
      have hT := Same.seqT s2 hT
      have hsame : ∀ o, Same H (upd H3 D o) := fun o b x z => by
        rw [upd_ne (ne_of_none z nD)]
        exact s2 b x z
      refine ⟨rfl, ?_⟩
      refine ⟨_, rfl, _, _, _, _, rfl, rfl, hT, atI_nat (j := 0) hw0, rfl, _, rfl, ?_⟩
      rcases hf with ⟨hw, t, ht2, rfl⟩ | ⟨hw, rfl⟩
      · refine iteS (by rw [hw]) ?_
        refine ⟨_, rfl, _, _, _, _, rfl, rfl, hT, atI_nat (j := 2) ht2, ?_⟩
        refine ⟨_, hD, ?_, hsame _, ?_⟩
        · have h1 := List.length_filterMap_le id (os.take j)
          rw [List.length_map]
          rw [List.length_take] at h1
          omega
        · rw [upd_same, take_id ho, List.map_append]
          rfl
      · refine iteNo (fun z => hw (V.str.inj z)) ?_
        refine ⟨s2, ?_⟩
        rw [hD, take_id ho, show (none : Option Str).toList = [] from rfl, List.append_nil]
    · rintro H2 ⟨s2, hD⟩
      rw [List.take_of_length_le (by omega)] at hD
      exact q D H2 s2 nD hD
abbrev s_within_limits : Stmt := topS 24
abbrev nm_within_limits : List Str := ["program", "tree"]
theorem sc_within_limits : FnScope nm_within_limits ["program"] (defScope s_within_limits) := ⟨rfl, rfl, rfl, by decide +kernel, rfl, by decide +kernel, by decide +kernel⟩
def sp_within_limits (K : PySem.W.Frag) (cl : Cn → Addr) : Sp := fun vs H Q E => ∃ (p : Addr) (is : List Ins), vs = [.ref p] ∧ PgK K H p is ∧ (∀ i ∈ is, i.big ≤ 1000000) ∧ is.length ≤ 1000000 ∧ (Fits is → ∀ H', Same H H' → Q (.ref p) H') ∧ (¬ Fits is → ∀ H', Same H H' → E (.ref (cl .TooLarge)) none H')
theorem ok_within_limits (T : Txt K mg cl w) (H_trees_of : Has P w K mg base CX0 1 "trees_of" ["program"] (sp_trees_of K cl)) {f : Addr} {fd : FuncData} (F : Fun K "within_limits" "within_limits" s_within_limits f fd) : FnOk P w K mg base (L2.CX P w) 2 f fd ["program"] (sp_within_limits K cl) := by
  obtain ⟨t_MOST_CODE, m_MOST_CODE⟩ := T.m_MOST_CODE
  obtain ⟨t_MOST_TREE, m_MOST_TREE⟩ := T.m_MOST_TREE
  have m_len := T.m_len
  obtain ⟨g_TooLarge, x_TooLarge⟩ := T.e_TooLarge
  have m_sum := T.m_sum
  obtain ⟨f_trees_of, d_trees_of, G_trees_of, g_trees_of, k_trees_of, b_trees_of⟩ := H_trees_of.ex
  refine F.okX sc_within_limits (fun vs H Q E h => ?_) (fun cdv A outer s H vs Q E hr h => ?_)
  · obtain ⟨n, _, rfl, _⟩ := h
    rfl
  · obtain ⟨p, is, rfl, hp, hb, hlm, q, e⟩ := h
    have hz : sizeLine = 16777216 := rfl
    refine ⟨_, (pss_cons (ps_if (pt_cmpR op_gt (pe_callB (call_lenS : CallR _ _ (rLenS K)) (by rfl) m_len (by decide +kernel) (pa_cons (pv 0) pa_nil)) (pe_glob (v := .int 600) (by rfl) m_MOST_CODE ⟨_, rfl⟩) (nomark _)) (pss_one (ps_raise rfl (takes_of rfl rfl rfl rfl) (pmk_own PySem.F.excBase_ValueError x_TooLarge.x g_TooLarge x_TooLarge.k (raises_own x_TooLarge.b x_TooLarge.t) (by exact rfl)))) pss_nil)
      (pss_cons (ps_if (pt_cmpR op_gt (pe_callB (cr_sum rfl) (by rfl) m_sum (by decide +kernel) (pa_cons (pe_lc (own := [("tree", 1)]) (g := gName 1) (tt := tYes) rfl sc_within_limits.nd (pi_list (pe_call G_trees_of (hr.mono (by decide)) (by rfl) g_trees_of k_trees_of b_trees_of .nil pass0 (pa_cons (pv 0) pa_nil))) (blkOk_by (N := nm_within_limits) (sc := defScope s_within_limits) (by decide +kernel)) (fun _ _ _ _ _ => (pg_name (i := 1) sc_within_limits.nd rfl (Or.inl rfl))) (fun _ _ _ _ _ => pts_nil) (fun _ _ _ _ _ => (pe_callB call_len_str (by rfl) m_len (by decide +kernel) (pa_cons (pv 1) pa_nil)))) pa_nil)) (pe_glob (v := .int 200000) (by rfl) m_MOST_TREE ⟨_, rfl⟩) (nomark _)) (pss_one (ps_raise rfl (takes_of rfl rfl rfl rfl) (pmk_own PySem.F.excBase_ValueError x_TooLarge.x g_TooLarge x_TooLarge.k (raises_own x_TooLarge.b x_TooLarge.t) (by exact rfl)))) pss_nil)
      (pss_one (ps_ret (pv 0))))), ?_⟩
    obtain ⟨as, hx, hr2⟩ := id hp
    have hlen : (as.map V.ref).length = is.length := by rw [List.length_map, Paired.len hr2]
    refine ⟨_, rfl, _, _, rfl, .inl (SqL.of hx), _, _, rfl, rfl, _, rfl, ?_⟩
    by_cases c : is.length ≤ 600
    case neg =>
      refine iteS (by rw [hlen]; show (600 : Int) < _; omega) (e (fun h => c h.1) H (.refl _))
    case pos =>
    refine iteNo (by rw [hlen]; show ¬ (600 : Int) < _; omega) ?_
    have hbig : ∀ i ∈ is, i.big ≤ sizeLine := fun i hi => by
      have := hb i hi
      omega
    refine ⟨_, rfl, p, as.map V.ref, is.map (fun i => i.tree.map Tr.str), rfl, hx, TrR.pg hr2, (by rw [List.length_map]; omega), fun D H1 s1 nD hD => ?_⟩
    rw [id_trees] at hD
    have hts : ∀ t ∈ is.filterMap Ins.tree, t.str.length ≤ sizeLine := fun t ht => by
      obtain ⟨i, hi, h2⟩ := List.mem_filterMap.mp ht
      have h1 := hbig i hi
      cases i with
      | set a x =>
        have h2 : x = t := Option.some.inj h2
        subst h2
        rw [Tr.str_len]
        exact h1
      | _ => cases h2
    have htl : (is.filterMap Ins.tree).length ≤ 600 := by
      have := List.length_filterMap_le Ins.tree is
      omega
    have esum : treesSum is = ((is.filterMap Ins.tree).map fun t => t.sg.length).sum := rfl
    generalize is.filterMap Ins.tree = ts at *
    refine ⟨D, rfl, ⟨_, SqL.of hD⟩, fun R nR => lc_map (K := K) (a := D) (xs := (ts.map Tr.str).map V.str) lenV nR (SqL.of hD) (by rw [List.length_map, List.length_map]; omega) (fun _ => rfl) (fun x H3 hx3 sm3 Q hq => ?_) (fun H3 sm3 hR => ?_)⟩
    · obtain ⟨z, hzz, rfl⟩ := List.mem_map.mp hx3
      obtain ⟨t, ht2, rfl⟩ := List.mem_map.mp hzz
      exact ⟨_, rfl, _, rfl, hts t ht2, hq H3 (.refl _)⟩
    have e1 : ((ts.map Tr.str).map V.str).map lenV = (ts.map fun t => ((t.sg.length : Nat) : Int)).map V.int := by
      rw [List.map_map, List.map_map, List.map_map]
      refine List.map_congr_left fun t _ => ?_
      show V.int ((t.str.length : Nat) : Int) = _
      rw [Tr.str_len]
      rfl
    rw [e1] at hR
    have e2 : ((ts.map fun t => ((t.sg.length : Nat) : Int)).sum) = ((treesSum is : Nat) : Int) := by
      rw [esum]
      clear hts htl hD e1 hR esum
      induction ts with
      | nil => rfl
      | cons t r ih =>
        rw [List.map_cons, List.sum_cons, List.map_cons, List.sum_cons, ih]
        omega
    refine ⟨R, _, rfl, SqL.of hR, _, _, rfl, rfl, _, rfl, ?_⟩
    rw [e2]
    by_cases c2 : treesSum is ≤ 200000
    · exact iteNo (by omega) ⟨_, rfl, q ⟨c, c2⟩ H3 (s1.trans sm3)⟩
    · exact iteS (by omega) (e (fun h => c2 h.2) H3 (s1.trans sm3))
abbrev s_list_of : Stmt := topS 9
abbrev nm_list_of : List Str := ["trees", "tree"]
theorem sc_list_of : FnScope nm_list_of ["trees"] (defScope s_list_of) := ⟨rfl, rfl, rfl, by decide +kernel, rfl, by decide +kernel, by decide +kernel⟩
def sp_list_of (K : PySem.W.Frag) (cl : Cn → Addr) : Sp := fun vs H Q E => ∃ (a : Addr) (ts : List Tr), vs = [.ref a] ∧ SqL K H a (trV ts) ∧ ts.length ≤ 1000000 ∧ (∀ t ∈ ts, t.sg.length ≤ 1000000) ∧
  ((lstT ts).sg.length ≤ 200000 → ∀ H', Same H H' → Q (.str (lstT ts).str) H') ∧ (200000 < (lstT ts).sg.length → ∀ H', Same H H' → E (.ref (cl .TooLarge)) none H')
theorem ok_list_of (T : Txt K mg cl w) {f : Addr} {fd : FuncData} (F : Fun K "list_of" "list_of" s_list_of f fd) : FnOk P w K mg base (L2.CX P w) 1 f fd ["trees"] (sp_list_of K cl) := by
  obtain ⟨t_MOST_TREE, m_MOST_TREE⟩ := T.m_MOST_TREE
  obtain ⟨t_LEAF, m_LEAF⟩ := T.m_LEAF
  obtain ⟨g_TooLarge, x_TooLarge⟩ := T.e_TooLarge
  have m_len := T.m_len
  have m_sum := T.m_sum
  refine F.okX sc_list_of (fun vs H Q E h => ?_) (fun cdv A outer s H vs Q E hr h => ?_)
  · obtain ⟨n, _, rfl, _⟩ := h
    rfl
  · obtain ⟨a, ts, rfl, hS, hn, hb, q, e⟩ := h
    have hz : sizeLine = 16777216 := rfl
    refine ⟨_, (pss_cons (ps_if (pt_cmpR op_gt (pe_op op_add (pe_op op_add (pe_callB (call_lenS : CallR _ _ (rLenS K)) (by rfl) m_len (by decide +kernel) (pa_cons (pv 0) pa_nil)) (pe_callB (cr_sum rfl) (by rfl) m_sum (by decide +kernel) (pa_cons (pe_lc (own := [("tree", 1)]) (g := gName 1) (tt := tYes) rfl sc_list_of.nd (pi_list (pv 0)) (blkOk_by (N := nm_list_of) (sc := defScope s_list_of) (by decide +kernel)) (fun _ _ _ _ _ => (pg_name (i := 1) sc_list_of.nd rfl (Or.inl rfl))) (fun _ _ _ _ _ => pts_nil) (fun _ _ _ _ _ => (pe_callB call_len_str (by rfl) m_len (by decide +kernel) (pa_cons (pv 1) pa_nil)))) pa_nil))) pe_int) (pe_glob (v := .int 200000) (by rfl) m_MOST_TREE ⟨_, rfl⟩) (nomark _)) (pss_one (ps_raise rfl (takes_of rfl rfl rfl rfl) (pmk_own PySem.F.excBase_ValueError x_TooLarge.x g_TooLarge x_TooLarge.k (raises_own x_TooLarge.b x_TooLarge.t) (by exact rfl)))) pss_nil)
      (pss_one (ps_ret (pe_op op_add_str (pe_join pe_str (pe_lc (own := [("tree", 1)]) (g := gName 1) (tt := tYes) rfl sc_list_of.nd (pi_list (pv 0)) (blkOk_by (N := nm_list_of) (sc := defScope s_list_of) (by decide +kernel)) (fun _ _ _ _ _ => (pg_name (i := 1) sc_list_of.nd rfl (Or.inl rfl))) (fun _ _ _ _ _ => pts_nil) (fun _ _ _ _ _ => (pe_op op_add_str pe_str (pv 1))))) (pe_glob (v := .str "0") (by rfl) m_LEAF ⟨_, rfl⟩))))), ?_⟩
    have hl := trV_len ts
    refine ⟨_, rfl, a, _, rfl, .inl hS, _, rfl, a, rfl, ⟨_, hS⟩, fun D hD => lc_map (K := K) (a := a) (xs := trV ts) lenV hD hS (by omega) (fun _ => rfl) (fun x H1 hx sm Q hq => ?_) (fun H1 sm hD1 => ?_)⟩
    · obtain ⟨t, ht, rfl⟩ := mem_trV hx
      have h1 := hb t ht
      have h2 := t.str_len
      exact ⟨_, rfl, _, rfl, (by omega), hq H1 (.refl _)⟩
    · have e1 : (trV ts).map lenV = (ts.map fun t => ((t.sg.length : Nat) : Int)).map V.int := by
        unfold trV
        rw [List.map_map, List.map_map]
        refine List.map_congr_left fun t _ => ?_
        show V.int ((t.str.length : Nat) : Int) = V.int ((t.sg.length : Nat) : Int)
        rw [t.str_len]
      rw [e1] at hD1
      refine ⟨D, _, rfl, SqL.of hD1, _, _, rfl, rfl, _, _, rfl, rfl, _, _, rfl, rfl, _, rfl, ?_⟩
      have e2 : ((ts.map fun t => ((t.sg.length : Nat) : Int)).sum) = (((ts.map fun t => t.sg.length).sum : Nat) : Int) := by
        clear hS hn hb q e hl e1 hD1
        induction ts with
        | nil => rfl
        | cons t r ih =>
          rw [List.map_cons, List.sum_cons, List.map_cons, List.sum_cons, ih]
          omega
      have e3 := lstT_len ts
      rw [e2, hl]
      refine ite2 (fun c => ?_) (fun c => ?_)
      · have := of_decide_eq_true c
        exact e (by omega) _ sm
      · have c' : ¬ (200000 : Int) < (ts.length : Int) + (((ts.map fun t => t.sg.length).sum : Nat) : Int) + 1 := fun z => c (decide_eq_true z)
        refine ⟨⟨_, rfl⟩, _, rfl, a, rfl, ⟨_, sm.seq hS⟩, fun D2 hD2 => lc_map (K := K) (a := a) (xs := trV ts) oneV hD2 (sm.seq hS) (by omega) (fun _ => rfl) (fun x H2 hx sm2 Q hq => ?_) (fun H2 sm2 hD3 => ?_)⟩
        · obtain ⟨t, ht, rfl⟩ := mem_trV hx
          exact one_te rfl (hb t ht) (hq H2 (.refl _))
        · rw [oneV_map] at hD3
          have o1 := one_sum ts
          refine ⟨_, D2, _, rfl, rfl, .inl (SqL.of hD3), (by show _ + _ * 0 ≤ _; omega), ?_⟩
          have o2 := join_len ts
          refine ⟨_, _, rfl, rfl, (by show _ + 1 ≤ _; omega), ?_⟩
          rw [join_lst]
          exact q (by omega) _ (sm.trans sm2)
abbrev s_cons : Stmt := topS 7
abbrev nm_cons : List Str := ["first", "second"]
theorem sc_cons : FnScope nm_cons ["first", "second"] (defScope s_cons) := ⟨rfl, rfl, rfl, by decide +kernel, rfl, by decide +kernel, by decide +kernel⟩
def sp_cons (K : PySem.W.Frag) (cl : Cn → Addr) : Sp := fun vs H Q E => ∃ x y : Str, vs = [.str x, .str y] ∧ x.length ≤ 1000000 ∧ y.length ≤ 1000000 ∧ (1 + x.length + y.length ≤ 200000 → Q (.str (stS (49 :: (x.cps.toList ++ y.cps.toList)))) H) ∧ (200000 < 1 + x.length + y.length → E (.ref (cl .TooLarge)) none H)
theorem ok_cons (T : Txt K mg cl w) {f : Addr} {fd : FuncData} (F : Fun K "cons" "cons" s_cons f fd) : FnOk P w K mg base (L2.CX P w) 1 f fd ["first", "second"] (sp_cons K cl) := by
  obtain ⟨t_MOST_TREE, m_MOST_TREE⟩ := T.m_MOST_TREE
  obtain ⟨g_TooLarge, x_TooLarge⟩ := T.e_TooLarge
  have m_len := T.m_len
  refine F.okX sc_cons (fun vs H Q E h => ?_) (fun cdv A outer s H vs Q E hr h => ?_)
  · obtain ⟨x, y, rfl, _⟩ := h
    rfl
  · obtain ⟨x, y, rfl, hx, hy, q, e⟩ := h
    have hz : sizeLine = 16777216 := rfl
    refine ⟨_, (pss_cons (ps_if (pt_cmpR op_gt (pe_op op_add (pe_op op_add pe_int (pe_callB call_len_str (by rfl) m_len (by decide +kernel) (pa_cons (pv 0) pa_nil))) (pe_callB call_len_str (by rfl) m_len (by decide +kernel) (pa_cons (pv 1) pa_nil))) (pe_glob (v := .int 200000) (by rfl) m_MOST_TREE ⟨_, rfl⟩) (nomark _)) (pss_one (ps_raise rfl (takes_of rfl rfl rfl rfl) (pmk_own PySem.F.excBase_ValueError x_TooLarge.x g_TooLarge x_TooLarge.k (raises_own x_TooLarge.b x_TooLarge.t) (by exact rfl)))) pss_nil)
      (pss_one (ps_ret (pe_op op_add_str (pe_op op_add_str pe_str (pv 0)) (pv 1))))), ?_⟩
    refine ⟨_, rfl, _, rfl, (by omega), _, _, rfl, rfl, _, rfl, _, rfl, (by omega), _, _, rfl, rfl, _, _, rfl, rfl, _, rfl, ?_⟩
    refine ite2 (fun c => ?_) (fun c => ?_)
    · have := of_decide_eq_true c
      exact e (by omega)
    · have h2 : ¬ (200000 : Int) < 1 + (x.length : Int) + (y.length : Int) := fun z => c (decide_eq_true z)
      refine ⟨_, rfl, _, _, rfl, rfl, (by show 1 + x.length ≤ _; omega), _, rfl, _, _, rfl, rfl, (by rw [Str.length_append]; show 1 + x.length + y.length ≤ _; omega), ?_⟩
      have := q (by omega)
      rw [show Str.ofString "1" ++ x ++ y = stS (49 :: (x.cps.toList ++ y.cps.toList)) from ?_]
      · exact this
      · rw [s1]
        conv => lhs; rw [← stS_of x, ← stS_of y]
        rw [stS_app, stS_app]
        rfl
abbrev s_number : Stmt := topS 8
abbrev nm_number : List Str := ["value"]
theorem sc_number : FnScope nm_number ["value"] (defScope s_number) := ⟨rfl, rfl, rfl, by decide +kernel, rfl, by decide +kernel, by decide +kernel⟩
def sp_number (K : PySem.W.Frag) (cl : Cn → Addr) : Sp := fun vs H Q E => ∃ n : Nat, vs = [.int n] ∧ (2 * n + 1 ≤ 200000 → Q (.str (numT n).str) H) ∧ (200000 < 2 * n + 1 → E (.ref (cl .TooLarge)) none H)
theorem ok_number (T : Txt K mg cl w) {f : Addr} {fd : FuncData} (F : Fun K "number" "number" s_number f fd) : FnOk P w K mg base (L2.CX P w) 1 f fd ["value"] (sp_number K cl) := by
  obtain ⟨t_MOST_TREE, m_MOST_TREE⟩ := T.m_MOST_TREE
  obtain ⟨t_LEAF, m_LEAF⟩ := T.m_LEAF
  obtain ⟨g_TooLarge, x_TooLarge⟩ := T.e_TooLarge
  refine F.okX sc_number (fun vs H Q E h => ?_) (fun cdv A outer s H vs Q E hr h => ?_)
  · obtain ⟨n, rfl, _⟩ := h
    rfl
  · obtain ⟨n, rfl, q, e⟩ := h
    have hz : sizeLine = 16777216 := rfl
    refine ⟨_, (pss_cons (ps_if (pt_cmpR op_gt (pe_op op_add (pe_op op_mul pe_int (pv 0)) pe_int) (pe_glob (v := .int 200000) (by rfl) m_MOST_TREE ⟨_, rfl⟩) (nomark _)) (pss_one (ps_raise rfl (takes_of rfl rfl rfl rfl) (pmk_own PySem.F.excBase_ValueError x_TooLarge.x g_TooLarge x_TooLarge.k (raises_own x_TooLarge.b x_TooLarge.t) (by exact rfl)))) pss_nil)
      (pss_one (ps_ret (pe_op op_add_str (pe_op op_mulS pe_str (pv 0)) (pe_glob (v := .str "0") (by rfl) m_LEAF ⟨_, rfl⟩))))), ?_⟩
    refine ⟨_, rfl, _, _, rfl, rfl, .inl (by decide), _, _, rfl, rfl, _, _, rfl, rfl, _, rfl, ?_⟩
    refine ite2 (fun c => ?_) (fun c => ?_)
    · have := of_decide_eq_true c
      exact e (by omega)
    · have h2 : ¬ (200000 : Int) < 2 * (n : Int) + 1 := fun z => c (decide_eq_true z)
      have w1 : (Str.ofString "10").cps.toList.length = 2 := by decide +kernel
      refine ⟨_, rfl, _, _, rfl, rfl, (by omega), (by omega), (by show 2 * _ ≤ _; omega), _, _, rfl, rfl, (by rw [stS_len, repL_len, w1]; show _ + 1 ≤ _; omega), ?_⟩
      rw [show (n : Int).toNat = n by omega, num_str]
      exact q (by omega)
abbrev s_part_code : Stmt := topS 19
abbrev nm_part_code : List Str := ["kind", "part"]
theorem sc_part_code : FnScope nm_part_code ["kind", "part"] (defScope s_part_code) := ⟨rfl, rfl, rfl, by decide +kernel, rfl, by decide +kernel, by decide +kernel⟩
def sp_part_code (K : PySem.W.Frag) (cl : Cn → Addr) : Sp := fun vs H Q _ => ∃ (k : Nat) (v : V) (t : Tr), vs = [.str ⟨#[k]⟩, v] ∧ PartT k v t ∧ t.sg.length ≤ 200000 ∧ Q (.str t.str) H
theorem ok_part_code (T : Txt K mg cl w) (H_cons : Has P w K mg base (L2.CX P w) 1 "cons" ["first", "second"] (sp_cons K cl)) (H_number : Has P w K mg base (L2.CX P w) 1 "number" ["value"] (sp_number K cl)) {f : Addr} {fd : FuncData} (F : Fun K "_part_code" "_part_code" s_part_code f fd) : FnOk P w K mg base (L2.CX P w) 2 f fd ["kind", "part"] (sp_part_code K cl) := by
  obtain ⟨t_BACK, m_BACK⟩ := T.m_BACK
  obtain ⟨t_LEAF, m_LEAF⟩ := T.m_LEAF
  have m_abs := T.m_abs
  obtain ⟨f_cons, d_cons, G_cons, g_cons, k_cons, b_cons⟩ := H_cons.ex
  obtain ⟨f_number, d_number, G_number, g_number, k_number, b_number⟩ := H_number.ex
  refine F.okX sc_part_code (fun vs H Q E h => ?_) (fun cdv A outer s H vs Q E hr h => ?_)
  · obtain ⟨k, v, t, rfl, _⟩ := h
    rfl
  · obtain ⟨k, v, t, rfl, hp, hl, q⟩ := h
    refine ⟨_, (pss_cons (ps_if (pt_cmpR op_eq (pv 0) pe_str (nomark _)) (pss_one (ps_ret (pv 1))) pss_nil)
      (pss_cons (ps_if (pt_cmpR op_eq (pv 0) pe_str (nomark _)) (pss_one (ps_ret (pe_callS G_number (hr.mono (by decide)) (by rfl) g_number k_number b_number (fun σ => passAt (takes_of rfl rfl rfl rfl) σ) (pa_cons (pv 1) pa_nil)))) pss_nil)
      (pss_one (ps_ret (pe_callS G_cons (hr.mono (by decide)) (by rfl) g_cons k_cons b_cons (fun σ => passAt (takes_of rfl rfl rfl rfl) σ) (pa_cons (pe_ifExp (pt_cmpR op_lt (pv 1) pe_int (nomark _)) (pe_glob (v := .str "100") (by rfl) m_BACK ⟨_, rfl⟩) (pe_glob (v := .str "0") (by rfl) m_LEAF ⟨_, rfl⟩)) (pa_cons (pe_callS G_number (hr.mono (by decide)) (by rfl) g_number k_number b_number (fun σ => passAt (takes_of rfl rfl rfl rfl) σ) (pa_cons (pe_callB call_abs (by rfl) m_abs (by decide +kernel) (pa_cons (pv 1) pa_nil)) pa_nil)) pa_nil))))))), ?_⟩
    refine ⟨_, rfl, rfl, _, rfl, ?_⟩
    rw [one_is 116 is_t]
    cases hp with
    | tree t => exact iteT' rfl ⟨_, rfl, q⟩
    | reg a =>
      refine iteF' rfl ⟨_, rfl, rfl, _, rfl, ?_⟩
      rw [one_is 114 is_r]
      refine iteT' rfl ⟨_, rfl, a, rfl, fun _ => q, fun c => ?_⟩
      rw [numT_len] at hl
      omega
    | way n =>
      refine iteF' rfl ⟨_, rfl, rfl, _, rfl, ?_⟩
      rw [one_is 114 is_r]
      refine iteF' rfl ⟨_, rfl, _, _, rfl, rfl, _, rfl, ?_⟩
      have hw : (wayT n).sg.length = (if n < 0 then (Tr.node .leaf .leaf) else .leaf).sg.length + (numT n.natAbs).sg.length + 1 := by
        show (_ ++ _ : List Nat).length + 1 = _
        rw [List.length_append]
      rw [hw] at hl
      have h1 := numT_len n.natAbs
      have h2 := (numT n.natAbs).str_len
      refine ite2 (fun c => ?_) (fun c => ?_)
      · have c' : n < 0 := of_decide_eq_true c
        rw [if_pos c'] at hl
        have h3 : (Tr.node .leaf .leaf).sg.length = 3 := rfl
        refine ⟨_, rfl, _, rfl, n.natAbs, ?_, fun _ => ?_, fun c => by omega⟩
        · rw [abs_nat]
        rw [s100]
        have h4 := (Tr.node .leaf .leaf).str_len
        refine ⟨_, _, rfl, by omega, by omega, fun _ => ?_, fun c => by omega⟩
        rw [cons_str]
        have e : wayT n = .node (.node .leaf .leaf) (numT n.natAbs) := by
          unfold wayT
          rw [if_pos c']
        rw [e] at q
        exact q
      · have c' : ¬ n < 0 := fun z => c (decide_eq_true z)
        rw [if_neg c'] at hl
        have h3 : Tr.leaf.sg.length = 1 := rfl
        refine ⟨_, rfl, _, rfl, n.natAbs, ?_, fun _ => ?_, fun c => by omega⟩
        · rw [abs_nat]
        rw [sleaf]
        have h4 := Tr.leaf.str_len
        refine ⟨_, _, rfl, by omega, by omega, fun _ => ?_, fun c => by omega⟩
        rw [cons_str]
        have e : wayT n = .node .leaf (numT n.natAbs) := by
          unfold wayT
          rw [if_neg c']
        rw [e] at q
        exact q
abbrev s_instruction_code : Stmt := topS 18
abbrev nm_instruction_code : List Str := ["instruction", "word", "parts", "kind", "part", "rest"]
theorem sc_instruction_code : FnScope nm_instruction_code ["instruction"] (defScope s_instruction_code) := ⟨rfl, rfl, rfl, by decide +kernel, rfl, by decide +kernel, by decide +kernel⟩
def sp_instruction_code (K : PySem.W.Frag) (cl : Cn → Addr) : Sp := fun vs H Q E => ∃ (a : Addr) (i : Ins), vs = [.ref a] ∧ SqT K H a i.vs ∧ i.small ∧
  (i.codeT.sg.length ≤ 200000 → ∀ H', Same H H' → Q (.str i.codeT.str) H') ∧ (200000 < i.codeT.sg.length → ∀ H', Same H H' → E (.ref (cl .TooLarge)) none H')
theorem ok_instruction_code (T : Txt K mg cl w) (H_cons : Has P w K mg base (L2.CX P w) 1 "cons" ["first", "second"] (sp_cons K cl)) (H_part_code : Has P w K mg base (L2.CX P w) 2 "_part_code" ["kind", "part"] (sp_part_code K cl)) (H_number : Has P w K mg base (L2.CX P w) 1 "number" ["value"] (sp_number K cl)) {f : Addr} {fd : FuncData} (F : Fun K "_instruction_code" "_instruction_code" s_instruction_code f fd) : FnOk P w K mg base (L2.CX P w) 3 f fd ["instruction"] (sp_instruction_code K cl) := by
  have m_reversed := T.m_reversed
  have m_zip := T.m_zip
  obtain ⟨m_SHAPES, L_SHAPES⟩ := T.m_SHAPES
  obtain ⟨es_SHAPES, n_SHAPES, D_SHAPES⟩ := L_SHAPES.kd
  obtain ⟨m_WORDS, L_WORDS⟩ := T.m_WORDS
  obtain ⟨f_cons, d_cons, G_cons, g_cons, k_cons, b_cons⟩ := H_cons.ex
  obtain ⟨f_part_code, d_part_code, G_part_code, g_part_code, k_part_code, b_part_code⟩ := H_part_code.ex
  obtain ⟨f_number, d_number, G_number, g_number, k_number, b_number⟩ := H_number.ex
  refine F.okX sc_instruction_code (fun vs H Q E h => ?_) (fun cdv A outer s H vs Q E hr h => ?_)
  · obtain ⟨a, i, rfl, _⟩ := h
    rfl
  · obtain ⟨a, i, rfl, ha, hs, q, e⟩ := h
    have hz : sizeLine = 16777216 := rfl
    have hvl := i.vs_len
    have hps := Ins.parts_small hs
    refine ⟨_, (pss_cons (ps_set (i := 1) sc_instruction_code.nd rfl (Or.inl rfl) (pe_ix (ix_tup : IxR _ (rIxT K)) (pv 0) pe_int (fun _ _ => rfl)))
      (pss_cons (ps_setLcE (i := 2) (own := [("kind", 3), ("part", 4)]) (g := gTup K 2 (gCons (gName 3) (gCons (gName 4) gNil))) (tt := tYes)  rfl rfl (takes_of rfl rfl rfl rfl) rfl sc_instruction_code.nd rfl rfl (sw_true rfl rfl rfl (by decide +kernel)) (pi_zipS (by rfl) m_zip (pa_cons (pe_ix ix_kdict (pe_glob (v := .ref (cl .SHAPES)) (by rfl) m_SHAPES rfl) (pv 1) (fun _ _ => rfl)) (pa_cons (pe_slice (sl_tupA : SlR _ (rSlA K)) (pv 0) (po_some pe_int) po_none) pa_nil))) (blkOk_by (N := nm_instruction_code) (sc := defScope s_instruction_code) (by decide +kernel)) (fun _ _ _ _ _ => (pg_tup rfl (pgs_cons (pg_name (i := 3) sc_instruction_code.nd rfl (Or.inl rfl)) (pgs_cons (pg_name (i := 4) sc_instruction_code.nd rfl (Or.inl rfl)) pgs_nil)))) (fun _ _ _ _ _ => pts_nil) (fun _ _ _ _ _ xe pa => (pe_callS (E := fun _ => E) G_part_code (hr.mono (by decide)) (by rfl) g_part_code k_part_code b_part_code pa (pa_cons (pv 3) (pa_cons (pv 4) pa_nil)))))
      (pss_cons (ps_set (i := 5) sc_instruction_code.nd rfl (Or.inl rfl) (pe_ix (ix_list : IxR _ (rIxL K)) (pv 2) (pe_un un_neg pe_int) (fun _ _ => rfl)))
      (pss_cons (ps_for (passes_of rfl) rfl (pi_reversed (by rfl) m_reversed (pa_cons (pe_slice (sl_list : SlR _ (rSlL K)) (pv 2) po_none (po_some (pe_un un_neg pe_int))) pa_nil)) (pg_name (i := 4) sc_instruction_code.nd rfl (Or.inl rfl)) (pss_one (ps_set (i := 5) sc_instruction_code.nd rfl (Or.inl rfl) (pe_callS G_cons (hr.mono (by decide)) (by rfl) g_cons k_cons b_cons (fun σ => passAt (takes_of rfl rfl rfl rfl) σ) (pa_cons (pv 4) (pa_cons (pv 5) pa_nil))))))
      (pss_one (ps_ret (pe_callS G_cons (hr.mono (by decide)) (by rfl) g_cons k_cons b_cons (fun σ => passAt (takes_of rfl rfl rfl rfl) σ) (pa_cons (pe_callS G_number (hr.mono (by decide)) (by rfl) g_number k_number b_number (fun σ => passAt (takes_of rfl rfl rfl rfl) σ) (pa_cons (pe_bm PySem.F.plainAttrs_tuple PySem.F.slot_tuple_index PySem.F.type_tuple_index (mt_tindex : MtR _ _ (rTIdx K)) (pe_glob (v := .ref (cl .WORDS)) (by rfl) m_WORDS rfl) (pa_cons (pv 1) pa_nil)) pa_nil)) (pa_cons (pv 5) pa_nil))))))))), ?_⟩
    refine ⟨_, rfl, _, _, _, _, rfl, rfl, ha, atI_nat (j := 0) rfl, ?_⟩
    refine ⟨_, rfl, _, _, _, rfl, rfl, L_SHAPES.dct (shapes_at i), _, rfl, _, rfl, ?_⟩
    delta tNoPart
    refine sl_anyK (K := K) (lo := some 1) (hi := none) ha fun b H1 sm1 hb => ?_
    rw [show cutV i.vs (some 1) none = i.parts from cutV_1 _ _] at hb
    have hpl : i.parts.length + 1 = i.vs.length := rfl
    refine ⟨i.shape, b, i.parts, rfl, hb, fun D nD => lc_zipS (by rw [i.shape_kinds, i.kinds_len]) (fun j H' => Same H1 H' ∧ H' D = some (.lst (trV (i.partsT.take j)))) ⟨Same.upd nD, upd_same⟩ (fun j H' s => Same.seqT s.1 hb) ?_ ?_⟩
    · rintro j c y T2 H2 hc hy ⟨s2, hD⟩ nT2
      rw [i.shape_kinds] at hc
      obtain ⟨t, ht, hpt⟩ := i.part_tree hc hy
      refine ⟨T2, [.str ⟨#[c]⟩, y], rfl, SqT.of upd_same, rfl, _, _, rfl, _, _, rfl, rfl, ?_⟩
      refine ⟨rfl, ?_⟩
      simp only [tYes, ↓reduceIte]
      refine ⟨_, rfl, _, rfl, c, y, t, rfl, hpt, hps t (List.mem_of_getElem? ht), ?_⟩
      refine ⟨_, Same.upd nT2 _ _ hD, ?_, ?_⟩
      · rw [trV_len, List.length_take]
        have := (List.getElem?_eq_some_iff.mp hy).1
        omega
      · refine ⟨fun b x z => ?_, ?_⟩
        · rw [upd_ne (ne_of_none z nD)]
          exact (s2.trans (Same.upd nT2)) b x z
        · rw [upd_same, List.take_add_one, ht]
          unfold trV
          rw [List.map_append]
          rfl
    rintro H2 ⟨s2, hD⟩
    obtain ⟨init, last, e1, e2, e3⟩ := i.parts_split
    have hil : (init ++ [last]).length = init.length + 1 := by rw [List.length_append, List.length_singleton]
    rw [e1, List.take_of_length_le (by rw [hil, e3]; exact Nat.le_refl _), trV_append] at hD
    rw [e1] at hps
    have cl0 := code_len i
    have no5 := no_le i
    have hpi : ∀ t ∈ init, t.sg.length ≤ 200000 := fun t ht => hps t (List.mem_append_left _ ht)
    have hpl2 : last.sg.length ≤ 200000 := hps last (List.mem_append_right _ (List.mem_singleton.mpr rfl))
    refine ⟨_, rfl, _, rfl, _, _, _, _, rfl, rfl, SqL.of hD, atI_last _ _, ?_⟩
    refine ⟨_, rfl, _, rfl, _, rfl, _, _, rfl, SqL.of hD, fun R nR => ?_⟩
    rw [show cutV (trV init ++ trV [last]) none (some (-1)) = trV init from cutV_last _ _]
    have sR := Same.upd (o := .lst (trV init)) nR
    have hR : upd H2 R (.lst (trV init)) R = some (.lst (trV init)) := upd_same
    generalize upd H2 R (.lst (trV init)) = H3 at sR hR ⊢
    have s3 := (sm1.trans s2).trans sR
    have hln := trV_len init
    refine ⟨R, trV init, rfl, SqL.of hR, for_it walk_rev (fun j σ H' => ∃ v, σ = [some (.ref a), some (.str i.word), some (.ref D), none, v, some (.str ((init.drop (init.length - j)).foldr Tr.node last).str)] ∧ Same H3 H' ∧ ((init.drop (init.length - j)).foldr Tr.node last).sg.length ≤ 200000) ⟨none, ?_, .refl _, ?_⟩ (fun j σ H' _ ⟨_, _, s, _⟩ => SqL.of (s _ _ hR)) ?_ ?_⟩
    · rw [Nat.sub_zero, List.drop_length]
      rfl
    · rw [Nat.sub_zero, List.drop_length]
      exact hpl2
    · rintro j y σ H4 H5 hj ⟨v, rfl, s4, hle⟩ ⟨rfl, hy⟩
      rw [hln] at hj hy
      have hk : init.length - 1 - j < init.length := by omega
      have hy2 : y = .str (init[init.length - 1 - j]).str := by
        unfold trV at hy
        rw [List.getElem?_map, List.getElem?_eq_getElem hk] at hy
        exact (Option.some.inj hy).symm
      have hd : init.drop (init.length - (j + 1)) = init[init.length - 1 - j] :: init.drop (init.length - j) := by
        rw [show init.length - (j + 1) = init.length - 1 - j by omega, List.drop_eq_getElem_cons hk, show init.length - 1 - j + 1 = init.length - j by omega]
      have hx := hpi _ (List.getElem_mem hk)
      rw [hd, List.foldr_cons]
      have hall := foldr_drop_le last init (init.length - (j + 1))
      rw [hd, List.foldr_cons, e2] at hall
      generalize init[init.length - 1 - j] = x at hy2 hx hall ⊢
      generalize (init.drop (init.length - j)).foldr Tr.node last = r at hle hall ⊢
      subst hy2
      have hnl := node_len x r
      have x1 := x.str_len
      have r1 := r.str_len
      refine ⟨_, rfl, _, rfl, x.str, r.str, rfl, by omega, by omega, fun c => ?_, fun c => ?_⟩
      · rw [cons_str]
        exact ⟨_, rfl, s4, by omega⟩
      · exact e (by omega) _ (s3.trans s4)
    · rintro σ H4 ⟨v, rfl, s4, hle⟩
      rw [hln, Nat.sub_self, List.drop_zero, e2] at hle
      rw [hln, Nat.sub_self, List.drop_zero, e2]
      have w := word_at i
      have r1 := i.restT.str_len
      have n1 := numT_len i.no
      have n2 := (numT i.no).str_len
      refine ⟨.inr (.inl ⟨rfl, L_WORDS.2⟩), _, rfl, _, _, _, rfl, rfl, L_WORDS.1 _, w.1, ?_⟩
      rw [w.2]
      refine ⟨i.no, rfl, fun c => ?_, fun c => by omega⟩
      refine ⟨_, rfl, (numT i.no).str, i.restT.str, rfl, by omega, by omega, fun c2 => ?_, fun c2 => ?_⟩
      · exact q (by omega) _ (s3.trans s4)
      · exact e (by omega) _ (s3.trans s4)
abbrev s_code : Stmt := topS 17
abbrev nm_code : List Str := ["program", "instruction"]
theorem sc_code : FnScope nm_code ["program"] (defScope s_code) := ⟨rfl, rfl, rfl, by decide +kernel, rfl, by decide +kernel, by decide +kernel⟩
def sp_code (K : PySem.W.Frag) (cl : Cn → Addr) : Sp := fun vs H Q E => ∃ (p : Addr) (is : List Ins), vs = [.ref p] ∧ PgK K H p is ∧ is.length ≤ 1000 ∧ (∀ i ∈ is, i.small) ∧
  ((codeT is).sg.length ≤ 200000 → ∀ H', Same H H' → Q (.str (codeT is).str) H') ∧ (200000 < (codeT is).sg.length → ∀ H', Same H H' → E (.ref (cl .TooLarge)) none H')
theorem ok_code (T : Txt K mg cl w) (H_list_of : Has P w K mg base (L2.CX P w) 1 "list_of" ["trees"] (sp_list_of K cl)) (H_instruction_code : Has P w K mg base (L2.CX P w) 3 "_instruction_code" ["instruction"] (sp_instruction_code K cl)) {f : Addr} {fd : FuncData} (F : Fun K "code" "code" s_code f fd) : FnOk P w K mg base (L2.CX P w) 4 f fd ["program"] (sp_code K cl) := by
  obtain ⟨f_list_of, d_list_of, G_list_of, g_list_of, k_list_of, b_list_of⟩ := H_list_of.ex
  obtain ⟨f_instruction_code, d_instruction_code, G_instruction_code, g_instruction_code, k_instruction_code, b_instruction_code⟩ := H_instruction_code.ex
  refine F.okX sc_code (fun vs H Q E h => ?_) (fun cdv A outer s H vs Q E hr h => ?_)
  · obtain ⟨p, is, rfl, _⟩ := h
    rfl
  · obtain ⟨p, is, rfl, hp, hl, hs, q, e⟩ := h
    refine ⟨_, (pss_one (ps_ret (pe_callS G_list_of (hr.mono (by decide)) (by rfl) g_list_of k_list_of b_list_of (fun σ => passAt (takes_of rfl rfl rfl rfl) σ) (pa_cons (pe_lcE (own := [("instruction", 1)]) (g := gName 1) (tt := tYes)  rfl rfl (takes_of rfl rfl rfl rfl) rfl sc_code.nd (pi_list (pv 0)) (blkOk_by (N := nm_code) (sc := defScope s_code) (by decide +kernel)) (fun _ _ _ _ _ => (pg_name (i := 1) sc_code.nd rfl (Or.inl rfl))) (fun _ _ _ _ _ => pts_nil) (fun _ _ _ _ _ xe pa => (pe_callS (E := fun _ => E) G_instruction_code (hr.mono (by decide)) (by rfl) g_instruction_code k_instruction_code b_instruction_code pa (pa_cons (pv 1) pa_nil)))) pa_nil)))), ?_⟩
    obtain ⟨xs, hx, hlen, hget⟩ := hp.get
    have hz : sizeLine = 16777216 := rfl
    have part : ∀ i ∈ is, 200000 < i.codeT.sg.length → 200000 < (codeT is).sg.length := fun i hi h => by
      unfold codeT
      rw [lstT_len]
      have : i.codeT.sg.length ≤ ((is.map Ins.codeT).map fun t => t.sg.length).sum := le_sum _ (List.mem_map.mpr ⟨_, List.mem_map.mpr ⟨i, hi, rfl⟩, rfl⟩)
      omega
    refine ⟨_, rfl, p, rfl, ⟨_, SqL.of hx⟩, fun D nD => lc_it walk_list (fun j H' => Same H H' ∧ H' D = some (.lst (trV ((is.take j).map Ins.codeT))) ∧ ∀ i ∈ is.take j, i.codeT.sg.length ≤ 200000) ⟨Same.upd nD, upd_same, fun _ h => by cases h⟩ (fun j H' _ s => SqL.of (s.1 _ _ hx)) ?_ ?_⟩
    · rintro j y H2 H3 hj ⟨s2, hD, hall⟩ ⟨rfl, hy⟩
      have hjl : j < is.length := by omega
      have hix := List.getElem?_eq_getElem hjl
      obtain ⟨b, hb, hrow⟩ := hget j _ hix
      rw [hb] at hy
      cases hy
      have hmem := List.getElem_mem hjl
      generalize is[j] = x at hix hrow hmem
      refine ⟨rfl, ?_⟩
      simp only [tYes, ↓reduceIte]
      refine ⟨_, rfl, b, x, rfl, Same.seqT s2 hrow, hs x hmem, fun c H4 s4 => ?_, fun c H4 s4 => e (part x hmem c) _ (s2.trans s4)⟩
      refine ⟨_, s4 _ _ hD, ?_, fun b x z => ?_, ?_, fun i hi => ?_⟩
      · rw [trV_len, List.length_map, List.length_take]
        omega
      · rw [upd_ne (ne_of_none z nD)]
        exact (s2.trans s4) b x z
      · rw [upd_same, List.take_add_one, hix]
        unfold trV
        rw [List.map_append, List.map_append]
        rfl
      · rw [List.take_add_one, hix] at hi
        rcases List.mem_append.mp hi with h | h
        · exact hall i h
        · rw [List.mem_singleton.mp h]
          exact c
    · rintro H2 ⟨s2, hD, hall⟩
      rw [hlen, List.take_length] at hD hall
      refine ⟨D, is.map Ins.codeT, rfl, SqL.of hD, by rw [List.length_map]; omega, fun t ht => ?_, fun c H3 s3 => q c _ (s2.trans s3), fun c H3 s3 => e c _ (s2.trans s3)⟩
      obtain ⟨i, hi, rfl⟩ := List.mem_map.mp ht
      have := hall i hi
      omega
abbrev s_with_own_code : Stmt := topS 51
abbrev nm_with_own_code : List Str := ["program", "others", "whole"]
theorem sc_with_own_code : FnScope nm_with_own_code ["program"] (defScope s_with_own_code) := ⟨rfl, rfl, rfl, by decide +kernel, rfl, by decide +kernel, by decide +kernel⟩
def sp_with_own_code (K : PySem.W.Frag) (cl : Cn → Addr) : Sp := fun vs H Q E => ∃ (p : Addr) (is : List Ins), vs = [.ref p] ∧ PgK K H p is ∧ is.length ≤ 990 ∧ (∀ i ∈ is, i.small) ∧
  (GoodW is → ∀ r H', Same H H' → H r = none → PgK K H' r (wocP is) → Q (.ref r) H') ∧ (¬ GoodW is → ∀ H', Same H H' → E (.ref (cl .TooLarge)) none H')
theorem ok_with_own_code (T : Txt K mg cl w) (H_within_limits : Has P w K mg base (L2.CX P w) 2 "within_limits" ["program"] (sp_within_limits K cl)) (H_code : Has P w K mg base (L2.CX P w) 4 "code" ["program"] (sp_code K cl)) {f : Addr} {fd : FuncData} (F : Fun K "with_own_code" "with_own_code" s_with_own_code f fd) : FnOk P w K mg base (L2.CX P w) 5 f fd ["program"] (sp_with_own_code K cl) := by
  obtain ⟨m_CODE_OF_FIRST, L_CODE_OF_FIRST⟩ := T.m_CODE_OF_FIRST
  obtain ⟨t_LEAF, m_LEAF⟩ := T.m_LEAF
  obtain ⟨f_within_limits, d_within_limits, G_within_limits, g_within_limits, k_within_limits, b_within_limits⟩ := H_within_limits.ex
  obtain ⟨f_code, d_code, G_code, g_code, k_code, b_code⟩ := H_code.ex
  refine F.okX sc_with_own_code (fun vs H Q E h => ?_) (fun cdv A outer s H vs Q E hr h => ?_)
  · obtain ⟨p, is, rfl, _⟩ := h
    rfl
  · obtain ⟨p, is, rfl, hp, hl, hs, q, e⟩ := h
    have hz : sizeLine = 16777216 := rfl
    obtain ⟨b0, b1, b2, hC⟩ := L_CODE_OF_FIRST
    refine ⟨_, (pss_cons (ps_set (i := 1) sc_with_own_code.nd rfl (Or.inl rfl) (pe_lst (StX.pa_star (pe_glob (v := .ref (cl .CODE_OF_FIRST)) (by rfl) m_CODE_OF_FIRST rfl) (pa_cons (pe_tup (pa_cons pe_str (pa_cons pe_int (pa_cons pe_int (pa_cons pe_int pa_nil))))) (pa_cons (pe_tup (pa_cons pe_str (pa_cons pe_int (pa_cons (pe_glob (v := .str "0") (by rfl) m_LEAF ⟨_, rfl⟩) pa_nil)))) (StX.pa_star (pv 0) pa_nil))))))
      (pss_cons (ps_set (i := 2) sc_with_own_code.nd rfl (Or.inl rfl) (pe_callS G_within_limits (hr.mono (by decide)) (by rfl) g_within_limits k_within_limits b_within_limits (fun σ => passAt (takes_of rfl rfl rfl rfl) σ) (pa_cons (pe_lst (pa_cons (pe_tup (pa_cons pe_str (pa_cons pe_int (pa_cons (pe_callS G_code (hr.mono (by decide)) (by rfl) g_code k_code b_code (fun σ => passAt (takes_of rfl rfl rfl rfl) σ) (pa_cons (pv 1) pa_nil)) pa_nil)))) (StX.pa_star (pv 1) pa_nil))) pa_nil)))
      (pss_cons (ps_expr (pe_callS G_code (hr.mono (by decide)) (by rfl) g_code k_code b_code (fun σ => passAt (takes_of rfl rfl rfl rfl) σ) (pa_cons (pv 2) pa_nil)))
      (pss_one (ps_ret (pv 2)))))), ?_⟩
    refine ⟨_, _, rfl, .inl (hC H).1, (by show 4 ≤ sizeLine; omega), fun T1 n1 => ?_⟩
    have s1 := Same.upd (o := .tup [.str "cons", .int 1, .int 2, .int 1]) n1
    have r1 : upd H T1 (.tup [.str "cons", .int 1, .int 2, .int 1]) T1 = some (.tup (Ins.cons 1 2 1).vs) := upd_same
    generalize upd H T1 (.tup [V.str "cons", V.int 1, V.int 2, V.int 1]) = H1 at s1 r1 ⊢
    refine ⟨(by show 3 ≤ sizeLine; omega), fun T2 n2 => ?_⟩
    have s2 := Same.upd (o := .tup [.str "set", .int 2, .str "0"]) n2
    have r2 : upd H1 T2 (.tup [.str "set", .int 2, .str "0"]) T2 = some (.tup (Ins.set 2 .leaf).vs) := by rw [← v_leaf]; exact upd_same
    generalize upd H1 T2 (.tup [V.str "set", V.int 2, V.str "0"]) = H2 at s2 r2 ⊢
    obtain ⟨as, a1, a2⟩ := (hp.same s1).same s2
    have al := Paired.len a2
    refine ⟨_, rfl, _, _, rfl, .inr (SqL.of a1), (by simp only [List.length_append, List.length_cons, List.length_nil, List.length_map]; omega), fun D nD => ?_⟩
    have eL : [V.ref b0, .ref b1, .ref b2] ++ V.ref T1 :: V.ref T2 :: (as.map V.ref ++ []) = (b0 :: b1 :: b2 :: T1 :: T2 :: as).map V.ref := by simp
    rw [eL]
    have sD := Same.upd (o := .lst ((b0 :: b1 :: b2 :: T1 :: T2 :: as).map V.ref)) nD
    have hD : upd H2 D (.lst ((b0 :: b1 :: b2 :: T1 :: T2 :: as).map V.ref)) D = some (.lst ((b0 :: b1 :: b2 :: T1 :: T2 :: as).map V.ref)) := upd_same
    have s3 := (s1.trans s2).trans sD
    have hO : PgK K (upd H2 D (.lst ((b0 :: b1 :: b2 :: T1 :: T2 :: as).map V.ref))) D (othP is) :=
      ⟨_, hD, .cons (by rw [← v_set2]; exact (hC _).2.1) (.cons (hC _).2.2.1 (.cons (hC _).2.2.2 (.cons (SqT.of (sD _ _ (s2 _ _ r1))) (.cons (SqT.of (sD _ _ r2)) (Paired.imp (fun _ _ z => Same.seqT sD z) a2)))))⟩
    generalize upd H2 D (.lst ((b0 :: b1 :: b2 :: T1 :: T2 :: as).map V.ref)) = H3 at s3 hO ⊢
    have lO : (othP is).length = is.length + 5 := rfl
    have sO : ∀ i ∈ othP is, i.small := fun i hi => by
      rcases List.mem_append.mp hi with hi | hi
      · simp only [cofP, List.mem_cons, List.not_mem_nil, or_false] at hi
        rcases hi with rfl | rfl | rfl
        · exact ⟨by decide, by decide⟩
        · exact ⟨by decide, by decide, by decide⟩
        · exact ⟨by decide, by decide, by decide⟩
      · rcases List.mem_cons.mp hi with rfl | hi
        · exact ⟨by decide, by decide, by decide⟩
        · rcases List.mem_cons.mp hi with rfl | hi
          · exact ⟨by decide, by decide⟩
          · exact hs i hi
    -- the code of the others
    refine ⟨_, rfl, D, _, rfl, hO, by omega, sO, fun c H4 s34 => ?_, fun c H4 s4 => e (fun g => absurd g.oth (by omega)) H4 (s3.trans s4)⟩
    have s4 := s3.trans s34
    have hO4 := hO.same s34
    have cl0 := (codeT (othP is)).str_len
    refine ⟨(by show 3 ≤ sizeLine; omega), fun T0 n0 => ?_⟩
    have s5 := Same.upd (o := .tup [.str "set", .int 1, .str (codeT (othP is)).str]) n0
    have r0 : upd H4 T0 (.tup [.str "set", .int 1, .str (codeT (othP is)).str]) T0 = some (.tup (Ins.set 1 (codeT (othP is))).vs) := upd_same
    generalize upd H4 T0 (.tup [V.str "set", V.int 1, V.str (codeT (othP is)).str]) = H5 at s5 r0 ⊢
    have hO5 := hO4.same s5
    obtain ⟨os, o1, o2⟩ := hO5
    have ol := Paired.len o2
    refine ⟨_, rfl, _, _, rfl, .inr (SqL.of o1), (by simp only [List.length_append, List.length_cons, List.length_nil, List.length_map]; omega), fun R nR => ?_⟩
    have eR : V.ref T0 :: (os.map V.ref ++ []) = (T0 :: os).map V.ref := by simp
    try dsimp only
    rw [eR]
    have sR := Same.upd (o := .lst ((T0 :: os).map V.ref)) nR
    have hW : PgK K (upd H5 R (.lst ((T0 :: os).map V.ref))) R (wocP is) := ⟨_, upd_same, .cons (SqT.of (sR _ _ r0)) (Paired.imp (fun _ _ z => Same.seqT sR z) o2)⟩
    have s6 := (s4.trans s5).trans sR
    have nR0 : H R = none := same_new (s4.trans s5) nR
    generalize upd H5 R (.lst ((T0 :: os).map V.ref)) = H6 at hW s6 ⊢
    have lW : (wocP is).length = is.length + 6 := rfl
    have sW : ∀ i ∈ wocP is, i.small := fun i hi => by
      rcases List.mem_cons.mp hi with rfl | hi
      · exact ⟨by decide, c⟩
      · exact sO i hi
    have bW : ∀ i ∈ wocP is, i.big ≤ 1000000 := fun i hi => by
      have := sW i hi
      cases i with
      | set a t =>
        have h2 : t.sg.length ≤ 200000 := this.2
        show t.sg.length ≤ 1000000
        omega
      | _ => exact Nat.zero_le _
    refine ⟨R, _, rfl, hW, bW, by omega, fun c2 H7 s7 => ?_, fun c2 H7 s7 => e (fun g => c2 g.1) H7 (s6.trans s7)⟩
    have hW7 := hW.same s7
    refine ⟨_, rfl, R, _, rfl, hW7, by omega, sW, fun c3 H8 s8 => ?_, fun c3 H8 s8 => e (fun g => absurd g.2 (by omega)) H8 ((s6.trans s7).trans s8)⟩
    exact ⟨_, rfl, q ⟨c2, c3⟩ R H8 ((s6.trans s7).trans s8) nR0 (hW7.same s8)⟩
abbrev s_width : Stmt := topS 16
abbrev nm_width : List Str := ["program", "greatest", "instruction", "kind", "part"]
theorem sc_width : FnScope nm_width ["program"] (defScope s_width) := ⟨rfl, rfl, rfl, by decide +kernel, rfl, by decide +kernel, by decide +kernel⟩
def sp_width (K : PySem.W.Frag) (cl : Cn → Addr) : Sp := fun vs H Q _ => ∃ (p : Addr) (is : List Ins), vs = [.ref p] ∧ PgAt H p is ∧ ∀ H', Same H H' → Q (.int (wid is)) H'
theorem ok_width (T : Txt K mg cl w) {f : Addr} {fd : FuncData} (F : Fun K "width" "width" s_width f fd) : FnOk P w K mg base CX0 1 f fd ["program"] (sp_width K cl) := by
  have m_zip := T.m_zip
  obtain ⟨m_SHAPES, L_SHAPES⟩ := T.m_SHAPES
  obtain ⟨es_SHAPES, n_SHAPES, D_SHAPES⟩ := L_SHAPES.kd
  have m_max := T.m_max
  refine F.ok sc_width (fun vs H Q E h => ?_) (fun cdv A outer s H vs Q E hr h => ?_)
  · obtain ⟨x, _, rfl, _⟩ := h
    rfl
  · obtain ⟨p, is, rfl, hp, q⟩ := h
    obtain ⟨xs, hx, hlen, hget⟩ := hp.get
    refine ⟨_, (pss_cons (ps_set (i := 1) sc_width.nd rfl (Or.inl rfl) pe_int)
      (pss_cons (ps_for PassesOwn.never rfl (pi_list (pv 0)) (pg_name (i := 2) sc_width.nd rfl (Or.inl rfl)) (pss_one (ps_for PassesOwn.never rfl (pi_zipS (by rfl) m_zip (pa_cons (pe_ix ix_kdict (pe_glob (v := .ref (cl .SHAPES)) (by rfl) m_SHAPES rfl) (pe_ix (ix_tup : IxR _ (rIxT K)) (pv 2) pe_int (fun _ _ => rfl)) (fun _ _ => rfl)) (pa_cons (pe_slice (sl_tupA : SlR _ (rSlA K)) (pv 2) (po_some pe_int) po_none) pa_nil))) (pg_tup rfl (pgs_cons (pg_name (i := 3) sc_width.nd rfl (Or.inl rfl)) (pgs_cons (pg_name (i := 4) sc_width.nd rfl (Or.inl rfl)) pgs_nil))) (pss_one (ps_if (pt_cmpR op_eq (pv 3) pe_str (nomark _)) (pss_one (ps_set (i := 1) sc_width.nd rfl (Or.inl rfl) (pe_callB (call_max2 rfl) (by rfl) m_max (by decide +kernel) (pa_cons (pv 1) (pa_cons (pv 4) pa_nil))))) pss_nil)))))
      (pss_one (ps_ret (pe_op op_add (pv 1) pe_int))))), ?_⟩
    refine ⟨_, rfl, p, rfl, ⟨_, SqL.of hx⟩, for_list (K := K) (a := p) (xs := xs) (fun i σ H' => ∃ v2 v3 v4, σ = [some (.ref p), some (.int (gst 0 (is.take i))), v2, v3, v4] ∧ Same H H') ⟨none, none, none, rfl, .refl _⟩ (fun i σ H' _ ⟨_, _, _, _, sm⟩ => sm.seq (SqL.of hx)) ?_ ?_⟩
    · rintro i y σ H1 hi ⟨v2, v3, v4, rfl, sm⟩
      have hil : i < is.length := by
        have := (List.getElem?_eq_some_iff.mp hi).1
        omega
      obtain ⟨x, hix⟩ : ∃ x, is[i]? = some x := ⟨is[i], List.getElem?_eq_getElem hil⟩
      obtain ⟨a, ha, hrow⟩ := hget i x hix
      rw [ha] at hi
      have hy := Option.some.inj hi
      subst hy
      have hrow1 := sm _ _ hrow
      rw [gst_take 0 hix]
      generalize gst 0 (is.take i) = g
      -- the parts
      refine ⟨_, rfl, _, _, _, _, rfl, rfl, SqT.of hrow1, atI_nat (j := 0) rfl, _, _, _, rfl, rfl, L_SHAPES.dct (shapes_at x), _, rfl, 1, rfl, a, _, rfl, SqT.of hrow1, fun hw => ?_, fun hw T nT => ?_⟩
      · exfalso
        have h1 := hw.1
        rw [show HT.sIx x.vs.length 0 (some (1 : Int)) = min 1 x.vs.length from HT.sIx_nat _ _ 1] at h1
        have h2 : x.vs.length = x.parts.length + 1 := rfl
        omega
      · have hcut : cutV x.vs (some 1) none = x.parts := by
          show (x.vs.drop (HT.sIx x.vs.length 0 (some (1 : Int)))).take (x.vs.length - HT.sIx x.vs.length 0 (some (1 : Int))) = _
          rw [show HT.sIx x.vs.length 0 (some (1 : Int)) = min 1 x.vs.length from HT.sIx_nat _ _ 1]
          have h2 : x.vs.length = x.parts.length + 1 := rfl
          rw [show min 1 x.vs.length = 1 by omega, h2]
          exact List.take_of_length_le (Nat.le_refl _)
        rw [hcut]
        have smT := Same.upd (o := .tup x.parts) nT
        refine ⟨x.shape, T, x.parts, rfl, SqT.of upd_same, for_zipS (K := K) (x := x.shape) (b := T) (ys := x.parts) (by rw [x.shape_kinds, x.kinds_len])
          (fun j σ H' => ∃ v3 v4, σ = [some (.ref p), some (.int ((x.regs.take j).foldl max g : Nat)), some (.ref a), v3, v4] ∧ Same (upd H1 T (.tup x.parts)) H') ⟨v3, v4, rfl, .refl _⟩ (fun j σ H' ⟨_, _, _, s⟩ => SqT.of (s _ _ upd_same)) ?_ ?_⟩
        · rintro j c y T2 σ H2 hc hy ⟨w3, w4, rfl, s2⟩ nT2
          rw [x.shape_kinds] at hc
          refine ⟨T2, [.str ⟨#[c]⟩, y], rfl, SqT.of upd_same, rfl, _, _, rfl, _, _, rfl, rfl, ?_⟩
          have s3 := s2.trans (Same.upd (o := .tup [.str ⟨#[c]⟩, y]) nT2)
          have er : (Str.ofString "r") = stS [114] := by decide +kernel
          rcases x.part_is hc hy with ⟨r, hr, rfl, rfl⟩ | ⟨hr, hc2⟩
          · refine ⟨_, rfl, rfl, _, rfl, iteS (by rw [er]; rfl) ?_⟩
            refine ⟨_, rfl, _, rfl, _, _, rfl, ?_⟩
            refine ⟨some (.str ⟨#[114]⟩), some (.int r), ?_, s3⟩
            · rw [List.take_add_one, hr, List.foldl_append]
              show [some (V.ref p), some (V.int (if (r : Int) > (((x.regs.take j).foldl max g : Nat) : Int) then (r : Int) else (((x.regs.take j).foldl max g : Nat) : Int))), some (V.ref a), some (V.str ⟨#[114]⟩), some (V.int r)] = [some (V.ref p), some (V.int ((max ((x.regs.take j).foldl max g) r : Nat) : Int)), some (V.ref a), some (V.str ⟨#[114]⟩), some (V.int r)]
              rw [show (if (r : Int) > (((x.regs.take j).foldl max g : Nat) : Int) then (r : Int) else (((x.regs.take j).foldl max g : Nat) : Int)) = ((max ((x.regs.take j).foldl max g) r : Nat) : Int) by split <;> omega]
          · have e2 : x.regs.take (j + 1) = x.regs.take j := by
              rw [List.take_of_length_le (by omega), List.take_of_length_le hr]
            refine ⟨_, rfl, rfl, _, rfl, iteNo (fun z => ?_) ?_⟩
            · rw [er] at z
              exact hc2 (List.cons.inj (stS_inj (V.str.inj z))).1
            · refine ⟨some (.str ⟨#[c]⟩), some y, ?_, s3⟩
              rw [e2]
              rfl
        · rintro σ H2 ⟨w3, w4, rfl, s2⟩
          have hle : x.regs.length ≤ x.parts.length := by cases x <;> simp [Ins.regs, Ins.parts]
          rw [List.take_of_length_le hle]
          exact ⟨_, _, _, rfl, (sm.trans smT).trans s2⟩
    · rintro σ H1 ⟨v2, v3, v4, rfl, sm⟩
      rw [hlen, List.take_length]
      refine ⟨_, rfl, _, _, rfl, rfl, ?_⟩
      exact q _ sm
abbrev s_greatest_width : Stmt := topS 23
abbrev nm_greatest_width : List Str := ["programs", "greatest", "program"]
theorem sc_greatest_width : FnScope nm_greatest_width ["programs"] (defScope s_greatest_width) := ⟨rfl, rfl, rfl, by decide +kernel, rfl, by decide +kernel, by decide +kernel⟩
def sp_greatest_width (K : PySem.W.Frag) (cl : Cn → Addr) : Sp := fun vs H Q E => ∃ (D : Addr) (iss : List (List Ins)), vs = [.ref D] ∧ PgsAt H D iss ∧ iss.length ≤ 1000000 ∧ (gw iss ≤ 16 → ∀ H', Same H H' → Q (.int (gw iss : Nat)) H') ∧ (16 < gw iss → ∀ H', Same H H' → E (.ref (cl .TooWide)) none H')
theorem ok_greatest_width (T : Txt K mg cl w) (H_width : Has P w K mg base CX0 1 "width" ["program"] (sp_width K cl)) {f : Addr} {fd : FuncData} (F : Fun K "greatest_width" "greatest_width" s_greatest_width f fd) : FnOk P w K mg base (L2.CX P w) 2 f fd ["programs"] (sp_greatest_width K cl) := by
  have m_max := T.m_max
  obtain ⟨t_MOST_WIDTH, m_MOST_WIDTH⟩ := T.m_MOST_WIDTH
  obtain ⟨g_TooWide, x_TooWide⟩ := T.e_TooWide
  obtain ⟨f_width, d_width, G_width, g_width, k_width, b_width⟩ := H_width.ex
  refine F.okX sc_greatest_width (fun vs H Q E h => ?_) (fun cdv A outer s H vs Q E hr h => ?_)
  · obtain ⟨n, _, rfl, _⟩ := h
    rfl
  · obtain ⟨D, iss, rfl, hp, hl, q, e⟩ := h
    have hz : sizeLine = 16777216 := rfl
    refine ⟨_, (pss_cons (ps_set (i := 1) sc_greatest_width.nd rfl (Or.inl rfl) (pe_maxD rfl (by rfl) m_max (pe_lc (own := [("program", 2)]) (g := gName 2) (tt := tYes) rfl sc_greatest_width.nd (pi_list (pv 0)) (blkOk_by (N := nm_greatest_width) (sc := defScope s_greatest_width) (by decide +kernel)) (fun _ _ _ _ _ => (pg_name (i := 2) sc_greatest_width.nd rfl (Or.inl rfl))) (fun _ _ _ _ _ => pts_nil) (fun _ _ _ _ _ => (pe_call G_width (hr.mono (by decide)) (by rfl) g_width k_width b_width .nil pass0 (pa_cons (pv 2) pa_nil)))) pe_int))
      (pss_cons (ps_if (pt_cmpR op_gt (pv 1) (pe_glob (v := .int 16) (by rfl) m_MOST_WIDTH ⟨_, rfl⟩) (nomark _)) (pss_one (ps_raise rfl (takes_of rfl rfl rfl rfl) (pmk_own PySem.F.excBase_ValueError x_TooWide.x g_TooWide x_TooWide.k (raises_own x_TooWide.b x_TooWide.t) (by exact rfl)))) pss_nil)
      (pss_one (ps_ret (pv 1))))), ?_⟩
    obtain ⟨xs, hx, hr2⟩ := id hp
    have hlen := Paired.len hr2
    refine ⟨_, rfl, D, rfl, ⟨_, SqL.of hx⟩, fun R nR => lc_ix (K := K) (a := D) (xs := xs) (ys := (iss.map fun is => ((wid is : Nat) : Int)).map V.int) (by rw [List.length_map, List.length_map, hlen]) nR (SqL.of hx) (by omega) (fun _ => rfl) (fun i x y H1 hi hy sm Q hq => ?_) (fun H1 sm hR => ?_)⟩
    · rw [List.getElem?_map, List.getElem?_map] at hy
      cases hi2 : iss[i]? with
      | none =>
        rw [hi2] at hy
        cases hy
      | some is =>
        rw [hi2] at hy
        obtain ⟨x2, h1, p, rfl, h2⟩ := Paired.get hr2 hi2
        rw [hi] at h1
        cases h1
        have hy : V.int (wid is : Nat) = y := Option.some.inj hy
        subst hy
        exact ⟨_, rfl, p, is, rfl, h2.same sm, fun H2 s2 => hq H2 s2⟩
    · refine ⟨R, iss.map fun is => ((wid is : Nat) : Int), rfl, SqL.of hR, fun h0 => ?_, fun m h1 h2 => ?_⟩
      · have : iss = [] := List.map_eq_nil_iff.mp h0
        subst this
        refine ⟨_, rfl, _, _, rfl, rfl, _, rfl, ?_⟩
        refine iteNo (by decide) ⟨_, rfl, q (by decide) H1 sm⟩
      · have := gw_is h1 h2
        subst this
        refine ⟨_, rfl, _, _, rfl, rfl, _, rfl, ?_⟩
        refine ite2 (fun c => ?_) (fun c => ?_)
        · have c := of_decide_eq_true c
          exact e (by omega) H1 sm
        · have c : ¬ (16 : Int) < (gw iss : Nat) := fun z => c (decide_eq_true z)
          exact ⟨_, rfl, q (by omega) H1 sm⟩
abbrev s_bearer : Stmt := topS 48
abbrev nm_bearer : List Str := ["program", "kept"]
theorem sc_bearer : FnScope nm_bearer ["program"] (defScope s_bearer) := ⟨rfl, rfl, rfl, by decide +kernel, rfl, by decide +kernel, by decide +kernel⟩
def sp_bearer (K : PySem.W.Frag) (cl : Cn → Addr) : Sp := fun vs H Q E => ∃ (p : Addr) (is : List Ins), vs = [.ref p] ∧ PgAt H p is ∧ is.length ≤ 980 ∧ (∀ i ∈ is, i.small) ∧
  (wid is ≤ 16 → GoodW (beP (bw2 is) is) → ∀ r H', Same H H' → H r = none → PgK K H' r (wocP (beP (bw2 is) is)) → Q (.ref r) H') ∧ (wid is ≤ 16 → ¬ GoodW (beP (bw2 is) is) → ∀ H', Same H H' → E (.ref (cl .TooLarge)) none H') ∧ (16 < wid is → ∀ H', Same H H' → E (.ref (cl .TooWide)) none H')
theorem ok_bearer (T : Txt K mg cl w) (H_with_own_code : Has P w K mg base (L2.CX P w) 5 "with_own_code" ["program"] (sp_with_own_code K cl)) (H_greatest_width : Has P w K mg base (L2.CX P w) 2 "greatest_width" ["programs"] (sp_greatest_width K cl)) {f : Addr} {fd : FuncData} (F : Fun K "bearer" "bearer" s_bearer f fd) : FnOk P w K mg base (L2.CX P w) 6 f fd ["program"] (sp_bearer K cl) := by
  have m_max := T.m_max
  obtain ⟨t_LEAF, m_LEAF⟩ := T.m_LEAF
  obtain ⟨f_with_own_code, d_with_own_code, G_with_own_code, g_with_own_code, k_with_own_code, b_with_own_code⟩ := H_with_own_code.ex
  obtain ⟨f_greatest_width, d_greatest_width, G_greatest_width, g_greatest_width, k_greatest_width, b_greatest_width⟩ := H_greatest_width.ex
  refine F.okX sc_bearer (fun vs H Q E h => ?_) (fun cdv A outer s H vs Q E hr h => ?_)
  · obtain ⟨p, is, rfl, _⟩ := h
    rfl
  · obtain ⟨p, is, rfl, hp, hl, hs, q, e, eW⟩ := h
    have hz : sizeLine = 16777216 := rfl
    refine ⟨_, (pss_cons (ps_set (i := 1) sc_bearer.nd rfl (Or.inl rfl) (pe_callB (call_max2 rfl) (by rfl) m_max (by decide +kernel) (pa_cons pe_int (pa_cons (pe_callS G_greatest_width (hr.mono (by decide)) (by rfl) g_greatest_width k_greatest_width b_greatest_width (fun σ => passAt (takes_of rfl rfl rfl rfl) σ) (pa_cons (pe_lst (pa_cons (pv 0) pa_nil)) pa_nil)) pa_nil))))
      (pss_one (ps_ret (pe_callS G_with_own_code (hr.mono (by decide)) (by rfl) g_with_own_code k_with_own_code b_with_own_code (fun σ => passAt (takes_of rfl rfl rfl rfl) σ) (pa_cons (pe_lst (pa_cons (pe_tup (pa_cons pe_str (pa_cons (pv 1) (pa_cons pe_int pa_nil)))) (pa_cons (pe_tup (pa_cons pe_str (pa_cons pe_int (pa_cons (pe_glob (v := .str "0") (by rfl) m_LEAF ⟨_, rfl⟩) pa_nil)))) (StX.pa_star (pv 0) (pa_cons (pe_tup (pa_cons pe_str (pa_cons pe_int (pa_cons (pv 1) (pa_cons pe_int pa_nil))))) pa_nil))))) pa_nil))))), ?_⟩
    refine ⟨_, rfl, (by show 1 ≤ sizeLine; omega), fun D nD => ?_⟩
    have sD := Same.upd (o := .lst [.ref p]) nD
    have hD : PgsAt (upd H D (.lst [.ref p])) D [is] := ⟨_, upd_same, .cons ⟨p, rfl, hp.same sD⟩ .nil⟩
    generalize upd H D (.lst [V.ref p]) = H1 at sD hD ⊢
    have g1 : gw [is] = wid is := by
      have h := wid_pos is
      show max 1 (wid is) = wid is
      omega
    refine ⟨D, [is], rfl, hD, (by show 1 ≤ 1000000; decide), fun hg H2 s2 => ?_, fun hg H2 s2 => eW (by omega) H2 (sD.trans s2)⟩
    rw [g1] at hg ⊢
    have s2 := sD.trans s2
    refine ⟨_, _, rfl, ?_⟩
    have e2 : (if ((wid is : Nat) : Int) > 2 then ((wid is : Nat) : Int) else 2) = ((bw2 is : Nat) : Int) := by
      have : bw2 is = max 2 (wid is) := rfl
      split <;> omega
    try rw [e2]
    have hw16 : bw2 is ≤ 16 := by
      have : bw2 is = max 2 (wid is) := rfl
      omega
    generalize hW : bw2 is = w at hw16 q e ⊢
    clear e2
    refine ⟨_, rfl, (by show 3 ≤ sizeLine; omega), fun T1 n1 => ?_⟩
    have s3 := Same.upd (o := .tup [.str "move", .int w, .int 1]) n1
    have r1 : upd H2 T1 (.tup [.str "move", .int w, .int 1]) T1 = some (.tup (Ins.move w 1).vs) := upd_same
    generalize upd H2 T1 (.tup [V.str "move", V.int (w : Int), V.int 1]) = H3 at s3 r1 ⊢
    refine ⟨(by show 3 ≤ sizeLine; omega), fun T2 n2 => ?_⟩
    have s4 := Same.upd (o := .tup [.str "set", .int 1, .str "0"]) n2
    have r2 : upd H3 T2 (.tup [.str "set", .int 1, .str "0"]) T2 = some (.tup (Ins.set 1 .leaf).vs) := by rw [← v_leaf1]; exact upd_same
    have r1 := s4 _ _ r1
    generalize upd H3 T2 (.tup [V.str "set", V.int 1, V.str "0"]) = H4 at s4 r1 r2 ⊢
    have s34 := (s2.trans s3).trans s4
    obtain ⟨as, a1, a2⟩ := hp.same s34
    have al := Paired.len a2
    refine ⟨_, rfl, _, _, rfl, .inr (SqL.of a1), _, rfl, (by show 4 ≤ sizeLine; omega), fun T3 n3 => ?_⟩
    have s5 := Same.upd (o := .tup [.str "cons", .int 0, .int w, .int 0]) n3
    have r3 : upd H4 T3 (.tup [.str "cons", .int 0, .int w, .int 0]) T3 = some (.tup (Ins.cons 0 w 0).vs) := upd_same
    have r1 := s5 _ _ r1
    have r2 := s5 _ _ r2
    have a2 := Rows.same s5 a2
    have s35 := s34.trans s5
    generalize upd H4 T3 (.tup [V.str "cons", V.int 0, V.int (w : Int), V.int 0]) = H5 at s35 r1 r2 r3 a2 ⊢
    refine ⟨(by simp only [List.length_append, List.length_cons, List.length_nil, List.length_map]; omega), fun D2 nD2 => ?_⟩
    have eL : V.ref T1 :: V.ref T2 :: (as.map V.ref ++ [V.ref T3]) = ((T1 :: T2 :: as) ++ [T3]).map V.ref := by simp
    rw [eL]
    have s6 := Same.upd (o := .lst (((T1 :: T2 :: as) ++ [T3]).map V.ref)) nD2
    have hB : PgAt (upd H5 D2 (.lst (((T1 :: T2 :: as) ++ [T3]).map V.ref))) D2 (beP w is) := ⟨_, upd_same, Paired.app (.cons (s6 _ _ r1) (.cons (s6 _ _ r2) (Rows.same s6 a2))) (.cons (s6 _ _ r3) .nil)⟩
    have s7 := s35.trans s6
    generalize upd H5 D2 (.lst (((T1 :: T2 :: as) ++ [T3]).map V.ref)) = H6 at hB s7 ⊢
    refine ⟨D2, _, rfl, hB, (by rw [beP_len]; omega), beP_mem ⟨by omega, by decide⟩ ⟨by decide, by decide⟩ ⟨by decide, by omega, by decide⟩ hs, fun c r H' s8 n8 h8 => ?_, fun c H' s8 => e hg c H' (s7.trans s8)⟩
    exact q hg c r H' (s7.trans s8) (same_new s7 n8) h8
abbrev s_placed : Stmt := topS 26
abbrev nm_placed : List Str := ["lines", "marks", "count", "line", "program"]
theorem sc_placed : FnScope nm_placed ["lines"] (defScope s_placed) := ⟨rfl, rfl, rfl, by decide +kernel, rfl, by decide +kernel, by decide +kernel⟩
def sp_placed (K : PySem.W.Frag) (cl : Cn → Addr) : Sp := fun vs H Q _ => ∃ (a : Addr) (xs : List V) (ls : List Line) (d : Str → Nat), vs = [.ref a] ∧ H a = some (.lst xs) ∧ Lns H xs ls ∧ ls.length ≤ 1000000 ∧ (∀ r n, .jmp r n ∈ ls → mval ls n = some (d n)) ∧
  (∀ i ∈ ls, ∀ x, i = .ins x → x.big ≤ 1000000) ∧ ∀ p H', Same H H' → H p = none → PgAt H' p (plc d 0 ls) → Q (.ref p) H'
theorem ok_placed (T : Txt K mg cl w) {f : Addr} {fd : FuncData} (F : Fun K "placed" "placed" s_placed f fd) : FnOk P w K mg base CX0 1 f fd ["lines"] (sp_placed K cl) := by
  have m_isinstance := T.m_isinstance
  have m_str := T.m_str
  have m_len := T.m_len
  refine F.ok sc_placed (fun vs H Q E h => ?_) (fun cdv A outer s H vs Q E hr h => ?_)
  · obtain ⟨n, _, _, _, rfl, _⟩ := h
    rfl
  · obtain ⟨a, xs, ls, d, rfl, ha, hls, hl, hd, hbg, q⟩ := h
    have hz : sizeLine = 16777216 := rfl
    have hxl := Paired.len hls
    refine ⟨_, (pss_cons (ps_set (i := 1) sc_placed.nd rfl (Or.inl rfl) pe_dnewK)
      (pss_cons (ps_set (i := 2) sc_placed.nd rfl (Or.inl rfl) pe_int)
      (pss_cons (ps_for PassesOwn.never rfl (pi_list (pv 0)) (pg_name (i := 3) sc_placed.nd rfl (Or.inl rfl)) (pss_one (ps_if (pt_cmpR op_eq (pe_ix (ix_tup : IxR _ (rIxT K)) (pv 3) pe_int (fun _ _ => rfl)) pe_str (nomark _)) (pss_one (ps_dput (hu_of hr) (pv 1) (pe_ix (ix_tup : IxR _ (rIxT K)) (pv 3) pe_int (fun _ _ => rfl)) (pv 2) rfl)) (pss_one (ps_aug (i := 2) sc_placed.nd rfl (Or.inl rfl) pe_int ip_add)))))
      (pss_cons (ps_set (i := 4) sc_placed.nd rfl (Or.inl rfl) (pe_lst pa_nil))
      (pss_cons (ps_for PassesOwn.never rfl (pi_list (pv 0)) (pg_name (i := 3) sc_placed.nd rfl (Or.inl rfl)) (pss_one (ps_if (PW.pt (pw_and (pt_cmpR op_eq (pe_ix (ix_tup : IxR _ (rIxT K)) (pv 3) pe_int (fun _ _ => rfl)) pe_str (nomark _)) (pw_and1 (pt_val (pe_callB (call_isi : CallR _ _ (rIsi K)) (by rfl) m_isinstance (by decide +kernel) (pa_cons (pe_ix (ix_tup : IxR _ (rIxT K)) (pv 3) pe_int (fun _ _ => rfl)) (pa_cons (pe_bltn (v := .ty "str") (by rfl) m_str (by decide +kernel) rfl) pa_nil))))))) (pss_one (ps_expr (pe_bm PySem.F.plainAttrs_list PySem.F.slot_list_append PySem.F.type_list_append mt_append (pv 4) (pa_cons (pe_tup (pa_cons pe_str (pa_cons (pe_ix (ix_tup : IxR _ (rIxT K)) (pv 3) pe_int (fun _ _ => rfl)) (pa_cons (pe_op op_sub (pe_dget (hu_of hr) (pv 1) (pe_ix (ix_tup : IxR _ (rIxT K)) (pv 3) pe_int (fun _ _ => rfl)) (fun _ _ => rfl)) (pe_callB (call_lenS : CallR _ _ (rLenS K)) (by rfl) m_len (by decide +kernel) (pa_cons (pv 4) pa_nil))) pa_nil)))) pa_nil)))) (pss_one (ps_if (pt_cmpR op_ne (pe_ix (ix_tup : IxR _ (rIxT K)) (pv 3) pe_int (fun _ _ => rfl)) pe_str (nomark _)) (pss_one (ps_expr (pe_bm PySem.F.plainAttrs_list PySem.F.slot_list_append PySem.F.type_list_append mt_append (pv 4) (pa_cons (pv 3) pa_nil)))) pss_nil)))))
      (pss_one (ps_ret (pv 4)))))))), ?_⟩
    have at0 : ∀ l : Line, ∃ w u r, l.vs = .str w :: u :: r ∧ (l.isM = true → w = Str.ofString "mark") ∧ (l.isM = false → w ≠ Str.ofString "mark") := fun l => by
      cases l with
      | mark n => exact ⟨_, _, _, rfl, fun _ => rfl, fun z => by cases z⟩
      | jmp r n => exact ⟨_, _, _, rfl, (fun z => by cases z), fun _ => (by decide +kernel : Str.ofString "jump" ≠ Str.ofString "mark")⟩
      | ins i =>
        cases i with
        | set r t => exact ⟨_, _, _, rfl, (fun z => by cases z), fun _ => (by decide +kernel : Str.ofString "set" ≠ Str.ofString "mark")⟩
        | move r t => exact ⟨_, _, _, rfl, (fun z => by cases z), fun _ => (by decide +kernel : Str.ofString "move" ≠ Str.ofString "mark")⟩
        | cons r t u => exact ⟨_, _, _, rfl, (fun z => by cases z), fun _ => (by decide +kernel : Str.ofString "cons" ≠ Str.ofString "mark")⟩
        | head r t => exact ⟨_, _, _, rfl, (fun z => by cases z), fun _ => (by decide +kernel : Str.ofString "head" ≠ Str.ofString "mark")⟩
        | tail r t => exact ⟨_, _, _, rfl, (fun z => by cases z), fun _ => (by decide +kernel : Str.ofString "tail" ≠ Str.ofString "mark")⟩
        | jump r t => exact ⟨_, _, _, rfl, (fun z => by cases z), fun _ => (by decide +kernel : Str.ofString "jump" ≠ Str.ofString "mark")⟩
    refine fun M nM => ?_
    have sM := Same.upd (o := .dK []) nM
    refine ⟨_, rfl, a, rfl, ⟨_, SqL.of (sM _ _ ha)⟩, for_list (K := K) (a := a) (xs := xs) (fun j σ H' => ∃ (w3 : Option V) (kvs : List (Key × V)), σ = [some (.ref a), some (.ref M), some (.int (cnt (ls.take j) : Nat)), w3, none] ∧ Same H H' ∧ H' M = some (.dK kvs) ∧ kvs.length ≤ j ∧ ∀ n, L2.valV kvs (Sum.inr n : Key) = (mval (ls.take j) n).map fun k : Nat => V.int k) ⟨none, [], rfl, sM, upd_same, Nat.zero_le _, fun n => rfl⟩ (fun j σ H' _ ⟨_, _, _, sm, _⟩ => sm.seq (SqL.of ha)) ?_ ?_⟩
    · rintro j y σ H1 hj ⟨w3, kvs, rfl, sm, hM, hkl, hk⟩
      have hji := (List.getElem?_eq_some_iff.mp hj).1
      obtain ⟨l, hlj⟩ : ∃ l, ls[j]? = some l := ⟨_, List.getElem?_eq_getElem (by omega)⟩
      obtain ⟨y2, h1, T, rfl, hT⟩ := Paired.get hls hlj
      rw [hj] at h1
      cases h1
      have hT1 := sm _ _ hT
      obtain ⟨w, u, r, hvs, hw1, hw2⟩ := at0 l
      have hat0 : atI l.vs 0 = some (.str w) := atI_nat (j := 0) (by rw [hvs]; rfl)
      have eT : ls.take (j + 1) = ls.take j ++ [l] := by
        rw [List.take_add_one, hlj]
        rfl
      have ec : cnt (ls.take (j + 1)) = cnt (ls.take j) + cnt [l] := by rw [eT, cnt_app]
      refine ⟨_, rfl, _, _, _, _, rfl, rfl, SqT.of hT1, hat0, rfl, _, rfl, ?_⟩
      cases hm : l.isM with
      | true =>
        cases l with
        | ins i => cases hm
        | jmp r n => cases hm
        | mark n =>
          refine iteS (congrArg V.str (hw1 rfl)) ?_
          refine ⟨_, rfl, _, rfl, _, rfl, _, _, _, _, rfl, rfl, SqT.of hT1, atI_nat (j := 1) rfl, M, _, rfl, DPut.k (k := (Sum.inr n : Key)) hM (by omega), ?_⟩
          refine ⟨some (.ref T), _, ?_, fun b o z => (upd_ne (ne_of_none z nM)).trans (sm b o z), upd_same, ?_, fun m => ?_⟩
          · rw [ec]
            rfl
          · unfold putK
            split
            · rw [List.length_map]
              omega
            · rw [List.length_append, List.length_singleton]
              omega
          · rw [valV_put, eT, mval_snoc]
            by_cases c : m = n
            · subst c
              rw [if_pos rfl]
              show _ = Option.map _ (if m = m then some (cnt (ls.take j)) else _)
              rw [if_pos rfl]
              rfl
            · rw [if_neg (fun z => c (Sum.inr.inj z)), hk m]
              show _ = Option.map _ (if m = n then _ else mval (ls.take j) m)
              rw [if_neg c]
      | false =>
        refine iteNo (fun z => hw2 hm (V.str.inj z)) ?_
        have c1 : cnt [l] = 1 := by
          cases l with
          | mark n => cases hm
          | ins i => rfl
          | jmp r n => rfl
        refine ⟨_, rfl, _, _, rfl, rfl, some (.ref T), kvs, ?_, sm, hM, by omega, fun m => ?_⟩
        · rw [ec, c1]
          rfl
        · rw [hk m, eT, mval_snoc]
          cases l with
          | mark n => cases hm
          | ins i => rfl
          | jmp r n => rfl
    · rintro σ H1 ⟨w3, kvs, rfl, sm, hM, hkl, hk⟩
      rw [hxl, List.take_length] at hk
      rw [hxl, List.take_length]
      refine ⟨(by show 0 ≤ sizeLine; omega), fun P nP => ?_⟩
      have nPH := same_new sm nP
      refine ⟨_, rfl, a, rfl, ⟨_, SqL.of ((sm.trans (Same.upd nP)) _ _ ha)⟩, for_list (K := K) (a := a) (xs := xs) (fun j σ H' => ∃ (w3 : Option V) (as : List Addr), σ = [some (.ref a), some (.ref M), some (.int (cnt ls : Nat)), w3, some (.ref P)] ∧ Same H1 H' ∧ H' P = some (.lst (as.map V.ref)) ∧ Rows H' as (plc d 0 (ls.take j))) ⟨w3, [], rfl, Same.upd nP, upd_same, .nil⟩ (fun j σ H' _ ⟨_, _, _, s2, _⟩ => (sm.trans s2).seq (SqL.of ha)) ?_ ?_⟩
      · rintro j y σ H2 hj ⟨w3, as, rfl, s2, hP, hrw⟩
        have hji := (List.getElem?_eq_some_iff.mp hj).1
        obtain ⟨l, hlj⟩ : ∃ l, ls[j]? = some l := ⟨_, List.getElem?_eq_getElem (by omega)⟩
        obtain ⟨y2, h1, T, rfl, hT⟩ := Paired.get hls hlj
        rw [hj] at h1
        cases h1
        have hmem := List.mem_of_getElem? hlj
        have hT1 := (sm.trans s2) _ _ hT
        obtain ⟨w, u, r, hvs, hw1, hw2⟩ := at0 l
        have hat0 : atI l.vs 0 = some (.str w) := atI_nat (j := 0) (by rw [hvs]; rfl)
        have eT : ls.take (j + 1) = ls.take j ++ [l] := by
          rw [List.take_add_one, hlj]
          rfl
        have eP : plc d 0 (ls.take (j + 1)) = plc d 0 (ls.take j) ++ plc d (cnt (ls.take j)) [l] := by rw [eT, plc_app, Nat.zero_add]
        have hal : as.length = cnt (ls.take j) := by rw [Paired.len hrw, plc_len]
        have hcl : cnt (ls.take j) ≤ 1000000 := by
          have h1 := cnt_le (ls.take j)
          rw [List.length_take] at h1
          omega
        -- an instruction put behind the others
        have put : ∀ (X : Hp) (T : Addr) (i : Ins), Same H2 X → X T = some (.tup i.vs) → plc d (cnt (ls.take j)) [l] = [i] → ∃ (w3 : Option V) (as' : List Addr), [some (V.ref a), some (V.ref M), some (V.int (cnt ls : Nat)), some (V.ref T), some (V.ref P)] = [some (V.ref a), some (V.ref M), some (V.int (cnt ls : Nat)), w3, some (V.ref P)] ∧ Same H1 (upd X P (.lst (as.map V.ref ++ [.ref T]))) ∧ upd X P (.lst (as.map V.ref ++ [.ref T])) P = some (.lst (as'.map V.ref)) ∧ Rows (upd X P (.lst (as.map V.ref ++ [.ref T]))) as' (plc d 0 (ls.take (j + 1))) := fun X T i sX hT e => by
          have hPX := sX _ _ hP
          refine ⟨_, as ++ [T], rfl, fun b o z => (upd_ne (ne_of_none z nP)).trans ((s2.trans sX) b o z), by rw [upd_same, List.map_append]; rfl, ?_⟩
          rw [eP, e]
          have st : ∀ {b : Addr} {zs : List V}, X b = some (.tup zs) → upd X P (.lst (as.map V.ref ++ [.ref T])) b = some (.tup zs) := fun h => (upd_ne (fun z => by rw [z, hPX] at h; cases h)).trans h
          exact Paired.app (Paired.imp (fun b i q => st q) (Rows.same sX hrw)) (.cons (st hT) .nil)
        refine ⟨_, rfl, _, _, _, _, rfl, rfl, SqT.of hT1, hat0, rfl, _, rfl, ?_⟩
        cases l with
        | mark n =>
          have e1 : w = Str.ofString "mark" := hw1 rfl
          refine iteNo (fun z => absurd (e1.symm.trans (V.str.inj z)) (by decide +kernel)) ?_
          refine ⟨_, rfl, _, _, _, _, rfl, rfl, SqT.of hT1, hat0, rfl, _, rfl, ?_⟩
          refine notI (fun c => absurd (congrArg V.str e1) (of_decide_eq_false c)) (fun _ => ?_)
          refine ⟨some (.ref T), as, rfl, s2, hP, ?_⟩
          rw [eP]
          show Rows H2 as (_ ++ [])
          rw [List.append_nil]
          exact hrw
        | jmp r n =>
          have e1 : w = Str.ofString "jump" := by
            have : [V.str (Str.ofString "jump"), V.int r, V.str n] = V.str w :: _ := hvs
            exact (V.str.inj (List.cons.inj this).1).symm
          refine iteS (congrArg V.str e1) ⟨_, rfl, _, _, _, _, rfl, rfl, SqT.of hT1, atI_nat (j := 2) rfl, _, _, _, _, true, rfl, .ty _, .base (.str _), (kit_ty (by decide +kernel)), _, rfl, iteT ?_⟩
          have hg : DGet H2 M (.str n) (some (.int (d n))) := by
            have := DGet.k (k := (Sum.inr n : Key)) (s2 _ _ hM)
            rw [hk n, hd r n hmem] at this
            exact this
          refine ⟨_, rfl, .inl ⟨rfl, _, SqL.of hP⟩, _, rfl, _, _, _, _, rfl, rfl, SqT.of hT1, atI_nat (j := 1) rfl, _, rfl, _, rfl, _, _, _, _, rfl, rfl, SqT.of hT1, atI_nat (j := 2) rfl, M, _, rfl, hg, _, rfl, _, _, rfl, .inl (SqL.of hP), _, _, rfl, rfl, (by show 3 ≤ sizeLine; omega), fun T2 nT2 => ?_⟩
          have e2 : ((as.map V.ref).length : Int) = (cnt (ls.take j) : Nat) := by rw [List.length_map, hal]
          rw [e2]
          have sT := Same.upd (o := .tup [.str "jump", .int r, .int ((d n : Int) - (cnt (ls.take j) : Nat))]) nT2
          have gT : upd H2 T2 (.tup [.str "jump", .int r, .int ((d n : Int) - (cnt (ls.take j) : Nat))]) T2 = some (.tup (Ins.vs (.jump r ((d n : Int) - (cnt (ls.take j) : Nat))))) := upd_same
          generalize upd H2 T2 (.tup [V.str (Str.ofString "jump"), V.int r, V.int ((d n : Int) - (cnt (ls.take j) : Nat))]) = H3 at sT gT ⊢
          refine ⟨_, _, _, rfl, rfl, sT _ _ hP, (by rw [List.length_map]; omega), ?_⟩
          obtain ⟨v3, as', f1, f2, f3, f4⟩ := put H3 T2 _ sT gT rfl
          exact ⟨some (.ref T), as', rfl, f2, f3, f4⟩
        | ins i =>
          have nm : w ≠ Str.ofString "mark" := hw2 rfl
          have go2 : ∀ (D : Ends) (σ : L2.St), True := fun _ _ => trivial
          clear go2
          have fin := put H2 T i (.refl _) hT1 rfl
          have nj : w = Str.ofString "jump" → ∃ r m, i = .jump r m := fun e => by
            cases i with
            | jump r m => exact ⟨r, m, rfl⟩
            | set r t => exact absurd (((V.str.inj (List.cons.inj (show [V.str (Str.ofString "set"), _, _] = V.str w :: _ from hvs)).1).trans e)) (by decide +kernel)
            | move r t => exact absurd (((V.str.inj (List.cons.inj (show [V.str (Str.ofString "move"), _, _] = V.str w :: _ from hvs)).1).trans e)) (by decide +kernel)
            | cons r t u => exact absurd (((V.str.inj (List.cons.inj (show [V.str (Str.ofString "cons"), _, _, _] = V.str w :: _ from hvs)).1).trans e)) (by decide +kernel)
            | head r t => exact absurd (((V.str.inj (List.cons.inj (show [V.str (Str.ofString "head"), _, _] = V.str w :: _ from hvs)).1).trans e)) (by decide +kernel)
            | tail r t => exact absurd (((V.str.inj (List.cons.inj (show [V.str (Str.ofString "tail"), _, _] = V.str w :: _ from hvs)).1).trans e)) (by decide +kernel)
          by_cases cj : w = Str.ofString "jump"
          · obtain ⟨r, m, rfl⟩ := nj cj
            refine iteS (congrArg V.str cj) ⟨_, rfl, _, _, _, _, rfl, rfl, SqT.of hT1, atI_nat (j := 2) rfl, _, _, _, _, false, rfl, .ty _, .base (.int _), (kit_ty (by decide +kernel)), _, rfl, iteF ?_⟩
            refine ⟨_, rfl, _, _, _, _, rfl, rfl, SqT.of hT1, hat0, rfl, _, rfl, ?_⟩
            refine notI (fun _ => ?_) (fun c => absurd (V.str.inj (of_decide_eq_true c)) nm)
            exact ⟨_, rfl, .inl ⟨rfl, _, SqL.of hP⟩, _, rfl, _, _, _, rfl, rfl, hP, (by rw [List.length_map]; omega), fin⟩
          · refine iteNo (fun z => cj (V.str.inj z)) ?_
            refine ⟨_, rfl, _, _, _, _, rfl, rfl, SqT.of hT1, hat0, rfl, _, rfl, ?_⟩
            refine notI (fun _ => ?_) (fun c => absurd (V.str.inj (of_decide_eq_true c)) nm)
            exact ⟨_, rfl, .inl ⟨rfl, _, SqL.of hP⟩, _, rfl, _, _, _, rfl, rfl, hP, (by rw [List.length_map]; omega), fin⟩
      · rintro σ H2 ⟨w3, as, rfl, s2, hP, hrw⟩
        rw [hxl, List.take_length] at hrw
        exact ⟨_, rfl, q P H2 (sm.trans s2) nPH ⟨as, hP, hrw⟩⟩
abbrev s_go_on : Stmt := topS 45
abbrev nm_go_on : List Str := []
theorem sc_go_on : FnScope nm_go_on [] (defScope s_go_on) := ⟨rfl, rfl, rfl, by decide +kernel, rfl, by decide +kernel, by decide +kernel⟩
def sp_go_on (K : PySem.W.Frag) (cl : Cn → Addr) : Sp := fun vs H Q E => vs = [] ∧ ∀ p H', Same H H' → LnsAt H' p goL → Q (.ref p) H'
theorem ok_go_on (T : Txt K mg cl w) {f : Addr} {fd : FuncData} (F : Fun K "_go_on" "_go_on" s_go_on f fd) : FnOk P w K mg base CX0 1 f fd [] (sp_go_on K cl) := by
  obtain ⟨t_WALK, m_WALK⟩ := T.m_WALK
  obtain ⟨t_AHEAD, m_AHEAD⟩ := T.m_AHEAD
  obtain ⟨t_BEHIND, m_BEHIND⟩ := T.m_BEHIND
  obtain ⟨t_WAY, m_WAY⟩ := T.m_WAY
  obtain ⟨t_STATE, m_STATE⟩ := T.m_STATE
  refine F.ok sc_go_on (fun vs H Q E h => ?_) (fun cdv A outer s H vs Q E hr h => ?_)
  · obtain ⟨rfl, _⟩ := h
    rfl
  · obtain ⟨rfl, q⟩ := h
    have hz : sizeLine = 16777216 := rfl
    refine ⟨_, (pss_one (ps_ret (pe_lst (pa_cons (pe_tup (pa_cons pe_str (pa_cons pe_str pa_nil))) (pa_cons (pe_tup (pa_cons pe_str (pa_cons (pe_glob (v := .int 1) (by rfl) m_WALK ⟨_, rfl⟩) (pa_cons (pe_glob (v := .int 6) (by rfl) m_AHEAD ⟨_, rfl⟩) pa_nil)))) (pa_cons (pe_tup (pa_cons pe_str (pa_cons (pe_glob (v := .int 7) (by rfl) m_BEHIND ⟨_, rfl⟩) (pa_cons (pe_glob (v := .int 1) (by rfl) m_WALK ⟨_, rfl⟩) (pa_cons (pe_glob (v := .int 7) (by rfl) m_BEHIND ⟨_, rfl⟩) pa_nil))))) (pa_cons (pe_tup (pa_cons pe_str (pa_cons (pe_glob (v := .int 6) (by rfl) m_AHEAD ⟨_, rfl⟩) (pa_cons (pe_glob (v := .int 6) (by rfl) m_AHEAD ⟨_, rfl⟩) pa_nil)))) (pa_cons (pe_tup (pa_cons pe_str (pa_cons (pe_glob (v := .int 8) (by rfl) m_WAY ⟨_, rfl⟩) (pa_cons (pe_glob (v := .int 8) (by rfl) m_WAY ⟨_, rfl⟩) pa_nil)))) (pa_cons (pe_tup (pa_cons pe_str (pa_cons (pe_glob (v := .int 8) (by rfl) m_WAY ⟨_, rfl⟩) (pa_cons pe_str pa_nil)))) (pa_cons (pe_tup (pa_cons pe_str (pa_cons pe_str pa_nil))) (pa_cons (pe_tup (pa_cons pe_str (pa_cons (pe_glob (v := .int 6) (by rfl) m_AHEAD ⟨_, rfl⟩) (pa_cons pe_str pa_nil)))) (pa_cons (pe_tup (pa_cons pe_str (pa_cons pe_int (pa_cons (pe_glob (v := .int 0) (by rfl) m_STATE ⟨_, rfl⟩) pa_nil)))) pa_nil)))))))))))), ?_⟩
    refine ⟨(by show 2 ≤ sizeLine; omega), fun T0 n0 => ?_⟩
    have u0 := Same.upd (o := .tup [V.str (Str.ofString "mark"), V.str (Str.ofString "forward")]) n0
    have L0 : Lns (upd H T0 (.tup [V.str (Str.ofString "mark"), V.str (Str.ofString "forward")])) _ _ := ln_put (.mark "forward") ((Paired.nil : Lns H [] [])) n0
    generalize upd H T0 (.tup [V.str (Str.ofString "mark"), V.str (Str.ofString "forward")]) = X0 at u0 L0 ⊢
    refine ⟨(by show 3 ≤ sizeLine; omega), fun T1 n1 => ?_⟩
    have u1 := Same.upd (o := .tup [V.str (Str.ofString "head"), V.int 1, V.int 6]) n1
    have L1 : Lns (upd X0 T1 (.tup [V.str (Str.ofString "head"), V.int 1, V.int 6])) _ _ := ln_put (.ins (.head 1 6)) (L0) n1
    generalize upd X0 T1 (.tup [V.str (Str.ofString "head"), V.int 1, V.int 6]) = X1 at u1 L1 ⊢
    refine ⟨(by show 4 ≤ sizeLine; omega), fun T2 n2 => ?_⟩
    have u2 := Same.upd (o := .tup [V.str (Str.ofString "cons"), V.int 7, V.int 1, V.int 7]) n2
    have L2 : Lns (upd X1 T2 (.tup [V.str (Str.ofString "cons"), V.int 7, V.int 1, V.int 7])) _ _ := ln_put (.ins (.cons 7 1 7)) (L1) n2
    generalize upd X1 T2 (.tup [V.str (Str.ofString "cons"), V.int 7, V.int 1, V.int 7]) = X2 at u2 L2 ⊢
    refine ⟨(by show 3 ≤ sizeLine; omega), fun T3 n3 => ?_⟩
    have u3 := Same.upd (o := .tup [V.str (Str.ofString "tail"), V.int 6, V.int 6]) n3
    have L3 : Lns (upd X2 T3 (.tup [V.str (Str.ofString "tail"), V.int 6, V.int 6])) _ _ := ln_put (.ins (.tail 6 6)) (L2) n3
    generalize upd X2 T3 (.tup [V.str (Str.ofString "tail"), V.int 6, V.int 6]) = X3 at u3 L3 ⊢
    refine ⟨(by show 3 ≤ sizeLine; omega), fun T4 n4 => ?_⟩
    have u4 := Same.upd (o := .tup [V.str (Str.ofString "tail"), V.int 8, V.int 8]) n4
    have L4 : Lns (upd X3 T4 (.tup [V.str (Str.ofString "tail"), V.int 8, V.int 8])) _ _ := ln_put (.ins (.tail 8 8)) (L3) n4
    generalize upd X3 T4 (.tup [V.str (Str.ofString "tail"), V.int 8, V.int 8]) = X4 at u4 L4 ⊢
    refine ⟨(by show 3 ≤ sizeLine; omega), fun T5 n5 => ?_⟩
    have u5 := Same.upd (o := .tup [V.str (Str.ofString "jump"), V.int 8, V.str (Str.ofString "forward")]) n5
    have L5 : Lns (upd X4 T5 (.tup [V.str (Str.ofString "jump"), V.int 8, V.str (Str.ofString "forward")])) _ _ := ln_put (.jmp 8 "forward") (L4) n5
    generalize upd X4 T5 (.tup [V.str (Str.ofString "jump"), V.int 8, V.str (Str.ofString "forward")]) = X5 at u5 L5 ⊢
    refine ⟨(by show 2 ≤ sizeLine; omega), fun T6 n6 => ?_⟩
    have u6 := Same.upd (o := .tup [V.str (Str.ofString "mark"), V.str (Str.ofString "fetch")]) n6
    have L6 : Lns (upd X5 T6 (.tup [V.str (Str.ofString "mark"), V.str (Str.ofString "fetch")])) _ _ := ln_put (.mark "fetch") (L5) n6
    generalize upd X5 T6 (.tup [V.str (Str.ofString "mark"), V.str (Str.ofString "fetch")]) = X6 at u6 L6 ⊢
    refine ⟨(by show 3 ≤ sizeLine; omega), fun T7 n7 => ?_⟩
    have u7 := Same.upd (o := .tup [V.str (Str.ofString "jump"), V.int 6, V.str (Str.ofString "decode")]) n7
    have L7 : Lns (upd X6 T7 (.tup [V.str (Str.ofString "jump"), V.int 6, V.str (Str.ofString "decode")])) _ _ := ln_put (.jmp 6 "decode") (L6) n7
    generalize upd X6 T7 (.tup [V.str (Str.ofString "jump"), V.int 6, V.str (Str.ofString "decode")]) = X7 at u7 L7 ⊢
    refine ⟨(by show 3 ≤ sizeLine; omega), fun T8 n8 => ?_⟩
    have u8 := Same.upd (o := .tup [V.str (Str.ofString "head"), V.int 0, V.int 0]) n8
    have L8 : Lns (upd X7 T8 (.tup [V.str (Str.ofString "head"), V.int 0, V.int 0])) _ _ := ln_put (.ins (.head 0 0)) (L7) n8
    generalize upd X7 T8 (.tup [V.str (Str.ofString "head"), V.int 0, V.int 0]) = X8 at u8 L8 ⊢
    exact ⟨(by show 9 ≤ sizeLine; omega), fun p n => q p _ ((((((((((u0).trans u1).trans u2).trans u3).trans u4).trans u5).trans u6).trans u7).trans u8).trans (Same.upd n)) (ln_end L8 n)⟩
abbrev s_change_register : Stmt := topS 44
abbrev nm_change_register : List Str := []
theorem sc_change_register : FnScope nm_change_register [] (defScope s_change_register) := ⟨rfl, rfl, rfl, by decide +kernel, rfl, by decide +kernel, by decide +kernel⟩
def sp_change_register (K : PySem.W.Frag) (cl : Cn → Addr) : Sp := fun vs H Q E => vs = [] ∧ ∀ p H', Same H H' → LnsAt H' p chL → Q (.ref p) H'
theorem ok_change_register (T : Txt K mg cl w) {f : Addr} {fd : FuncData} (F : Fun K "_change_register" "_change_register" s_change_register f fd) : FnOk P w K mg base CX0 1 f fd [] (sp_change_register K cl) := by
  obtain ⟨t_TARGET, m_TARGET⟩ := T.m_TARGET
  obtain ⟨t_STATE, m_STATE⟩ := T.m_STATE
  obtain ⟨t_VALUE, m_VALUE⟩ := T.m_VALUE
  obtain ⟨t_WALK, m_WALK⟩ := T.m_WALK
  obtain ⟨t_PASSED, m_PASSED⟩ := T.m_PASSED
  refine F.ok sc_change_register (fun vs H Q E h => ?_) (fun cdv A outer s H vs Q E hr h => ?_)
  · obtain ⟨rfl, _⟩ := h
    rfl
  · obtain ⟨rfl, q⟩ := h
    have hz : sizeLine = 16777216 := rfl
    refine ⟨_, (pss_one (ps_ret (pe_lst (pa_cons (pe_tup (pa_cons pe_str (pa_cons pe_str pa_nil))) (pa_cons (pe_tup (pa_cons pe_str (pa_cons (pe_glob (v := .int 3) (by rfl) m_TARGET ⟨_, rfl⟩) (pa_cons pe_str pa_nil)))) (pa_cons (pe_tup (pa_cons pe_str (pa_cons (pe_glob (v := .int 0) (by rfl) m_STATE ⟨_, rfl⟩) (pa_cons (pe_glob (v := .int 0) (by rfl) m_STATE ⟨_, rfl⟩) pa_nil)))) (pa_cons (pe_tup (pa_cons pe_str (pa_cons (pe_glob (v := .int 0) (by rfl) m_STATE ⟨_, rfl⟩) (pa_cons (pe_glob (v := .int 4) (by rfl) m_VALUE ⟨_, rfl⟩) (pa_cons (pe_glob (v := .int 0) (by rfl) m_STATE ⟨_, rfl⟩) pa_nil))))) (pa_cons (pe_tup (pa_cons pe_str (pa_cons (pe_glob (v := .int 0) (by rfl) m_STATE ⟨_, rfl⟩) (pa_cons pe_str pa_nil)))) (pa_cons (pe_tup (pa_cons pe_str (pa_cons pe_str pa_nil))) (pa_cons (pe_tup (pa_cons pe_str (pa_cons (pe_glob (v := .int 1) (by rfl) m_WALK ⟨_, rfl⟩) (pa_cons (pe_glob (v := .int 0) (by rfl) m_STATE ⟨_, rfl⟩) pa_nil)))) (pa_cons (pe_tup (pa_cons pe_str (pa_cons (pe_glob (v := .int 2) (by rfl) m_PASSED ⟨_, rfl⟩) (pa_cons (pe_glob (v := .int 1) (by rfl) m_WALK ⟨_, rfl⟩) (pa_cons (pe_glob (v := .int 2) (by rfl) m_PASSED ⟨_, rfl⟩) pa_nil))))) (pa_cons (pe_tup (pa_cons pe_str (pa_cons (pe_glob (v := .int 0) (by rfl) m_STATE ⟨_, rfl⟩) (pa_cons (pe_glob (v := .int 0) (by rfl) m_STATE ⟨_, rfl⟩) pa_nil)))) (pa_cons (pe_tup (pa_cons pe_str (pa_cons (pe_glob (v := .int 3) (by rfl) m_TARGET ⟨_, rfl⟩) (pa_cons (pe_glob (v := .int 3) (by rfl) m_TARGET ⟨_, rfl⟩) pa_nil)))) (pa_cons (pe_tup (pa_cons pe_str (pa_cons (pe_glob (v := .int 3) (by rfl) m_TARGET ⟨_, rfl⟩) (pa_cons pe_str pa_nil)))) (pa_cons (pe_tup (pa_cons pe_str (pa_cons (pe_glob (v := .int 0) (by rfl) m_STATE ⟨_, rfl⟩) (pa_cons (pe_glob (v := .int 0) (by rfl) m_STATE ⟨_, rfl⟩) pa_nil)))) (pa_cons (pe_tup (pa_cons pe_str (pa_cons (pe_glob (v := .int 0) (by rfl) m_STATE ⟨_, rfl⟩) (pa_cons (pe_glob (v := .int 4) (by rfl) m_VALUE ⟨_, rfl⟩) (pa_cons (pe_glob (v := .int 0) (by rfl) m_STATE ⟨_, rfl⟩) pa_nil))))) (pa_cons (pe_tup (pa_cons pe_str (pa_cons pe_str pa_nil))) (pa_cons (pe_tup (pa_cons pe_str (pa_cons (pe_glob (v := .int 1) (by rfl) m_WALK ⟨_, rfl⟩) (pa_cons (pe_glob (v := .int 2) (by rfl) m_PASSED ⟨_, rfl⟩) pa_nil)))) (pa_cons (pe_tup (pa_cons pe_str (pa_cons (pe_glob (v := .int 0) (by rfl) m_STATE ⟨_, rfl⟩) (pa_cons (pe_glob (v := .int 1) (by rfl) m_WALK ⟨_, rfl⟩) (pa_cons (pe_glob (v := .int 0) (by rfl) m_STATE ⟨_, rfl⟩) pa_nil))))) (pa_cons (pe_tup (pa_cons pe_str (pa_cons (pe_glob (v := .int 2) (by rfl) m_PASSED ⟨_, rfl⟩) (pa_cons (pe_glob (v := .int 2) (by rfl) m_PASSED ⟨_, rfl⟩) pa_nil)))) (pa_cons (pe_tup (pa_cons pe_str (pa_cons (pe_glob (v := .int 2) (by rfl) m_PASSED ⟨_, rfl⟩) (pa_cons pe_str pa_nil)))) pa_nil))))))))))))))))))))), ?_⟩
    refine ⟨(by show 2 ≤ sizeLine; omega), fun T0 n0 => ?_⟩
    have u0 := Same.upd (o := .tup [V.str (Str.ofString "mark"), V.str (Str.ofString "change")]) n0
    have L0 : Lns (upd H T0 (.tup [V.str (Str.ofString "mark"), V.str (Str.ofString "change")])) _ _ := ln_put (.mark "change") ((Paired.nil : Lns H [] [])) n0
    generalize upd H T0 (.tup [V.str (Str.ofString "mark"), V.str (Str.ofString "change")]) = X0 at u0 L0 ⊢
    refine ⟨(by show 3 ≤ sizeLine; omega), fun T1 n1 => ?_⟩
    have u1 := Same.upd (o := .tup [V.str (Str.ofString "jump"), V.int 3, V.str (Str.ofString "down")]) n1
    have L1 : Lns (upd X0 T1 (.tup [V.str (Str.ofString "jump"), V.int 3, V.str (Str.ofString "down")])) _ _ := ln_put (.jmp 3 "down") (L0) n1
    generalize upd X0 T1 (.tup [V.str (Str.ofString "jump"), V.int 3, V.str (Str.ofString "down")]) = X1 at u1 L1 ⊢
    refine ⟨(by show 3 ≤ sizeLine; omega), fun T2 n2 => ?_⟩
    have u2 := Same.upd (o := .tup [V.str (Str.ofString "tail"), V.int 0, V.int 0]) n2
    have L2 : Lns (upd X1 T2 (.tup [V.str (Str.ofString "tail"), V.int 0, V.int 0])) _ _ := ln_put (.ins (.tail 0 0)) (L1) n2
    generalize upd X1 T2 (.tup [V.str (Str.ofString "tail"), V.int 0, V.int 0]) = X2 at u2 L2 ⊢
    refine ⟨(by show 4 ≤ sizeLine; omega), fun T3 n3 => ?_⟩
    have u3 := Same.upd (o := .tup [V.str (Str.ofString "cons"), V.int 0, V.int 4, V.int 0]) n3
    have L3 : Lns (upd X2 T3 (.tup [V.str (Str.ofString "cons"), V.int 0, V.int 4, V.int 0])) _ _ := ln_put (.ins (.cons 0 4 0)) (L2) n3
    generalize upd X2 T3 (.tup [V.str (Str.ofString "cons"), V.int 0, V.int 4, V.int 0]) = X3 at u3 L3 ⊢
    refine ⟨(by show 3 ≤ sizeLine; omega), fun T4 n4 => ?_⟩
    have u4 := Same.upd (o := .tup [V.str (Str.ofString "jump"), V.int 0, V.str (Str.ofString "forward")]) n4
    have L4 : Lns (upd X3 T4 (.tup [V.str (Str.ofString "jump"), V.int 0, V.str (Str.ofString "forward")])) _ _ := ln_put (.jmp 0 "forward") (L3) n4
    generalize upd X3 T4 (.tup [V.str (Str.ofString "jump"), V.int 0, V.str (Str.ofString "forward")]) = X4 at u4 L4 ⊢
    refine ⟨(by show 2 ≤ sizeLine; omega), fun T5 n5 => ?_⟩
    have u5 := Same.upd (o := .tup [V.str (Str.ofString "mark"), V.str (Str.ofString "down")]) n5
    have L5 : Lns (upd X4 T5 (.tup [V.str (Str.ofString "mark"), V.str (Str.ofString "down")])) _ _ := ln_put (.mark "down") (L4) n5
    generalize upd X4 T5 (.tup [V.str (Str.ofString "mark"), V.str (Str.ofString "down")]) = X5 at u5 L5 ⊢
    refine ⟨(by show 3 ≤ sizeLine; omega), fun T6 n6 => ?_⟩
    have u6 := Same.upd (o := .tup [V.str (Str.ofString "head"), V.int 1, V.int 0]) n6
    have L6 : Lns (upd X5 T6 (.tup [V.str (Str.ofString "head"), V.int 1, V.int 0])) _ _ := ln_put (.ins (.head 1 0)) (L5) n6
    generalize upd X5 T6 (.tup [V.str (Str.ofString "head"), V.int 1, V.int 0]) = X6 at u6 L6 ⊢
    refine ⟨(by show 4 ≤ sizeLine; omega), fun T7 n7 => ?_⟩
    have u7 := Same.upd (o := .tup [V.str (Str.ofString "cons"), V.int 2, V.int 1, V.int 2]) n7
    have L7 : Lns (upd X6 T7 (.tup [V.str (Str.ofString "cons"), V.int 2, V.int 1, V.int 2])) _ _ := ln_put (.ins (.cons 2 1 2)) (L6) n7
    generalize upd X6 T7 (.tup [V.str (Str.ofString "cons"), V.int 2, V.int 1, V.int 2]) = X7 at u7 L7 ⊢
    refine ⟨(by show 3 ≤ sizeLine; omega), fun T8 n8 => ?_⟩
    have u8 := Same.upd (o := .tup [V.str (Str.ofString "tail"), V.int 0, V.int 0]) n8
    have L8 : Lns (upd X7 T8 (.tup [V.str (Str.ofString "tail"), V.int 0, V.int 0])) _ _ := ln_put (.ins (.tail 0 0)) (L7) n8
    generalize upd X7 T8 (.tup [V.str (Str.ofString "tail"), V.int 0, V.int 0]) = X8 at u8 L8 ⊢
    refine ⟨(by show 3 ≤ sizeLine; omega), fun T9 n9 => ?_⟩
    have u9 := Same.upd (o := .tup [V.str (Str.ofString "tail"), V.int 3, V.int 3]) n9
    have L9 : Lns (upd X8 T9 (.tup [V.str (Str.ofString "tail"), V.int 3, V.int 3])) _ _ := ln_put (.ins (.tail 3 3)) (L8) n9
    generalize upd X8 T9 (.tup [V.str (Str.ofString "tail"), V.int 3, V.int 3]) = X9 at u9 L9 ⊢
    refine ⟨(by show 3 ≤ sizeLine; omega), fun T10 n10 => ?_⟩
    have u10 := Same.upd (o := .tup [V.str (Str.ofString "jump"), V.int 3, V.str (Str.ofString "down")]) n10
    have L10 : Lns (upd X9 T10 (.tup [V.str (Str.ofString "jump"), V.int 3, V.str (Str.ofString "down")])) _ _ := ln_put (.jmp 3 "down") (L9) n10
    generalize upd X9 T10 (.tup [V.str (Str.ofString "jump"), V.int 3, V.str (Str.ofString "down")]) = X10 at u10 L10 ⊢
    refine ⟨(by show 3 ≤ sizeLine; omega), fun T11 n11 => ?_⟩
    have u11 := Same.upd (o := .tup [V.str (Str.ofString "tail"), V.int 0, V.int 0]) n11
    have L11 : Lns (upd X10 T11 (.tup [V.str (Str.ofString "tail"), V.int 0, V.int 0])) _ _ := ln_put (.ins (.tail 0 0)) (L10) n11
    generalize upd X10 T11 (.tup [V.str (Str.ofString "tail"), V.int 0, V.int 0]) = X11 at u11 L11 ⊢
    refine ⟨(by show 4 ≤ sizeLine; omega), fun T12 n12 => ?_⟩
    have u12 := Same.upd (o := .tup [V.str (Str.ofString "cons"), V.int 0, V.int 4, V.int 0]) n12
    have L12 : Lns (upd X11 T12 (.tup [V.str (Str.ofString "cons"), V.int 0, V.int 4, V.int 0])) _ _ := ln_put (.ins (.cons 0 4 0)) (L11) n12
    generalize upd X11 T12 (.tup [V.str (Str.ofString "cons"), V.int 0, V.int 4, V.int 0]) = X12 at u12 L12 ⊢
    refine ⟨(by show 2 ≤ sizeLine; omega), fun T13 n13 => ?_⟩
    have u13 := Same.upd (o := .tup [V.str (Str.ofString "mark"), V.str (Str.ofString "up")]) n13
    have L13 : Lns (upd X12 T13 (.tup [V.str (Str.ofString "mark"), V.str (Str.ofString "up")])) _ _ := ln_put (.mark "up") (L12) n13
    generalize upd X12 T13 (.tup [V.str (Str.ofString "mark"), V.str (Str.ofString "up")]) = X13 at u13 L13 ⊢
    refine ⟨(by show 3 ≤ sizeLine; omega), fun T14 n14 => ?_⟩
    have u14 := Same.upd (o := .tup [V.str (Str.ofString "head"), V.int 1, V.int 2]) n14
    have L14 : Lns (upd X13 T14 (.tup [V.str (Str.ofString "head"), V.int 1, V.int 2])) _ _ := ln_put (.ins (.head 1 2)) (L13) n14
    generalize upd X13 T14 (.tup [V.str (Str.ofString "head"), V.int 1, V.int 2]) = X14 at u14 L14 ⊢
    refine ⟨(by show 4 ≤ sizeLine; omega), fun T15 n15 => ?_⟩
    have u15 := Same.upd (o := .tup [V.str (Str.ofString "cons"), V.int 0, V.int 1, V.int 0]) n15
    have L15 : Lns (upd X14 T15 (.tup [V.str (Str.ofString "cons"), V.int 0, V.int 1, V.int 0])) _ _ := ln_put (.ins (.cons 0 1 0)) (L14) n15
    generalize upd X14 T15 (.tup [V.str (Str.ofString "cons"), V.int 0, V.int 1, V.int 0]) = X15 at u15 L15 ⊢
    refine ⟨(by show 3 ≤ sizeLine; omega), fun T16 n16 => ?_⟩
    have u16 := Same.upd (o := .tup [V.str (Str.ofString "tail"), V.int 2, V.int 2]) n16
    have L16 : Lns (upd X15 T16 (.tup [V.str (Str.ofString "tail"), V.int 2, V.int 2])) _ _ := ln_put (.ins (.tail 2 2)) (L15) n16
    generalize upd X15 T16 (.tup [V.str (Str.ofString "tail"), V.int 2, V.int 2]) = X16 at u16 L16 ⊢
    refine ⟨(by show 3 ≤ sizeLine; omega), fun T17 n17 => ?_⟩
    have u17 := Same.upd (o := .tup [V.str (Str.ofString "jump"), V.int 2, V.str (Str.ofString "up")]) n17
    have L17 : Lns (upd X16 T17 (.tup [V.str (Str.ofString "jump"), V.int 2, V.str (Str.ofString "up")])) _ _ := ln_put (.jmp 2 "up") (L16) n17
    generalize upd X16 T17 (.tup [V.str (Str.ofString "jump"), V.int 2, V.str (Str.ofString "up")]) = X17 at u17 L17 ⊢
    exact ⟨(by show 18 ≤ sizeLine; omega), fun p n => q p _ (((((((((((((((((((u0).trans u1).trans u2).trans u3).trans u4).trans u5).trans u6).trans u7).trans u8).trans u9).trans u10).trans u11).trans u12).trans u13).trans u14).trans u15).trans u16).trans u17).trans (Same.upd n)) (ln_end L17 n)⟩
abbrev s_look_up : Stmt := topS 42
abbrev nm_look_up : List Str := ["place"]
theorem sc_look_up : FnScope nm_look_up ["place"] (defScope s_look_up) := ⟨rfl, rfl, rfl, by decide +kernel, rfl, by decide +kernel, by decide +kernel⟩
def sp_look_up (K : PySem.W.Frag) (cl : Cn → Addr) : Sp := fun vs H Q E => ∃ r : Nat, vs = [.int r] ∧ ∀ p H', Same H H' → LnsAt H' p (lkL r) → Q (.ref p) H'
theorem ok_look_up (T : Txt K mg cl w) {f : Addr} {fd : FuncData} (F : Fun K "_look_up" "_look_up" s_look_up f fd) : FnOk P w K mg base CX0 1 f fd ["place"] (sp_look_up K cl) := by
  obtain ⟨t_WALK, m_WALK⟩ := T.m_WALK
  obtain ⟨t_STATE, m_STATE⟩ := T.m_STATE
  refine F.ok sc_look_up (fun vs H Q E h => ?_) (fun cdv A outer s H vs Q E hr h => ?_)
  · obtain ⟨r, rfl, _⟩ := h
    rfl
  · obtain ⟨r, rfl, q⟩ := h
    have hz : sizeLine = 16777216 := rfl
    refine ⟨_, (pss_one (ps_ret (pe_lst (pa_cons (pe_tup (pa_cons pe_str (pa_cons (pe_glob (v := .int 1) (by rfl) m_WALK ⟨_, rfl⟩) (pa_cons (pe_glob (v := .int 0) (by rfl) m_STATE ⟨_, rfl⟩) pa_nil)))) (pa_cons (pe_tup (pa_cons pe_str (pa_cons (pv 0) (pa_cons pe_int pa_nil)))) (pa_cons (pe_tup (pa_cons pe_str (pa_cons (pe_glob (v := .int 0) (by rfl) m_STATE ⟨_, rfl⟩) (pa_cons pe_int pa_nil)))) (pa_cons (pe_tup (pa_cons pe_str (pa_cons (pe_glob (v := .int 1) (by rfl) m_WALK ⟨_, rfl⟩) (pa_cons (pe_glob (v := .int 1) (by rfl) m_WALK ⟨_, rfl⟩) pa_nil)))) (pa_cons (pe_tup (pa_cons pe_str (pa_cons (pv 0) (pa_cons (pv 0) pa_nil)))) (pa_cons (pe_tup (pa_cons pe_str (pa_cons (pv 0) (pa_cons (pe_un un_neg pe_int) pa_nil)))) (pa_cons (pe_tup (pa_cons pe_str (pa_cons (pv 0) (pa_cons (pe_glob (v := .int 1) (by rfl) m_WALK ⟨_, rfl⟩) pa_nil)))) pa_nil)))))))))), ?_⟩
    refine ⟨(by show 3 ≤ sizeLine; omega), fun T0 n0 => ?_⟩
    have u0 := Same.upd (o := .tup [V.str (Str.ofString "move"), V.int 1, V.int 0]) n0
    have L0 : Lns (upd H T0 (.tup [V.str (Str.ofString "move"), V.int 1, V.int 0])) _ _ := ln_put (.ins (.move 1 0)) ((Paired.nil : Lns H [] [])) n0
    generalize upd H T0 (.tup [V.str (Str.ofString "move"), V.int 1, V.int 0]) = X0 at u0 L0 ⊢
    refine ⟨_, rfl, (by show 3 ≤ sizeLine; omega), fun T1 n1 => ?_⟩
    have u1 := Same.upd (o := .tup [V.str (Str.ofString "jump"), V.int (r : Nat), V.int 2]) n1
    have L1 : Lns (upd X0 T1 (.tup [V.str (Str.ofString "jump"), V.int (r : Nat), V.int 2])) _ _ := ln_put (.ins (.jump r 2)) (L0) n1
    generalize upd X0 T1 (.tup [V.str (Str.ofString "jump"), V.int (r : Nat), V.int 2]) = X1 at u1 L1 ⊢
    refine ⟨(by show 3 ≤ sizeLine; omega), fun T2 n2 => ?_⟩
    have u2 := Same.upd (o := .tup [V.str (Str.ofString "jump"), V.int 0, V.int 4]) n2
    have L2 : Lns (upd X1 T2 (.tup [V.str (Str.ofString "jump"), V.int 0, V.int 4])) _ _ := ln_put (.ins (.jump 0 4)) (L1) n2
    generalize upd X1 T2 (.tup [V.str (Str.ofString "jump"), V.int 0, V.int 4]) = X2 at u2 L2 ⊢
    refine ⟨(by show 3 ≤ sizeLine; omega), fun T3 n3 => ?_⟩
    have u3 := Same.upd (o := .tup [V.str (Str.ofString "tail"), V.int 1, V.int 1]) n3
    have L3 : Lns (upd X2 T3 (.tup [V.str (Str.ofString "tail"), V.int 1, V.int 1])) _ _ := ln_put (.ins (.tail 1 1)) (L2) n3
    generalize upd X2 T3 (.tup [V.str (Str.ofString "tail"), V.int 1, V.int 1]) = X3 at u3 L3 ⊢
    refine ⟨_, rfl, _, rfl, (by show 3 ≤ sizeLine; omega), fun T4 n4 => ?_⟩
    have u4 := Same.upd (o := .tup [V.str (Str.ofString "tail"), V.int (r : Nat), V.int (r : Nat)]) n4
    have L4 : Lns (upd X3 T4 (.tup [V.str (Str.ofString "tail"), V.int (r : Nat), V.int (r : Nat)])) _ _ := ln_put (.ins (.tail r r)) (L3) n4
    generalize upd X3 T4 (.tup [V.str (Str.ofString "tail"), V.int (r : Nat), V.int (r : Nat)]) = X4 at u4 L4 ⊢
    refine ⟨_, rfl, _, rfl, (by show 3 ≤ sizeLine; omega), fun T5 n5 => ?_⟩
    have u5 := Same.upd (o := .tup [V.str (Str.ofString "jump"), V.int (r : Nat), V.int (-2)]) n5
    have L5 : Lns (upd X4 T5 (.tup [V.str (Str.ofString "jump"), V.int (r : Nat), V.int (-2)])) _ _ := ln_put (.ins (.jump r (-2))) (L4) n5
    generalize upd X4 T5 (.tup [V.str (Str.ofString "jump"), V.int (r : Nat), V.int (-2)]) = X5 at u5 L5 ⊢
    refine ⟨_, rfl, (by show 3 ≤ sizeLine; omega), fun T6 n6 => ?_⟩
    have u6 := Same.upd (o := .tup [V.str (Str.ofString "head"), V.int (r : Nat), V.int 1]) n6
    have L6 : Lns (upd X5 T6 (.tup [V.str (Str.ofString "head"), V.int (r : Nat), V.int 1])) _ _ := ln_put (.ins (.head r 1)) (L5) n6
    generalize upd X5 T6 (.tup [V.str (Str.ofString "head"), V.int (r : Nat), V.int 1]) = X6 at u6 L6 ⊢
    exact ⟨(by show 7 ≤ sizeLine; omega), fun p n => q p _ ((((((((u0).trans u1).trans u2).trans u3).trans u4).trans u5).trans u6).trans (Same.upd n)) (ln_end L6 n)⟩
abbrev s_make_jump : Stmt := topS 43
abbrev nm_make_jump : List Str := ["look_up"]
theorem sc_make_jump : FnScope nm_make_jump [] (defScope s_make_jump) := ⟨rfl, rfl, rfl, by decide +kernel, rfl, by decide +kernel, by decide +kernel⟩
def sp_make_jump (K : PySem.W.Frag) (cl : Cn → Addr) : Sp := fun vs H Q E => vs = [] ∧ ∀ p H', Same H H' → LnsAt H' p jmL → Q (.ref p) H'
theorem ok_make_jump (T : Txt K mg cl w) (H_look_up : Has P w K mg base CX0 1 "_look_up" ["place"] (sp_look_up K cl)) {f : Addr} {fd : FuncData} (F : Fun K "_make_jump" "_make_jump" s_make_jump f fd) : FnOk P w K mg base CX0 2 f fd [] (sp_make_jump K cl) := by
  obtain ⟨t_TARGET, m_TARGET⟩ := T.m_TARGET
  obtain ⟨t_STATE, m_STATE⟩ := T.m_STATE
  obtain ⟨t_WALK, m_WALK⟩ := T.m_WALK
  obtain ⟨t_VALUE, m_VALUE⟩ := T.m_VALUE
  obtain ⟨t_WAY, m_WAY⟩ := T.m_WAY
  obtain ⟨t_BEHIND, m_BEHIND⟩ := T.m_BEHIND
  obtain ⟨t_AHEAD, m_AHEAD⟩ := T.m_AHEAD
  obtain ⟨f_look_up, d_look_up, G_look_up, g_look_up, k_look_up, b_look_up⟩ := H_look_up.ex
  refine F.ok sc_make_jump (fun vs H Q E h => ?_) (fun cdv A outer s H vs Q E hr h => ?_)
  · obtain ⟨rfl, _⟩ := h
    rfl
  · obtain ⟨rfl, qq⟩ := h
    have hz : sizeLine = 16777216 := rfl
    refine ⟨_, (pss_cons (ps_set (i := 0) sc_make_jump.nd rfl (Or.inl rfl) (pe_call G_look_up (hr.mono (by decide)) (by rfl) g_look_up k_look_up b_look_up .nil pass0 (pa_cons (pe_glob (v := .int 3) (by rfl) m_TARGET ⟨_, rfl⟩) pa_nil)))
      (pss_one (ps_ret (pe_lst (pa_cons (pe_tup (pa_cons pe_str (pa_cons pe_str pa_nil))) (StX.pa_star (pv 0) (pa_cons (pe_tup (pa_cons pe_str (pa_cons (pe_glob (v := .int 3) (by rfl) m_TARGET ⟨_, rfl⟩) (pa_cons pe_str pa_nil)))) (pa_cons (pe_tup (pa_cons pe_str (pa_cons (pe_glob (v := .int 0) (by rfl) m_STATE ⟨_, rfl⟩) (pa_cons pe_str pa_nil)))) (pa_cons (pe_tup (pa_cons pe_str (pa_cons pe_str pa_nil))) (pa_cons (pe_tup (pa_cons pe_str (pa_cons (pe_glob (v := .int 1) (by rfl) m_WALK ⟨_, rfl⟩) (pa_cons (pe_glob (v := .int 4) (by rfl) m_VALUE ⟨_, rfl⟩) pa_nil)))) (pa_cons (pe_tup (pa_cons pe_str (pa_cons (pe_glob (v := .int 8) (by rfl) m_WAY ⟨_, rfl⟩) (pa_cons (pe_glob (v := .int 4) (by rfl) m_VALUE ⟨_, rfl⟩) pa_nil)))) (pa_cons (pe_tup (pa_cons pe_str (pa_cons (pe_glob (v := .int 1) (by rfl) m_WALK ⟨_, rfl⟩) (pa_cons pe_str pa_nil)))) (pa_cons (pe_tup (pa_cons pe_str (pa_cons (pe_glob (v := .int 8) (by rfl) m_WAY ⟨_, rfl⟩) (pa_cons pe_str pa_nil)))) (pa_cons (pe_tup (pa_cons pe_str (pa_cons (pe_glob (v := .int 0) (by rfl) m_STATE ⟨_, rfl⟩) (pa_cons pe_str pa_nil)))) (pa_cons (pe_tup (pa_cons pe_str (pa_cons pe_str pa_nil))) (pa_cons (pe_tup (pa_cons pe_str (pa_cons (pe_glob (v := .int 1) (by rfl) m_WALK ⟨_, rfl⟩) (pa_cons (pe_glob (v := .int 7) (by rfl) m_BEHIND ⟨_, rfl⟩) pa_nil)))) (pa_cons (pe_tup (pa_cons pe_str (pa_cons (pe_glob (v := .int 6) (by rfl) m_AHEAD ⟨_, rfl⟩) (pa_cons (pe_glob (v := .int 1) (by rfl) m_WALK ⟨_, rfl⟩) (pa_cons (pe_glob (v := .int 6) (by rfl) m_AHEAD ⟨_, rfl⟩) pa_nil))))) (pa_cons (pe_tup (pa_cons pe_str (pa_cons (pe_glob (v := .int 7) (by rfl) m_BEHIND ⟨_, rfl⟩) (pa_cons (pe_glob (v := .int 7) (by rfl) m_BEHIND ⟨_, rfl⟩) pa_nil)))) (pa_cons (pe_tup (pa_cons pe_str (pa_cons (pe_glob (v := .int 8) (by rfl) m_WAY ⟨_, rfl⟩) (pa_cons (pe_glob (v := .int 8) (by rfl) m_WAY ⟨_, rfl⟩) pa_nil)))) (pa_cons (pe_tup (pa_cons pe_str (pa_cons (pe_glob (v := .int 8) (by rfl) m_WAY ⟨_, rfl⟩) (pa_cons pe_str pa_nil)))) (pa_cons (pe_tup (pa_cons pe_str (pa_cons (pe_glob (v := .int 0) (by rfl) m_STATE ⟨_, rfl⟩) (pa_cons pe_str pa_nil)))) pa_nil))))))))))))))))))))), ?_⟩
    refine ⟨3, rfl, fun q H1 s1 hq => ?_⟩
    refine ⟨(by show 2 ≤ sizeLine; omega), fun T0 n0 => ?_⟩
    have u0 := Same.upd (o := .tup [V.str (Str.ofString "mark"), V.str (Str.ofString "jump")]) n0
    have L0 : Lns (upd H1 T0 (.tup [V.str (Str.ofString "mark"), V.str (Str.ofString "jump")])) _ _ := ln_put (.mark "jump") ((Paired.nil : Lns H1 [] [])) n0
    generalize upd H1 T0 (.tup [V.str (Str.ofString "mark"), V.str (Str.ofString "jump")]) = X0 at u0 L0 ⊢
    obtain ⟨xs, hx1, hx2⟩ := hq.same u0
    have hxl : xs.length = 7 := Paired.len hx2
    refine ⟨_, rfl, _, _, rfl, .inr (SqL.of hx1), ?_⟩
    refine ⟨(by show 3 ≤ sizeLine; omega), fun T1 n1 => ?_⟩
    have u1 := Same.upd (o := .tup [V.str (Str.ofString "jump"), V.int 3, V.str (Str.ofString "made")]) n1
    have L1 : Lns (upd X0 T1 (.tup [V.str (Str.ofString "jump"), V.int 3, V.str (Str.ofString "made")])) _ _ := ln_put (.jmp 3 "made") (lns_star L0 hx2) n1
    generalize upd X0 T1 (.tup [V.str (Str.ofString "jump"), V.int 3, V.str (Str.ofString "made")]) = X1 at u1 L1 ⊢
    refine ⟨(by show 3 ≤ sizeLine; omega), fun T2 n2 => ?_⟩
    have u2 := Same.upd (o := .tup [V.str (Str.ofString "jump"), V.int 0, V.str (Str.ofString "forward")]) n2
    have L2 : Lns (upd X1 T2 (.tup [V.str (Str.ofString "jump"), V.int 0, V.str (Str.ofString "forward")])) _ _ := ln_put (.jmp 0 "forward") (L1) n2
    generalize upd X1 T2 (.tup [V.str (Str.ofString "jump"), V.int 0, V.str (Str.ofString "forward")]) = X2 at u2 L2 ⊢
    refine ⟨(by show 2 ≤ sizeLine; omega), fun T3 n3 => ?_⟩
    have u3 := Same.upd (o := .tup [V.str (Str.ofString "mark"), V.str (Str.ofString "made")]) n3
    have L3 : Lns (upd X2 T3 (.tup [V.str (Str.ofString "mark"), V.str (Str.ofString "made")])) _ _ := ln_put (.mark "made") (L2) n3
    generalize upd X2 T3 (.tup [V.str (Str.ofString "mark"), V.str (Str.ofString "made")]) = X3 at u3 L3 ⊢
    refine ⟨(by show 3 ≤ sizeLine; omega), fun T4 n4 => ?_⟩
    have u4 := Same.upd (o := .tup [V.str (Str.ofString "head"), V.int 1, V.int 4]) n4
    have L4 : Lns (upd X3 T4 (.tup [V.str (Str.ofString "head"), V.int 1, V.int 4])) _ _ := ln_put (.ins (.head 1 4)) (L3) n4
    generalize upd X3 T4 (.tup [V.str (Str.ofString "head"), V.int 1, V.int 4]) = X4 at u4 L4 ⊢
    refine ⟨(by show 3 ≤ sizeLine; omega), fun T5 n5 => ?_⟩
    have u5 := Same.upd (o := .tup [V.str (Str.ofString "tail"), V.int 8, V.int 4]) n5
    have L5 : Lns (upd X4 T5 (.tup [V.str (Str.ofString "tail"), V.int 8, V.int 4])) _ _ := ln_put (.ins (.tail 8 4)) (L4) n5
    generalize upd X4 T5 (.tup [V.str (Str.ofString "tail"), V.int 8, V.int 4]) = X5 at u5 L5 ⊢
    refine ⟨(by show 3 ≤ sizeLine; omega), fun T6 n6 => ?_⟩
    have u6 := Same.upd (o := .tup [V.str (Str.ofString "jump"), V.int 1, V.str (Str.ofString "back")]) n6
    have L6 : Lns (upd X5 T6 (.tup [V.str (Str.ofString "jump"), V.int 1, V.str (Str.ofString "back")])) _ _ := ln_put (.jmp 1 "back") (L5) n6
    generalize upd X5 T6 (.tup [V.str (Str.ofString "jump"), V.int 1, V.str (Str.ofString "back")]) = X6 at u6 L6 ⊢
    refine ⟨(by show 3 ≤ sizeLine; omega), fun T7 n7 => ?_⟩
    have u7 := Same.upd (o := .tup [V.str (Str.ofString "jump"), V.int 8, V.str (Str.ofString "forward")]) n7
    have L7 : Lns (upd X6 T7 (.tup [V.str (Str.ofString "jump"), V.int 8, V.str (Str.ofString "forward")])) _ _ := ln_put (.jmp 8 "forward") (L6) n7
    generalize upd X6 T7 (.tup [V.str (Str.ofString "jump"), V.int 8, V.str (Str.ofString "forward")]) = X7 at u7 L7 ⊢
    refine ⟨(by show 3 ≤ sizeLine; omega), fun T8 n8 => ?_⟩
    have u8 := Same.upd (o := .tup [V.str (Str.ofString "jump"), V.int 0, V.str (Str.ofString "fetch")]) n8
    have L8 : Lns (upd X7 T8 (.tup [V.str (Str.ofString "jump"), V.int 0, V.str (Str.ofString "fetch")])) _ _ := ln_put (.jmp 0 "fetch") (L7) n8
    generalize upd X7 T8 (.tup [V.str (Str.ofString "jump"), V.int 0, V.str (Str.ofString "fetch")]) = X8 at u8 L8 ⊢
    refine ⟨(by show 2 ≤ sizeLine; omega), fun T9 n9 => ?_⟩
    have u9 := Same.upd (o := .tup [V.str (Str.ofString "mark"), V.str (Str.ofString "back")]) n9
    have L9 : Lns (upd X8 T9 (.tup [V.str (Str.ofString "mark"), V.str (Str.ofString "back")])) _ _ := ln_put (.mark "back") (L8) n9
    generalize upd X8 T9 (.tup [V.str (Str.ofString "mark"), V.str (Str.ofString "back")]) = X9 at u9 L9 ⊢
    refine ⟨(by show 3 ≤ sizeLine; omega), fun T10 n10 => ?_⟩
    have u10 := Same.upd (o := .tup [V.str (Str.ofString "head"), V.int 1, V.int 7]) n10
    have L10 : Lns (upd X9 T10 (.tup [V.str (Str.ofString "head"), V.int 1, V.int 7])) _ _ := ln_put (.ins (.head 1 7)) (L9) n10
    generalize upd X9 T10 (.tup [V.str (Str.ofString "head"), V.int 1, V.int 7]) = X10 at u10 L10 ⊢
    refine ⟨(by show 4 ≤ sizeLine; omega), fun T11 n11 => ?_⟩
    have u11 := Same.upd (o := .tup [V.str (Str.ofString "cons"), V.int 6, V.int 1, V.int 6]) n11
    have L11 : Lns (upd X10 T11 (.tup [V.str (Str.ofString "cons"), V.int 6, V.int 1, V.int 6])) _ _ := ln_put (.ins (.cons 6 1 6)) (L10) n11
    generalize upd X10 T11 (.tup [V.str (Str.ofString "cons"), V.int 6, V.int 1, V.int 6]) = X11 at u11 L11 ⊢
    refine ⟨(by show 3 ≤ sizeLine; omega), fun T12 n12 => ?_⟩
    have u12 := Same.upd (o := .tup [V.str (Str.ofString "tail"), V.int 7, V.int 7]) n12
    have L12 : Lns (upd X11 T12 (.tup [V.str (Str.ofString "tail"), V.int 7, V.int 7])) _ _ := ln_put (.ins (.tail 7 7)) (L11) n12
    generalize upd X11 T12 (.tup [V.str (Str.ofString "tail"), V.int 7, V.int 7]) = X12 at u12 L12 ⊢
    refine ⟨(by show 3 ≤ sizeLine; omega), fun T13 n13 => ?_⟩
    have u13 := Same.upd (o := .tup [V.str (Str.ofString "tail"), V.int 8, V.int 8]) n13
    have L13 : Lns (upd X12 T13 (.tup [V.str (Str.ofString "tail"), V.int 8, V.int 8])) _ _ := ln_put (.ins (.tail 8 8)) (L12) n13
    generalize upd X12 T13 (.tup [V.str (Str.ofString "tail"), V.int 8, V.int 8]) = X13 at u13 L13 ⊢
    refine ⟨(by show 3 ≤ sizeLine; omega), fun T14 n14 => ?_⟩
    have u14 := Same.upd (o := .tup [V.str (Str.ofString "jump"), V.int 8, V.str (Str.ofString "back")]) n14
    have L14 : Lns (upd X13 T14 (.tup [V.str (Str.ofString "jump"), V.int 8, V.str (Str.ofString "back")])) _ _ := ln_put (.jmp 8 "back") (L13) n14
    generalize upd X13 T14 (.tup [V.str (Str.ofString "jump"), V.int 8, V.str (Str.ofString "back")]) = X14 at u14 L14 ⊢
    refine ⟨(by show 3 ≤ sizeLine; omega), fun T15 n15 => ?_⟩
    have u15 := Same.upd (o := .tup [V.str (Str.ofString "jump"), V.int 0, V.str (Str.ofString "fetch")]) n15
    have L15 : Lns (upd X14 T15 (.tup [V.str (Str.ofString "jump"), V.int 0, V.str (Str.ofString "fetch")])) _ _ := ln_put (.jmp 0 "fetch") (L14) n15
    generalize upd X14 T15 (.tup [V.str (Str.ofString "jump"), V.int 0, V.str (Str.ofString "fetch")]) = X15 at u15 L15 ⊢
    refine ⟨(by
      show (xs ++ _).length + 1 ≤ _
      rw [List.length_append, hxl]
      show 7 + 15 + 1 ≤ _
      omega), fun p np => qq p _ ((s1.trans (u0.trans (((((((((((((((u1).trans u2).trans u3).trans u4).trans u5).trans u6).trans u7).trans u8).trans u9).trans u10).trans u11).trans u12).trans u13).trans u14).trans u15))).trans (Same.upd np)) (by
      have e := L15
      simp only [List.append_assoc, List.nil_append, List.cons_append] at e
      exact ln_end e np)⟩
abbrev s_case : Stmt := topS 41
abbrev nm_case : List Str := ["name", "following", "lines"]
theorem sc_case : FnScope nm_case ["name", "following", "lines"] (defScope s_case) := ⟨rfl, rfl, rfl, by decide +kernel, rfl, by decide +kernel, by decide +kernel⟩
def sp_case (K : PySem.W.Frag) (cl : Cn → Addr) : Sp := fun vs H Q E => ∃ (n f : Str) (q : Addr) (ls : List Line), vs = [.str n, .str f, .ref q] ∧ LnsAt H q ls ∧ ls.length ≤ 1000 ∧ ∀ p H', Same H H' → LnsAt H' p (caL n f ls) → Q (.ref p) H'
theorem ok_case (T : Txt K mg cl w) {f : Addr} {fd : FuncData} (F : Fun K "_case" "_case" s_case f fd) : FnOk P w K mg base CX0 1 f fd ["name", "following", "lines"] (sp_case K cl) := by
  obtain ⟨t_WORD, m_WORD⟩ := T.m_WORD
  obtain ⟨t_STATE, m_STATE⟩ := T.m_STATE
  refine F.ok sc_case (fun vs H Q E h => ?_) (fun cdv A outer s H vs Q E hr h => ?_)
  · obtain ⟨n, f, q, ls, rfl, _⟩ := h
    rfl
  · obtain ⟨n, f, q, ls, rfl, hq, hl, qq⟩ := h
    have hz : sizeLine = 16777216 := rfl
    refine ⟨_, (pss_one (ps_ret (pe_lst (pa_cons (pe_tup (pa_cons pe_str (pa_cons (pv 0) pa_nil))) (pa_cons (pe_tup (pa_cons pe_str (pa_cons (pe_glob (v := .int 5) (by rfl) m_WORD ⟨_, rfl⟩) (pa_cons (pe_glob (v := .int 5) (by rfl) m_WORD ⟨_, rfl⟩) pa_nil)))) (pa_cons (pe_tup (pa_cons pe_str (pa_cons (pe_glob (v := .int 5) (by rfl) m_WORD ⟨_, rfl⟩) (pa_cons (pv 1) pa_nil)))) (StX.pa_star (pv 2) (pa_cons (pe_tup (pa_cons pe_str (pa_cons (pe_glob (v := .int 0) (by rfl) m_STATE ⟨_, rfl⟩) (pa_cons pe_str pa_nil)))) pa_nil)))))))), ?_⟩
    refine ⟨_, rfl, (by show 2 ≤ sizeLine; omega), fun T0 n0 => ?_⟩
    have u0 := Same.upd (o := .tup [V.str (Str.ofString "mark"), V.str n]) n0
    have L0 : Lns (upd H T0 (.tup [V.str (Str.ofString "mark"), V.str n])) _ _ := ln_put (.mark n) ((Paired.nil : Lns H [] [])) n0
    generalize upd H T0 (.tup [V.str (Str.ofString "mark"), V.str n]) = X0 at u0 L0 ⊢
    refine ⟨(by show 3 ≤ sizeLine; omega), fun T1 n1 => ?_⟩
    have u1 := Same.upd (o := .tup [V.str (Str.ofString "tail"), V.int 5, V.int 5]) n1
    have L1 : Lns (upd X0 T1 (.tup [V.str (Str.ofString "tail"), V.int 5, V.int 5])) _ _ := ln_put (.ins (.tail 5 5)) (L0) n1
    generalize upd X0 T1 (.tup [V.str (Str.ofString "tail"), V.int 5, V.int 5]) = X1 at u1 L1 ⊢
    refine ⟨_, rfl, (by show 3 ≤ sizeLine; omega), fun T2 n2 => ?_⟩
    have u2 := Same.upd (o := .tup [V.str (Str.ofString "jump"), V.int 5, V.str f]) n2
    have L2 : Lns (upd X1 T2 (.tup [V.str (Str.ofString "jump"), V.int 5, V.str f])) _ _ := ln_put (.jmp 5 f) (L1) n2
    generalize upd X1 T2 (.tup [V.str (Str.ofString "jump"), V.int 5, V.str f]) = X2 at u2 L2 ⊢
    have s2 := (u0.trans u1).trans u2
    obtain ⟨xs, hx1, hx2⟩ := hq.same s2
    have hxl := Paired.len hx2
    refine ⟨_, rfl, _, _, rfl, .inr (SqL.of hx1), ?_⟩
    refine ⟨(by show 3 ≤ sizeLine; omega), fun T3 n3 => ?_⟩
    have u3 := Same.upd (o := .tup [V.str (Str.ofString "jump"), V.int 0, V.str (Str.ofString "change")]) n3
    have L3 : Lns (upd X2 T3 (.tup [V.str (Str.ofString "jump"), V.int 0, V.str (Str.ofString "change")])) _ _ := ln_put (.jmp 0 "change") (lns_star L2 hx2) n3
    generalize upd X2 T3 (.tup [V.str (Str.ofString "jump"), V.int 0, V.str (Str.ofString "change")]) = X3 at u3 L3 ⊢
    refine ⟨(by
      show (xs ++ [V.ref T3]).length + 1 + 1 + 1 ≤ _
      rw [List.length_append, hxl]
      show ls.length + 1 + 1 + 1 + 1 ≤ _
      omega), fun p np => qq p _ ((s2.trans u3).trans (Same.upd np)) (ln_end L3 np)⟩
abbrev s_make_tree : Stmt := topS 40
abbrev nm_make_tree : List Str := ["look_up", "look_up_both"]
theorem sc_make_tree : FnScope nm_make_tree [] (defScope s_make_tree) := ⟨rfl, rfl, rfl, by decide +kernel, rfl, by decide +kernel, by decide +kernel⟩
def sp_make_tree (K : PySem.W.Frag) (cl : Cn → Addr) : Sp := fun vs H Q E => vs = [] ∧ ∀ p H', Same H H' → LnsAt H' p mkL → Q (.ref p) H'
theorem ok_make_tree (T : Txt K mg cl w) (H_look_up : Has P w K mg base CX0 1 "_look_up" ["place"] (sp_look_up K cl)) (H_case : Has P w K mg base CX0 1 "_case" ["name", "following", "lines"] (sp_case K cl)) {f : Addr} {fd : FuncData} (F : Fun K "_make_tree" "_make_tree" s_make_tree f fd) : FnOk P w K mg base CX0 2 f fd [] (sp_make_tree K cl) := by
  obtain ⟨t_VALUE, m_VALUE⟩ := T.m_VALUE
  obtain ⟨t_WORD, m_WORD⟩ := T.m_WORD
  obtain ⟨f_look_up, d_look_up, G_look_up, g_look_up, k_look_up, b_look_up⟩ := H_look_up.ex
  obtain ⟨f_case, d_case, G_case, g_case, k_case, b_case⟩ := H_case.ex
  refine F.ok sc_make_tree (fun vs H Q E h => ?_) (fun cdv A outer s H vs Q E hr h => ?_)
  · obtain ⟨rfl, _⟩ := h
    rfl
  · obtain ⟨rfl, qq⟩ := h
    have hz : sizeLine = 16777216 := rfl
    refine ⟨_, (pss_cons (ps_set (i := 0) sc_make_tree.nd rfl (Or.inl rfl) (pe_call G_look_up (hr.mono (by decide)) (by rfl) g_look_up k_look_up b_look_up .nil pass0 (pa_cons (pe_glob (v := .int 4) (by rfl) m_VALUE ⟨_, rfl⟩) pa_nil)))
      (pss_cons (ps_set (i := 1) sc_make_tree.nd rfl (Or.inl rfl) (pe_op op_cat (pe_op op_cat (pe_lst (pa_cons (pe_tup (pa_cons pe_str (pa_cons (pe_glob (v := .int 5) (by rfl) m_WORD ⟨_, rfl⟩) (pa_cons (pe_glob (v := .int 4) (by rfl) m_VALUE ⟨_, rfl⟩) pa_nil)))) (pa_cons (pe_tup (pa_cons pe_str (pa_cons (pe_glob (v := .int 4) (by rfl) m_VALUE ⟨_, rfl⟩) (pa_cons (pe_glob (v := .int 4) (by rfl) m_VALUE ⟨_, rfl⟩) pa_nil)))) pa_nil))) (pe_call G_look_up (hr.mono (by decide)) (by rfl) g_look_up k_look_up b_look_up .nil pass0 (pa_cons (pe_glob (v := .int 5) (by rfl) m_WORD ⟨_, rfl⟩) pa_nil))) (pv 0)))
      (pss_one (ps_ret (pe_op op_cat (pe_op op_cat (pe_op op_cat (pe_call G_case (hr.mono (by decide)) (by rfl) g_case k_case b_case .nil pass0 (pa_cons pe_str (pa_cons pe_str (pa_cons (pv 0) pa_nil)))) (pe_call G_case (hr.mono (by decide)) (by rfl) g_case k_case b_case .nil pass0 (pa_cons pe_str (pa_cons pe_str (pa_cons (pe_op op_cat (pv 1) (pe_lst (pa_cons (pe_tup (pa_cons pe_str (pa_cons (pe_glob (v := .int 4) (by rfl) m_VALUE ⟨_, rfl⟩) (pa_cons (pe_glob (v := .int 5) (by rfl) m_WORD ⟨_, rfl⟩) (pa_cons (pe_glob (v := .int 4) (by rfl) m_VALUE ⟨_, rfl⟩) pa_nil))))) pa_nil))) pa_nil))))) (pe_call G_case (hr.mono (by decide)) (by rfl) g_case k_case b_case .nil pass0 (pa_cons pe_str (pa_cons pe_str (pa_cons (pe_op op_cat (pv 0) (pe_lst (pa_cons (pe_tup (pa_cons pe_str (pa_cons (pe_glob (v := .int 4) (by rfl) m_VALUE ⟨_, rfl⟩) (pa_cons (pe_glob (v := .int 4) (by rfl) m_VALUE ⟨_, rfl⟩) pa_nil)))) pa_nil))) pa_nil))))) (pe_call G_case (hr.mono (by decide)) (by rfl) g_case k_case b_case .nil pass0 (pa_cons pe_str (pa_cons pe_str (pa_cons (pe_op op_cat (pv 0) (pe_lst (pa_cons (pe_tup (pa_cons pe_str (pa_cons (pe_glob (v := .int 4) (by rfl) m_VALUE ⟨_, rfl⟩) (pa_cons (pe_glob (v := .int 4) (by rfl) m_VALUE ⟨_, rfl⟩) pa_nil)))) pa_nil))) pa_nil))))))))), ?_⟩
    refine ⟨4, rfl, fun a H1 s1 ha => ?_⟩
    -- both
    refine ⟨(by show 3 ≤ sizeLine; omega), fun T0 n0 => ?_⟩
    have u0 := Same.upd (o := .tup [V.str (Str.ofString "head"), V.int 5, V.int 4]) n0
    have L0 : Lns (upd H1 T0 (.tup [V.str (Str.ofString "head"), V.int 5, V.int 4])) _ _ := ln_put (.ins (.head 5 4)) ((Paired.nil : Lns H1 [] [])) n0
    generalize upd H1 T0 (.tup [V.str (Str.ofString "head"), V.int 5, V.int 4]) = X0 at u0 L0 ⊢
    refine ⟨(by show 3 ≤ sizeLine; omega), fun T1 n1 => ?_⟩
    have u1 := Same.upd (o := .tup [V.str (Str.ofString "tail"), V.int 4, V.int 4]) n1
    have L1 : Lns (upd X0 T1 (.tup [V.str (Str.ofString "tail"), V.int 4, V.int 4])) _ _ := ln_put (.ins (.tail 4 4)) (L0) n1
    generalize upd X0 T1 (.tup [V.str (Str.ofString "tail"), V.int 4, V.int 4]) = X1 at u1 L1 ⊢
    refine ⟨(by show 2 ≤ sizeLine; omega), fun b nb => ⟨5, rfl, fun c H2 s2 hc => ?_⟩⟩
    have sb := Same.upd (o := .lst [.ref T0, .ref T1]) nb
    have hb : LnsAt (upd X1 b (.lst [.ref T0, .ref T1])) b [.ins (.head 5 4), .ins (.tail 4 4)] := ln_end L1 nb
    have sx := ((u0.trans u1).trans sb).trans s2
    have hb2 := hb.same s2
    have ha2 := ha.same sx
    have t2 := s1.trans sx
    clear hb sb L0 L1 u0 u1 s2 sx nb
    obtain ⟨xs, ys, x1, x2, x3, x4, x5⟩ := hb2.cat hc
    refine ⟨_, _, _, _, rfl, rfl, x1, x2, (by rw [x3, x4]; show 2 + 7 ≤ _; omega), fun d nd => ?_⟩
    have hd := x5 d nd
    have sd := Same.upd (o := .lst (xs ++ ys)) nd
    generalize upd H2 d (.lst (xs ++ ys)) = H3 at hd sd ⊢
    have ha3 := ha2.same sd
    have t3 := t2.trans sd
    clear x1 x2 x3 x4 x5 hb2 hc ha2 sd t2 nd
    obtain ⟨xs, ys, x1, x2, x3, x4, x5⟩ := hd.cat ha3
    refine ⟨_, rfl, _, _, _, _, rfl, rfl, x1, x2, (by rw [x3, x4]; show 9 + 7 ≤ _; omega), fun e ne => ?_⟩
    have he := x5 e ne
    have se := Same.upd (o := .lst (xs ++ ys)) ne
    generalize upd H3 e (.lst (xs ++ ys)) = H4 at he se ⊢
    have ha4 := ha3.same se
    have t4 := t3.trans se
    clear x1 x2 x3 x4 x5 hd ha3 se t3 ne
    -- move
    refine ⟨_, rfl, _, _, a, lkL 4, rfl, ha4, (by show 7 ≤ 1000; decide), fun r1 H5 s5 hr1 => ?_⟩
    have ha5 := ha4.same s5
    have he5 := he.same s5
    have t5 := t4.trans s5
    clear ha4 he s5 t4
    -- cons
    refine ⟨_, rfl, ?_⟩
    have t := t5
    refine ⟨(by show 4 ≤ sizeLine; omega), fun R1 nR1 => ?_⟩
    have uR1 := Same.upd (o := .tup [V.str (Str.ofString "cons"), V.int 4, V.int 5, V.int 4]) nR1
    have LR1 : Lns (upd H5 R1 (.tup [V.str (Str.ofString "cons"), V.int 4, V.int 5, V.int 4])) _ _ := ln_put (.ins (.cons 4 5 4)) (Paired.nil : Lns H5 [] []) nR1
    generalize upd H5 R1 (.tup [V.str (Str.ofString "cons"), V.int 4, V.int 5, V.int 4]) = Y1 at uR1 LR1 ⊢
    refine ⟨(by show 1 ≤ sizeLine; omega), fun M1 nM1 => ?_⟩
    have uM1 := Same.upd (o := .lst [.ref R1]) nM1
    have hM1 : LnsAt (upd Y1 M1 (.lst [.ref R1])) M1 [.ins (.cons 4 5 4)] := ln_end LR1 nM1
    generalize upd Y1 M1 (.lst [V.ref R1]) = Z1 at uM1 hM1 ⊢
    have ha5 := ha5.same (uR1.trans uM1)
    have he5 := he5.same (uR1.trans uM1)
    have hr1 := hr1.same (uR1.trans uM1)
    have t := t.trans (uR1.trans uM1)
    clear uR1 uM1 LR1
    obtain ⟨xs2, ys2, x1, x2, x3, x4, x5⟩ := he5.cat hM1
    refine ⟨_, _, _, _, rfl, rfl, x1, x2, (by rw [x3, x4]; show 16 + 1 ≤ _; omega), fun D2 nD2 => ?_⟩
    have hD2 := x5 D2 nD2
    have uD2 := Same.upd (o := .lst (xs2 ++ ys2)) nD2
    generalize upd Z1 D2 (.lst (xs2 ++ ys2)) = C2 at hD2 uD2 ⊢
    clear x1 x2 x3 x4 x5 he5 hM1
    have ha5 := ha5.same uD2
    have hr1 := hr1.same uD2
    have t := t.trans uD2
    clear uD2 nD2
    refine ⟨_, _, D2, _, rfl, hD2, (by show 17 ≤ 1000; decide), fun P3 K3 sP3 hP3 => ?_⟩
    have ha5 := ha5.same sP3
    have hr1 := hr1.same sP3
    have t := t.trans sP3
    clear sP3
    obtain ⟨xs4, ys4, x1, x2, x3, x4, x5⟩ := hr1.cat hP3
    refine ⟨_, _, _, _, rfl, rfl, x1, x2, (by rw [x3, x4]; show 11 + 21 ≤ _; omega), fun D4 nD4 => ?_⟩
    have hD4 := x5 D4 nD4
    have uD4 := Same.upd (o := .lst (xs4 ++ ys4)) nD4
    generalize upd K3 D4 (.lst (xs4 ++ ys4)) = C4 at hD4 uD4 ⊢
    clear x1 x2 x3 x4 x5 hr1 hP3
    have ha5 := ha5.same uD4
    have t := t.trans uD4
    clear uD4 nD4
    refine ⟨_, rfl, (by show 3 ≤ sizeLine; omega), fun R5 nR5 => ?_⟩
    have uR5 := Same.upd (o := .tup [V.str (Str.ofString "head"), V.int 4, V.int 4]) nR5
    have LR5 : Lns (upd C4 R5 (.tup [V.str (Str.ofString "head"), V.int 4, V.int 4])) _ _ := ln_put (.ins (.head 4 4)) (Paired.nil : Lns C4 [] []) nR5
    generalize upd C4 R5 (.tup [V.str (Str.ofString "head"), V.int 4, V.int 4]) = Y5 at uR5 LR5 ⊢
    refine ⟨(by show 1 ≤ sizeLine; omega), fun M5 nM5 => ?_⟩
    have uM5 := Same.upd (o := .lst [.ref R5]) nM5
    have hM5 : LnsAt (upd Y5 M5 (.lst [.ref R5])) M5 [.ins (.head 4 4)] := ln_end LR5 nM5
    generalize upd Y5 M5 (.lst [V.ref R5]) = Z5 at uM5 hM5 ⊢
    have ha5 := ha5.same (uR5.trans uM5)
    have hD4 := hD4.same (uR5.trans uM5)
    have t := t.trans (uR5.trans uM5)
    clear uR5 uM5 LR5
    obtain ⟨xs6, ys6, x1, x2, x3, x4, x5⟩ := ha5.cat hM5
    refine ⟨_, _, _, _, rfl, rfl, x1, x2, (by rw [x3, x4]; show 7 + 1 ≤ _; omega), fun D6 nD6 => ?_⟩
    have hD6 := x5 D6 nD6
    have uD6 := Same.upd (o := .lst (xs6 ++ ys6)) nD6
    generalize upd Z5 D6 (.lst (xs6 ++ ys6)) = C6 at hD6 uD6 ⊢
    clear x1 x2 x3 x4 x5  hM5
    have ha5 := ha5.same uD6
    have hD4 := hD4.same uD6
    have t := t.trans uD6
    clear uD6 nD6
    refine ⟨_, _, D6, _, rfl, hD6, (by show 8 ≤ 1000; decide), fun P7 K7 sP7 hP7 => ?_⟩
    have ha5 := ha5.same sP7
    have hD4 := hD4.same sP7
    have t := t.trans sP7
    clear sP7
    obtain ⟨xs8, ys8, x1, x2, x3, x4, x5⟩ := hD4.cat hP7
    refine ⟨_, _, _, _, rfl, rfl, x1, x2, (by rw [x3, x4]; show 32 + 12 ≤ _; omega), fun D8 nD8 => ?_⟩
    have hD8 := x5 D8 nD8
    have uD8 := Same.upd (o := .lst (xs8 ++ ys8)) nD8
    generalize upd K7 D8 (.lst (xs8 ++ ys8)) = C8 at hD8 uD8 ⊢
    clear x1 x2 x3 x4 x5 hD4 hP7
    have ha5 := ha5.same uD8
    have t := t.trans uD8
    clear uD8 nD8
    refine ⟨_, rfl, (by show 3 ≤ sizeLine; omega), fun R9 nR9 => ?_⟩
    have uR9 := Same.upd (o := .tup [V.str (Str.ofString "tail"), V.int 4, V.int 4]) nR9
    have LR9 : Lns (upd C8 R9 (.tup [V.str (Str.ofString "tail"), V.int 4, V.int 4])) _ _ := ln_put (.ins (.tail 4 4)) (Paired.nil : Lns C8 [] []) nR9
    generalize upd C8 R9 (.tup [V.str (Str.ofString "tail"), V.int 4, V.int 4]) = Y9 at uR9 LR9 ⊢
    refine ⟨(by show 1 ≤ sizeLine; omega), fun M9 nM9 => ?_⟩
    have uM9 := Same.upd (o := .lst [.ref R9]) nM9
    have hM9 : LnsAt (upd Y9 M9 (.lst [.ref R9])) M9 [.ins (.tail 4 4)] := ln_end LR9 nM9
    generalize upd Y9 M9 (.lst [V.ref R9]) = Z9 at uM9 hM9 ⊢
    have ha5 := ha5.same (uR9.trans uM9)
    have hD8 := hD8.same (uR9.trans uM9)
    have t := t.trans (uR9.trans uM9)
    clear uR9 uM9 LR9
    obtain ⟨xs10, ys10, x1, x2, x3, x4, x5⟩ := ha5.cat hM9
    refine ⟨_, _, _, _, rfl, rfl, x1, x2, (by rw [x3, x4]; show 7 + 1 ≤ _; omega), fun D10 nD10 => ?_⟩
    have hD10 := x5 D10 nD10
    have uD10 := Same.upd (o := .lst (xs10 ++ ys10)) nD10
    generalize upd Z9 D10 (.lst (xs10 ++ ys10)) = C10 at hD10 uD10 ⊢
    clear x1 x2 x3 x4 x5  hM9
    have ha5 := ha5.same uD10
    have hD8 := hD8.same uD10
    have t := t.trans uD10
    clear uD10 nD10
    refine ⟨_, _, D10, _, rfl, hD10, (by show 8 ≤ 1000; decide), fun P11 K11 sP11 hP11 => ?_⟩
    have ha5 := ha5.same sP11
    have hD8 := hD8.same sP11
    have t := t.trans sP11
    clear sP11
    obtain ⟨xs12, ys12, x1, x2, x3, x4, x5⟩ := hD8.cat hP11
    refine ⟨_, _, _, _, rfl, rfl, x1, x2, (by rw [x3, x4]; show 44 + 12 ≤ _; omega), fun D12 nD12 => ?_⟩
    have hD12 := x5 D12 nD12
    have uD12 := Same.upd (o := .lst (xs12 ++ ys12)) nD12
    generalize upd K11 D12 (.lst (xs12 ++ ys12)) = C12 at hD12 uD12 ⊢
    clear x1 x2 x3 x4 x5 hD8 hP11
    have ha5 := ha5.same uD12
    have t := t.trans uD12
    clear uD12 nD12
    exact qq _ _ t hD12
abbrev s_begin : Stmt := topS 38
abbrev nm_begin : List Str := []
theorem sc_begin : FnScope nm_begin [] (defScope s_begin) := ⟨rfl, rfl, rfl, by decide +kernel, rfl, by decide +kernel, by decide +kernel⟩
def sp_begin (K : PySem.W.Frag) (cl : Cn → Addr) : Sp := fun vs H Q E => vs = [] ∧ ∀ p H', Same H H' → LnsAt H' p bgL → Q (.ref p) H'
theorem ok_begin (T : Txt K mg cl w) {f : Addr} {fd : FuncData} (F : Fun K "_begin" "_begin" s_begin f fd) : FnOk P w K mg base CX0 1 f fd [] (sp_begin K cl) := by
  obtain ⟨t_AHEAD, m_AHEAD⟩ := T.m_AHEAD
  obtain ⟨t_STATE, m_STATE⟩ := T.m_STATE
  obtain ⟨t_WALK, m_WALK⟩ := T.m_WALK
  refine F.ok sc_begin (fun vs H Q E h => ?_) (fun cdv A outer s H vs Q E hr h => ?_)
  · obtain ⟨rfl, _⟩ := h
    rfl
  · obtain ⟨rfl, q⟩ := h
    have hz : sizeLine = 16777216 := rfl
    refine ⟨_, (pss_one (ps_ret (pe_lst (pa_cons (pe_tup (pa_cons pe_str (pa_cons (pe_glob (v := .int 6) (by rfl) m_AHEAD ⟨_, rfl⟩) (pa_cons pe_int pa_nil)))) (pa_cons (pe_tup (pa_cons pe_str (pa_cons (pe_glob (v := .int 0) (by rfl) m_STATE ⟨_, rfl⟩) (pa_cons pe_int pa_nil)))) (pa_cons (pe_tup (pa_cons pe_str (pa_cons (pe_glob (v := .int 0) (by rfl) m_STATE ⟨_, rfl⟩) (pa_cons (pe_glob (v := .int 0) (by rfl) m_STATE ⟨_, rfl⟩) (pa_cons (pe_glob (v := .int 1) (by rfl) m_WALK ⟨_, rfl⟩) pa_nil))))) (pa_cons (pe_tup (pa_cons pe_str (pa_cons (pe_glob (v := .int 0) (by rfl) m_STATE ⟨_, rfl⟩) (pa_cons pe_str pa_nil)))) pa_nil))))))), ?_⟩
    refine ⟨(by show 3 ≤ sizeLine; omega), fun T0 n0 => ?_⟩
    have u0 := Same.upd (o := .tup [V.str (Str.ofString "head"), V.int 6, V.int 0]) n0
    have L0 : Lns (upd H T0 (.tup [V.str (Str.ofString "head"), V.int 6, V.int 0])) _ _ := ln_put (.ins (.head 6 0)) ((Paired.nil : Lns H [] [])) n0
    generalize upd H T0 (.tup [V.str (Str.ofString "head"), V.int 6, V.int 0]) = X0 at u0 L0 ⊢
    refine ⟨(by show 3 ≤ sizeLine; omega), fun T1 n1 => ?_⟩
    have u1 := Same.upd (o := .tup [V.str (Str.ofString "tail"), V.int 0, V.int 0]) n1
    have L1 : Lns (upd X0 T1 (.tup [V.str (Str.ofString "tail"), V.int 0, V.int 0])) _ _ := ln_put (.ins (.tail 0 0)) (L0) n1
    generalize upd X0 T1 (.tup [V.str (Str.ofString "tail"), V.int 0, V.int 0]) = X1 at u1 L1 ⊢
    refine ⟨(by show 4 ≤ sizeLine; omega), fun T2 n2 => ?_⟩
    have u2 := Same.upd (o := .tup [V.str (Str.ofString "cons"), V.int 0, V.int 0, V.int 1]) n2
    have L2 : Lns (upd X1 T2 (.tup [V.str (Str.ofString "cons"), V.int 0, V.int 0, V.int 1])) _ _ := ln_put (.ins (.cons 0 0 1)) (L1) n2
    generalize upd X1 T2 (.tup [V.str (Str.ofString "cons"), V.int 0, V.int 0, V.int 1]) = X2 at u2 L2 ⊢
    refine ⟨(by show 3 ≤ sizeLine; omega), fun T3 n3 => ?_⟩
    have u3 := Same.upd (o := .tup [V.str (Str.ofString "jump"), V.int 0, V.str (Str.ofString "fetch")]) n3
    have L3 : Lns (upd X2 T3 (.tup [V.str (Str.ofString "jump"), V.int 0, V.str (Str.ofString "fetch")])) _ _ := ln_put (.jmp 0 "fetch") (L2) n3
    generalize upd X2 T3 (.tup [V.str (Str.ofString "jump"), V.int 0, V.str (Str.ofString "fetch")]) = X3 at u3 L3 ⊢
    exact ⟨(by show 4 ≤ sizeLine; omega), fun p n => q p _ (((((u0).trans u1).trans u2).trans u3).trans (Same.upd n)) (ln_end L3 n)⟩
abbrev s_decodeU : Stmt := topS 39
abbrev nm_decodeU : List Str := []
theorem sc_decodeU : FnScope nm_decodeU [] (defScope s_decodeU) := ⟨rfl, rfl, rfl, by decide +kernel, rfl, by decide +kernel, by decide +kernel⟩
def sp_decodeU (K : PySem.W.Frag) (cl : Cn → Addr) : Sp := fun vs H Q E => vs = [] ∧ ∀ p H', Same H H' → LnsAt H' p dcL → Q (.ref p) H'
theorem ok_decodeU (T : Txt K mg cl w) {f : Addr} {fd : FuncData} (F : Fun K "_decode" "_decode" s_decodeU f fd) : FnOk P w K mg base CX0 1 f fd [] (sp_decodeU K cl) := by
  obtain ⟨t_VALUE, m_VALUE⟩ := T.m_VALUE
  obtain ⟨t_AHEAD, m_AHEAD⟩ := T.m_AHEAD
  obtain ⟨t_WORD, m_WORD⟩ := T.m_WORD
  obtain ⟨t_TARGET, m_TARGET⟩ := T.m_TARGET
  obtain ⟨t_STATE, m_STATE⟩ := T.m_STATE
  refine F.ok sc_decodeU (fun vs H Q E h => ?_) (fun cdv A outer s H vs Q E hr h => ?_)
  · obtain ⟨rfl, _⟩ := h
    rfl
  · obtain ⟨rfl, q⟩ := h
    have hz : sizeLine = 16777216 := rfl
    refine ⟨_, (pss_one (ps_ret (pe_lst (pa_cons (pe_tup (pa_cons pe_str (pa_cons pe_str pa_nil))) (pa_cons (pe_tup (pa_cons pe_str (pa_cons (pe_glob (v := .int 4) (by rfl) m_VALUE ⟨_, rfl⟩) (pa_cons (pe_glob (v := .int 6) (by rfl) m_AHEAD ⟨_, rfl⟩) pa_nil)))) (pa_cons (pe_tup (pa_cons pe_str (pa_cons (pe_glob (v := .int 5) (by rfl) m_WORD ⟨_, rfl⟩) (pa_cons (pe_glob (v := .int 4) (by rfl) m_VALUE ⟨_, rfl⟩) pa_nil)))) (pa_cons (pe_tup (pa_cons pe_str (pa_cons (pe_glob (v := .int 4) (by rfl) m_VALUE ⟨_, rfl⟩) (pa_cons (pe_glob (v := .int 4) (by rfl) m_VALUE ⟨_, rfl⟩) pa_nil)))) (pa_cons (pe_tup (pa_cons pe_str (pa_cons (pe_glob (v := .int 3) (by rfl) m_TARGET ⟨_, rfl⟩) (pa_cons (pe_glob (v := .int 4) (by rfl) m_VALUE ⟨_, rfl⟩) pa_nil)))) (pa_cons (pe_tup (pa_cons pe_str (pa_cons (pe_glob (v := .int 4) (by rfl) m_VALUE ⟨_, rfl⟩) (pa_cons (pe_glob (v := .int 4) (by rfl) m_VALUE ⟨_, rfl⟩) pa_nil)))) (pa_cons (pe_tup (pa_cons pe_str (pa_cons (pe_glob (v := .int 5) (by rfl) m_WORD ⟨_, rfl⟩) (pa_cons pe_str pa_nil)))) (pa_cons (pe_tup (pa_cons pe_str (pa_cons (pe_glob (v := .int 0) (by rfl) m_STATE ⟨_, rfl⟩) (pa_cons pe_str pa_nil)))) pa_nil))))))))))), ?_⟩
    refine ⟨(by show 2 ≤ sizeLine; omega), fun T0 n0 => ?_⟩
    have u0 := Same.upd (o := .tup [V.str (Str.ofString "mark"), V.str (Str.ofString "decode")]) n0
    have L0 : Lns (upd H T0 (.tup [V.str (Str.ofString "mark"), V.str (Str.ofString "decode")])) _ _ := ln_put (.mark "decode") ((Paired.nil : Lns H [] [])) n0
    generalize upd H T0 (.tup [V.str (Str.ofString "mark"), V.str (Str.ofString "decode")]) = X0 at u0 L0 ⊢
    refine ⟨(by show 3 ≤ sizeLine; omega), fun T1 n1 => ?_⟩
    have u1 := Same.upd (o := .tup [V.str (Str.ofString "head"), V.int 4, V.int 6]) n1
    have L1 : Lns (upd X0 T1 (.tup [V.str (Str.ofString "head"), V.int 4, V.int 6])) _ _ := ln_put (.ins (.head 4 6)) (L0) n1
    generalize upd X0 T1 (.tup [V.str (Str.ofString "head"), V.int 4, V.int 6]) = X1 at u1 L1 ⊢
    refine ⟨(by show 3 ≤ sizeLine; omega), fun T2 n2 => ?_⟩
    have u2 := Same.upd (o := .tup [V.str (Str.ofString "head"), V.int 5, V.int 4]) n2
    have L2 : Lns (upd X1 T2 (.tup [V.str (Str.ofString "head"), V.int 5, V.int 4])) _ _ := ln_put (.ins (.head 5 4)) (L1) n2
    generalize upd X1 T2 (.tup [V.str (Str.ofString "head"), V.int 5, V.int 4]) = X2 at u2 L2 ⊢
    refine ⟨(by show 3 ≤ sizeLine; omega), fun T3 n3 => ?_⟩
    have u3 := Same.upd (o := .tup [V.str (Str.ofString "tail"), V.int 4, V.int 4]) n3
    have L3 : Lns (upd X2 T3 (.tup [V.str (Str.ofString "tail"), V.int 4, V.int 4])) _ _ := ln_put (.ins (.tail 4 4)) (L2) n3
    generalize upd X2 T3 (.tup [V.str (Str.ofString "tail"), V.int 4, V.int 4]) = X3 at u3 L3 ⊢
    refine ⟨(by show 3 ≤ sizeLine; omega), fun T4 n4 => ?_⟩
    have u4 := Same.upd (o := .tup [V.str (Str.ofString "head"), V.int 3, V.int 4]) n4
    have L4 : Lns (upd X3 T4 (.tup [V.str (Str.ofString "head"), V.int 3, V.int 4])) _ _ := ln_put (.ins (.head 3 4)) (L3) n4
    generalize upd X3 T4 (.tup [V.str (Str.ofString "head"), V.int 3, V.int 4]) = X4 at u4 L4 ⊢
    refine ⟨(by show 3 ≤ sizeLine; omega), fun T5 n5 => ?_⟩
    have u5 := Same.upd (o := .tup [V.str (Str.ofString "tail"), V.int 4, V.int 4]) n5
    have L5 : Lns (upd X4 T5 (.tup [V.str (Str.ofString "tail"), V.int 4, V.int 4])) _ _ := ln_put (.ins (.tail 4 4)) (L4) n5
    generalize upd X4 T5 (.tup [V.str (Str.ofString "tail"), V.int 4, V.int 4]) = X5 at u5 L5 ⊢
    refine ⟨(by show 3 ≤ sizeLine; omega), fun T6 n6 => ?_⟩
    have u6 := Same.upd (o := .tup [V.str (Str.ofString "jump"), V.int 5, V.str (Str.ofString "move")]) n6
    have L6 : Lns (upd X5 T6 (.tup [V.str (Str.ofString "jump"), V.int 5, V.str (Str.ofString "move")])) _ _ := ln_put (.jmp 5 "move") (L5) n6
    generalize upd X5 T6 (.tup [V.str (Str.ofString "jump"), V.int 5, V.str (Str.ofString "move")]) = X6 at u6 L6 ⊢
    refine ⟨(by show 3 ≤ sizeLine; omega), fun T7 n7 => ?_⟩
    have u7 := Same.upd (o := .tup [V.str (Str.ofString "jump"), V.int 0, V.str (Str.ofString "change")]) n7
    have L7 : Lns (upd X6 T7 (.tup [V.str (Str.ofString "jump"), V.int 0, V.str (Str.ofString "change")])) _ _ := ln_put (.jmp 0 "change") (L6) n7
    generalize upd X6 T7 (.tup [V.str (Str.ofString "jump"), V.int 0, V.str (Str.ofString "change")]) = X7 at u7 L7 ⊢
    exact ⟨(by show 8 ≤ sizeLine; omega), fun p n => q p _ (((((((((u0).trans u1).trans u2).trans u3).trans u4).trans u5).trans u6).trans u7).trans (Same.upd n)) (ln_end L7 n)⟩
abbrev s_universal : Stmt := topS 37
abbrev nm_universal : List Str := []
theorem sc_universal : FnScope nm_universal [] (defScope s_universal) := ⟨rfl, rfl, rfl, by decide +kernel, rfl, by decide +kernel, by decide +kernel⟩
def sp_universal (K : PySem.W.Frag) (cl : Cn → Addr) : Sp := fun vs H Q E => vs = [] ∧ ∀ p H', Same H H' → H p = none → PgAt H' p uniP → Q (.ref p) H'
theorem ok_universal (T : Txt K mg cl w) (H_placed : Has P w K mg base CX0 1 "placed" ["lines"] (sp_placed K cl)) (H_go_on : Has P w K mg base CX0 1 "_go_on" [] (sp_go_on K cl)) (H_change_register : Has P w K mg base CX0 1 "_change_register" [] (sp_change_register K cl)) (H_make_jump : Has P w K mg base CX0 2 "_make_jump" [] (sp_make_jump K cl)) (H_make_tree : Has P w K mg base CX0 2 "_make_tree" [] (sp_make_tree K cl)) (H_begin : Has P w K mg base CX0 1 "_begin" [] (sp_begin K cl)) (H_decodeU : Has P w K mg base CX0 1 "_decode" [] (sp_decodeU K cl)) {f : Addr} {fd : FuncData} (F : Fun K "universal" "universal" s_universal f fd) : FnOk P w K mg base CX0 3 f fd [] (sp_universal K cl) := by
  obtain ⟨f_placed, d_placed, G_placed, g_placed, k_placed, b_placed⟩ := H_placed.ex
  obtain ⟨f_go_on, d_go_on, G_go_on, g_go_on, k_go_on, b_go_on⟩ := H_go_on.ex
  obtain ⟨f_change_register, d_change_register, G_change_register, g_change_register, k_change_register, b_change_register⟩ := H_change_register.ex
  obtain ⟨f_make_jump, d_make_jump, G_make_jump, g_make_jump, k_make_jump, b_make_jump⟩ := H_make_jump.ex
  obtain ⟨f_make_tree, d_make_tree, G_make_tree, g_make_tree, k_make_tree, b_make_tree⟩ := H_make_tree.ex
  obtain ⟨f_begin, d_begin, G_begin, g_begin, k_begin, b_begin⟩ := H_begin.ex
  obtain ⟨f_decodeU, d_decodeU, G_decodeU, g_decodeU, k_decodeU, b_decodeU⟩ := H_decodeU.ex
  refine F.ok sc_universal (fun vs H Q E h => ?_) (fun cdv A outer s H vs Q E hr h => ?_)
  · obtain ⟨rfl, _⟩ := h
    rfl
  · obtain ⟨rfl, qq⟩ := h
    have hz : sizeLine = 16777216 := rfl
    refine ⟨_, (pss_one (ps_ret (pe_call G_placed (hr.mono (by decide)) (by rfl) g_placed k_placed b_placed .nil pass0 (pa_cons (pe_op op_cat (pe_op op_cat (pe_op op_cat (pe_op op_cat (pe_op op_cat (pe_call0 G_begin (hr.mono (by decide)) (by rfl) g_begin k_begin b_begin .nil pass0) (pe_call0 G_decodeU (hr.mono (by decide)) (by rfl) g_decodeU k_decodeU b_decodeU .nil pass0)) (pe_call0 G_make_tree (hr.mono (by decide)) (by rfl) g_make_tree k_make_tree b_make_tree .nil pass0)) (pe_call0 G_make_jump (hr.mono (by decide)) (by rfl) g_make_jump k_make_jump b_make_jump .nil pass0)) (pe_call0 G_change_register (hr.mono (by decide)) (by rfl) g_change_register k_change_register b_change_register .nil pass0)) (pe_call0 G_go_on (hr.mono (by decide)) (by rfl) g_go_on k_go_on b_go_on .nil pass0)) pa_nil)))), ?_⟩
    have t := Same.refl H
    refine ⟨rfl, fun P1 K1 sP1 hP1 => ?_⟩
    have t := t.trans sP1
    clear sP1
    refine ⟨rfl, fun P2 K2 sP2 hP2 => ?_⟩
    have hP1 := hP1.same sP2
    have t := t.trans sP2
    clear sP2
    obtain ⟨xs3, ys3, x1, x2, x3, x4, x5⟩ := hP1.cat hP2
    refine ⟨_, _, _, _, rfl, rfl, x1, x2, (by rw [x3, x4]; show 4 + 8 ≤ _; omega), fun D3 nD3 => ?_⟩
    have hD3 := x5 D3 nD3
    have uD3 := Same.upd (o := .lst (xs3 ++ ys3)) nD3
    generalize upd K2 D3 (.lst (xs3 ++ ys3)) = C3 at hD3 uD3 ⊢
    clear x1 x2 x3 x4 x5 hP1 hP2
    have t := t.trans uD3
    clear uD3 nD3
    refine ⟨rfl, fun P4 K4 sP4 hP4 => ?_⟩
    have hD3 := hD3.same sP4
    have t := t.trans sP4
    clear sP4
    obtain ⟨xs5, ys5, x1, x2, x3, x4, x5⟩ := hD3.cat hP4
    refine ⟨_, _, _, _, rfl, rfl, x1, x2, (by rw [x3, x4]; show 12 + 56 ≤ _; omega), fun D5 nD5 => ?_⟩
    have hD5 := x5 D5 nD5
    have uD5 := Same.upd (o := .lst (xs5 ++ ys5)) nD5
    generalize upd K4 D5 (.lst (xs5 ++ ys5)) = C5 at hD5 uD5 ⊢
    clear x1 x2 x3 x4 x5 hD3 hP4
    have t := t.trans uD5
    clear uD5 nD5
    refine ⟨rfl, fun P6 K6 sP6 hP6 => ?_⟩
    have hD5 := hD5.same sP6
    have t := t.trans sP6
    clear sP6
    obtain ⟨xs7, ys7, x1, x2, x3, x4, x5⟩ := hD5.cat hP6
    refine ⟨_, _, _, _, rfl, rfl, x1, x2, (by rw [x3, x4]; show 68 + 23 ≤ _; omega), fun D7 nD7 => ?_⟩
    have hD7 := x5 D7 nD7
    have uD7 := Same.upd (o := .lst (xs7 ++ ys7)) nD7
    generalize upd K6 D7 (.lst (xs7 ++ ys7)) = C7 at hD7 uD7 ⊢
    clear x1 x2 x3 x4 x5 hD5 hP6
    have t := t.trans uD7
    clear uD7 nD7
    refine ⟨rfl, fun P8 K8 sP8 hP8 => ?_⟩
    have hD7 := hD7.same sP8
    have t := t.trans sP8
    clear sP8
    obtain ⟨xs9, ys9, x1, x2, x3, x4, x5⟩ := hD7.cat hP8
    refine ⟨_, _, _, _, rfl, rfl, x1, x2, (by rw [x3, x4]; show 91 + 18 ≤ _; omega), fun D9 nD9 => ?_⟩
    have hD9 := x5 D9 nD9
    have uD9 := Same.upd (o := .lst (xs9 ++ ys9)) nD9
    generalize upd K8 D9 (.lst (xs9 ++ ys9)) = C9 at hD9 uD9 ⊢
    clear x1 x2 x3 x4 x5 hD7 hP8
    have t := t.trans uD9
    clear uD9 nD9
    refine ⟨rfl, fun P10 K10 sP10 hP10 => ?_⟩
    have hD9 := hD9.same sP10
    have t := t.trans sP10
    clear sP10
    obtain ⟨xs11, ys11, x1, x2, x3, x4, x5⟩ := hD9.cat hP10
    refine ⟨_, _, _, _, rfl, rfl, x1, x2, (by rw [x3, x4]; show 109 + 9 ≤ _; omega), fun D11 nD11 => ?_⟩
    have hD11 := x5 D11 nD11
    have uD11 := Same.upd (o := .lst (xs11 ++ ys11)) nD11
    generalize upd K10 D11 (.lst (xs11 ++ ys11)) = C11 at hD11 uD11 ⊢
    clear x1 x2 x3 x4 x5 hD9 hP10
    have t := t.trans uD11
    clear uD11 nD11
    obtain ⟨xs, y1, y2⟩ := hD11
    exact ⟨_, xs, unL, unD, rfl, y1, y2, un_len, un_marks, un_bigs, fun p X sp np hp => qq p X (t.trans sp) (t.free np) (by rw [un_plc] at hp; exact hp)⟩
abbrev s_cleaning : Stmt := topS 25
abbrev nm_cleaning : List Str := ["program", "place"]
theorem sc_cleaning : FnScope nm_cleaning ["program"] (defScope s_cleaning) := ⟨rfl, rfl, rfl, by decide +kernel, rfl, by decide +kernel, by decide +kernel⟩
def sp_cleaning (K : PySem.W.Frag) (cl : Cn → Addr) : Sp := fun vs H Q _ => ∃ (p : Addr) (is : List Ins), vs = [.ref p] ∧ PgAt H p is ∧ wid is ≤ 2000000 ∧ ∀ r H', Same H H' → H r = none → PgAt H' r (cln (wid is)) → Q (.ref r) H'
theorem ok_cleaning (T : Txt K mg cl w) (H_width : Has P w K mg base CX0 1 "width" ["program"] (sp_width K cl)) {f : Addr} {fd : FuncData} (F : Fun K "cleaning" "cleaning" s_cleaning f fd) : FnOk P w K mg base CX0 2 f fd ["program"] (sp_cleaning K cl) := by
  obtain ⟨t_LEAF, m_LEAF⟩ := T.m_LEAF
  have m_range := T.m_range
  obtain ⟨f_width, d_width, G_width, g_width, k_width, b_width⟩ := H_width.ex
  refine F.ok sc_cleaning (fun vs H Q E h => ?_) (fun cdv A outer s H vs Q E hr h => ?_)
  · obtain ⟨n, _, rfl, _⟩ := h
    rfl
  · obtain ⟨p, is, rfl, hp, hw, q⟩ := h
    have hz : sizeLine = 16777216 := rfl
    have hw1 := wid_pos is
    refine ⟨_, (pss_one (ps_ret (pe_lc (own := [("place", 1)]) (g := gName 1) (tt := tYes) rfl sc_cleaning.nd (pi_range2 (by rfl) m_range (pa_cons pe_int (pa_cons (pe_call G_width (hr.mono (by decide)) (by rfl) g_width k_width b_width .nil pass0 (pa_cons (pv 0) pa_nil)) pa_nil))) (blkOk_by (N := nm_cleaning) (sc := defScope s_cleaning) (by decide +kernel)) (fun _ _ _ _ _ => (pg_name (i := 1) sc_cleaning.nd rfl (Or.inl rfl))) (fun _ _ _ _ _ => pts_nil) (fun _ _ _ _ _ => (pe_tup (pa_cons pe_str (pa_cons (pv 1) (pa_cons (pe_glob (v := .str "0") (by rfl) m_LEAF ⟨_, rfl⟩) pa_nil)))))))), ?_⟩
    refine ⟨_, rfl, p, is, rfl, hp, fun H1 s1 => ?_⟩
    refine ⟨1, (wid is : Nat), rfl, ⟨by decide, by decide, by omega, by omega⟩, fun D nD => ?_⟩
    rw [show (((wid is : Nat) : Int) - 1).toNat = wid is - 1 by omega]
    refine lc_rows (lo := 1) (n := wid is - 1) (fun k => .set (k + 1) .leaf) nD (by omega) (fun _ => rfl) (fun i H2 hi s2 Q hq => ?_) (fun H2 s2 hD => ?_)
    · refine ⟨_, rfl, (by show 3 ≤ sizeLine; omega), fun T nT => ?_⟩
      refine hq T _ (Same.upd nT) (upd_same.trans ?_)
      show some (HO.tup [V.str (Str.ofString "set"), V.int (1 + (i : Int)), V.str (Str.ofString "0")]) = some (HO.tup [V.str (Str.ofString "set"), V.int ((i + 1 : Nat) : Int), V.str Tr.leaf.str])
      rw [sleaf, show (1 + (i : Int)) = ((i + 1 : Nat) : Int) by omega]
    · refine q D H2 (s1.trans s2) ?_ hD
      cases c : H D with
      | none => rfl
      | some o =>
        have := s1 _ _ c
        rw [nD] at this
        cases this
abbrev s_fixed_point : Stmt := topS 49
abbrev nm_fixed_point : List Str := ["program", "kept", "runner", "clean"]
theorem sc_fixed_point : FnScope nm_fixed_point ["program"] (defScope s_fixed_point) := ⟨rfl, rfl, rfl, by decide +kernel, rfl, by decide +kernel, by decide +kernel⟩
def sp_fixed_point (K : PySem.W.Frag) (cl : Cn → Addr) : Sp := fun vs H Q E => ∃ (p : Addr) (is : List Ins), vs = [.ref p] ∧ PgAt H p is ∧ is.length ≤ 870 ∧ (∀ i ∈ is, i.small) ∧
  (wid is ≤ 16 → GoodW (fxP is) → ∀ r H', Same H H' → H r = none → PgK K H' r (wocP (fxP is)) → Q (.ref r) H') ∧ (wid is ≤ 16 → ¬ GoodW (fxP is) → ∀ H', Same H H' → E (.ref (cl .TooLarge)) none H') ∧ (16 < wid is → ∀ H', Same H H' → E (.ref (cl .TooWide)) none H')
theorem wid_uni : wid uniP = 9 := by decide +kernel
theorem small_uni : ∀ i ∈ uniP, i.small := uni_ok.small (by decide) (by decide) (by rw [uniP_len]; decide)
theorem ok_fixed_point (T : Txt K mg cl w) (H_greatest_width : Has P w K mg base (L2.CX P w) 2 "greatest_width" ["programs"] (sp_greatest_width K cl)) (H_universal : Has P w K mg base CX0 3 "universal" [] (sp_universal K cl)) (H_cleaning : Has P w K mg base CX0 2 "cleaning" ["program"] (sp_cleaning K cl)) (H_with_own_code : Has P w K mg base (L2.CX P w) 5 "with_own_code" ["program"] (sp_with_own_code K cl)) {f : Addr} {fd : FuncData} (F : Fun K "fixed_point" "fixed_point" s_fixed_point f fd) : FnOk P w K mg base (L2.CX P w) 6 f fd ["program"] (sp_fixed_point K cl) := by
  obtain ⟨t_MOST_WIDTH, m_MOST_WIDTH⟩ := T.m_MOST_WIDTH
  obtain ⟨t_LEAF, m_LEAF⟩ := T.m_LEAF
  obtain ⟨f_greatest_width, d_greatest_width, G_greatest_width, g_greatest_width, k_greatest_width, b_greatest_width⟩ := H_greatest_width.ex
  obtain ⟨f_universal, d_universal, G_universal, g_universal, k_universal, b_universal⟩ := H_universal.ex
  obtain ⟨f_cleaning, d_cleaning, G_cleaning, g_cleaning, k_cleaning, b_cleaning⟩ := H_cleaning.ex
  obtain ⟨f_with_own_code, d_with_own_code, G_with_own_code, g_with_own_code, k_with_own_code, b_with_own_code⟩ := H_with_own_code.ex
  refine F.okX sc_fixed_point (fun vs H Q E h => ?_) (fun cdv A outer s H vs Q E hr h => ?_)
  · obtain ⟨p, is, rfl, _⟩ := h
    rfl
  · obtain ⟨p, is, rfl, hp, hl, hs, q, e, eW⟩ := h
    have hz : sizeLine = 16777216 := rfl
    refine ⟨_, (pss_cons (ps_expr (pe_callS G_greatest_width (hr.mono (by decide)) (by rfl) g_greatest_width k_greatest_width b_greatest_width (fun σ => passAt (takes_of rfl rfl rfl rfl) σ) (pa_cons (pe_lst (pa_cons (pv 0) pa_nil)) pa_nil)))
      (pss_cons (ps_set (i := 1) sc_fixed_point.nd rfl (Or.inl rfl) (pe_glob (v := .int 16) (by rfl) m_MOST_WIDTH ⟨_, rfl⟩))
      (pss_cons (ps_set (i := 2) sc_fixed_point.nd rfl (Or.inl rfl) (pe_call0 G_universal (hr.mono (by decide)) (by rfl) g_universal k_universal b_universal .nil pass0))
      (pss_cons (ps_set (i := 3) sc_fixed_point.nd rfl (Or.inl rfl) (pe_call G_cleaning (hr.mono (by decide)) (by rfl) g_cleaning k_cleaning b_cleaning .nil pass0 (pa_cons (pv 2) pa_nil)))
      (pss_one (ps_ret (pe_callS G_with_own_code (hr.mono (by decide)) (by rfl) g_with_own_code k_with_own_code b_with_own_code (fun σ => passAt (takes_of rfl rfl rfl rfl) σ) (pa_cons (pe_lst (pa_cons (pe_tup (pa_cons pe_str (pa_cons (pv 1) (pa_cons pe_int pa_nil)))) (pa_cons (pe_tup (pa_cons pe_str (pa_cons pe_int (pa_cons pe_int pa_nil)))) (pa_cons (pe_tup (pa_cons pe_str (pa_cons pe_int (pa_cons (pe_glob (v := .str "0") (by rfl) m_LEAF ⟨_, rfl⟩) pa_nil)))) (StX.pa_star (pv 0) (pa_cons (pe_tup (pa_cons pe_str (pa_cons pe_int (pa_cons pe_int (pa_cons (pv 1) pa_nil))))) (StX.pa_star (pv 3) (StX.pa_star (pv 2) pa_nil)))))))) pa_nil)))))))), ?_⟩
    refine ⟨_, rfl, (by show 1 ≤ sizeLine; omega), fun D nD => ?_⟩
    have sD := Same.upd (o := .lst [.ref p]) nD
    have hD : PgsAt (upd H D (.lst [.ref p])) D [is] := ⟨_, upd_same, .cons ⟨p, rfl, hp.same sD⟩ .nil⟩
    generalize upd H D (.lst [V.ref p]) = H1 at sD hD ⊢
    have g1 : gw [is] = wid is := by
      have h := wid_pos is
      show max 1 (wid is) = wid is
      omega
    refine ⟨D, [is], rfl, hD, (by show 1 ≤ 1000000; decide), fun hg H2 s2 => ?_, fun hg H2 s2 => eW (by omega) H2 (sD.trans s2)⟩
    rw [g1] at hg
    have s2 := sD.trans s2
    refine ⟨rfl, fun u H3 s3 nu hu => ?_⟩
    refine ⟨_, rfl, u, uniP, rfl, hu, by rw [wid_uni]; decide, fun r4 H4 s4 n4 h4 => ?_⟩
    rw [wid_uni] at h4
    have hu4 := hu.same s4
    have s4 := (s2.trans s3).trans s4
    clear s2 s3 hu nu n4 nD sD hD
    refine ⟨_, rfl, (by show 3 ≤ sizeLine; omega), fun T1 n1 => ?_⟩
    have s5 := Same.upd (o := .tup [.str "move", .int 16, .int 0]) n1
    have r1 : upd H4 T1 (.tup [.str "move", .int 16, .int 0]) T1 = some (.tup (Ins.move 16 0).vs) := upd_same
    generalize upd H4 T1 (.tup [V.str "move", V.int 16, V.int 0]) = H5 at s5 r1 ⊢
    refine ⟨(by show 3 ≤ sizeLine; omega), fun T2 n2 => ?_⟩
    have s6 := Same.upd (o := .tup [.str "move", .int 0, .int 1]) n2
    have r2 : upd H5 T2 (.tup [.str "move", .int 0, .int 1]) T2 = some (.tup (Ins.move 0 1).vs) := upd_same
    have r1 := s6 _ _ r1
    generalize upd H5 T2 (.tup [V.str "move", V.int 0, V.int 1]) = H6 at s6 r1 r2 ⊢
    refine ⟨(by show 3 ≤ sizeLine; omega), fun T3 n3 => ?_⟩
    have s7 := Same.upd (o := .tup [.str "set", .int 1, .str "0"]) n3
    have r3 : upd H6 T3 (.tup [.str "set", .int 1, .str "0"]) T3 = some (.tup (Ins.set 1 .leaf).vs) := by rw [← v_leaf1]; exact upd_same
    have r1 := s7 _ _ r1
    have r2 := s7 _ _ r2
    generalize upd H6 T3 (.tup [V.str "set", V.int 1, V.str "0"]) = H7 at s7 r1 r2 r3 ⊢
    have s47 := (s5.trans s6).trans s7
    have s07 := s4.trans s47
    obtain ⟨as, a1, a2⟩ := hp.same s07
    have al := Paired.len a2
    refine ⟨_, rfl, _, _, rfl, .inr (SqL.of a1), _, rfl, (by show 4 ≤ sizeLine; omega), fun T4 n8 => ?_⟩
    have s8 := Same.upd (o := .tup [.str "cons", .int 0, .int 0, .int 16]) n8
    have r4' : upd H7 T4 (.tup [.str "cons", .int 0, .int 0, .int 16]) T4 = some (.tup (Ins.cons 0 0 16).vs) := upd_same
    have r1 := s8 _ _ r1
    have r2 := s8 _ _ r2
    have r3 := s8 _ _ r3
    have a2 := Rows.same s8 a2
    have s08 := s07.trans s8
    have s48 := s47.trans s8
    generalize upd H7 T4 (.tup [V.str "cons", V.int 0, V.int 0, V.int 16]) = H8 at s08 s48 r1 r2 r3 r4' a2 ⊢
    obtain ⟨bs, b1, b2⟩ := h4.same s48
    have bl := Paired.len b2
    obtain ⟨cs, c1, c2⟩ := hu4.same s48
    have cl' := Paired.len c2
    rw [cln9_len] at bl
    rw [uniP_len] at cl'
    refine ⟨_, rfl, _, _, rfl, .inr (SqL.of b1), _, rfl, _, _, rfl, .inr (SqL.of c1), (by simp only [List.length_append, List.length_cons, List.length_nil, List.length_map]; omega), fun D2 nD2 => ?_⟩
    have eL : V.ref T1 :: V.ref T2 :: V.ref T3 :: (as.map V.ref ++ V.ref T4 :: (bs.map V.ref ++ cs.map V.ref)) = ((([T1, T2, T3] ++ as) ++ (T4 :: bs)) ++ cs).map V.ref := by simp
    try rw [List.append_nil]
    rw [eL]
    have s9 := Same.upd (o := .lst (((([T1, T2, T3] ++ as) ++ (T4 :: bs)) ++ cs).map V.ref)) nD2
    have hB : PgAt (upd H8 D2 (.lst (((([T1, T2, T3] ++ as) ++ (T4 :: bs)) ++ cs).map V.ref))) D2 (fxP is) := ⟨_, upd_same, Paired.app (Paired.app (Paired.app (.cons (s9 _ _ r1) (.cons (s9 _ _ r2) (.cons (s9 _ _ r3) .nil))) (Rows.same s9 a2)) (.cons (s9 _ _ r4') (Rows.same s9 b2))) (Rows.same s9 c2)⟩
    have s09 := s08.trans s9
    generalize upd H8 D2 (.lst (((([T1, T2, T3] ++ as) ++ (T4 :: bs)) ++ cs).map V.ref)) = H9 at hB s09 ⊢
    refine ⟨D2, _, rfl, hB.k, (by rw [fxP_len]; omega), fxP_mem ⟨by decide, by decide⟩ ⟨by decide, by decide⟩ ⟨by decide, by decide⟩ ⟨by decide, by decide, by decide⟩ (fun k hk => ⟨by omega, by decide⟩) small_uni hs, fun c r H' sa na ha => ?_, fun c H' sa => e hg c H' (s09.trans sa)⟩
    exact q hg c r H' (s09.trans sa) (same_new s09 na) ha
abbrev s_listing : Stmt := topS 60
abbrev nm_listing : List Str := []
theorem sc_listing : FnScope nm_listing [] (defScope s_listing) := ⟨rfl, rfl, rfl, by decide +kernel, rfl, by decide +kernel, by decide +kernel⟩
theorem v_leaf3 : ([.str "set", .int 3, .str "0"] : List V) = (Ins.set 3 .leaf).vs := by
  show _ = [V.str (Str.ofString "set"), V.int ((3 : Nat) : Int), V.str Tr.leaf.str]
  rw [leaf_str]
  rfl
theorem v_leaf4 : ([.str "set", .int 4, .str "0"] : List V) = (Ins.set 4 .leaf).vs := by
  show _ = [V.str (Str.ofString "set"), V.int ((4 : Nat) : Int), V.str Tr.leaf.str]
  rw [leaf_str]
  rfl
def sp_listing (K : PySem.W.Frag) (cl : Cn → Addr) : Sp := fun vs H Q E => vs = [] ∧ ∀ r H', Same H H' → H r = none → PgK K H' r lsP → Q (.ref r) H'
theorem ok_listing (T : Txt K mg cl w) {f : Addr} {fd : FuncData} (F : Fun K "_listing" "_listing" s_listing f fd) : FnOk P w K mg base CX0 1 f fd [] (sp_listing K cl) := by
  obtain ⟨m_CODE_OF_FIRST, L_CODE_OF_FIRST⟩ := T.m_CODE_OF_FIRST
  obtain ⟨t_LEAF, m_LEAF⟩ := T.m_LEAF
  refine F.ok sc_listing (fun vs H Q E h => ?_) (fun cdv A outer s H vs Q E hr h => ?_)
  · obtain ⟨rfl, _⟩ := h
    rfl
  · obtain ⟨rfl, q⟩ := h
    have hz : sizeLine = 16777216 := rfl
    obtain ⟨b0, b1, b2, hC⟩ := L_CODE_OF_FIRST
    refine ⟨_, (pss_one (ps_ret (pe_lst (StX.pa_star (pe_glob (v := .ref (cl .CODE_OF_FIRST)) (by rfl) m_CODE_OF_FIRST rfl) (pa_cons (pe_tup (pa_cons pe_str (pa_cons pe_int (pa_cons pe_int pa_nil)))) (pa_cons (pe_tup (pa_cons pe_str (pa_cons pe_int (pa_cons pe_int (pa_cons pe_int pa_nil))))) (pa_cons (pe_tup (pa_cons pe_str (pa_cons pe_int (pa_cons pe_int (pa_cons pe_int pa_nil))))) (pa_cons (pe_tup (pa_cons pe_str (pa_cons pe_int (pa_cons pe_int pa_nil)))) (pa_cons (pe_tup (pa_cons pe_str (pa_cons pe_int (pa_cons (pe_un un_neg pe_int) pa_nil)))) (pa_cons (pe_tup (pa_cons pe_str (pa_cons pe_int (pa_cons pe_int (pa_cons pe_int pa_nil))))) (pa_cons (pe_tup (pa_cons pe_str (pa_cons pe_int (pa_cons (pe_glob (v := .str "0") (by rfl) m_LEAF ⟨_, rfl⟩) pa_nil)))) (pa_cons (pe_tup (pa_cons pe_str (pa_cons pe_int (pa_cons (pe_glob (v := .str "0") (by rfl) m_LEAF ⟨_, rfl⟩) pa_nil)))) (pa_cons (pe_tup (pa_cons pe_str (pa_cons pe_int (pa_cons (pe_glob (v := .str "0") (by rfl) m_LEAF ⟨_, rfl⟩) pa_nil)))) pa_nil))))))))))))), ?_⟩
    refine ⟨_, _, rfl, .inl (hC H).1, (by show 3 ≤ sizeLine; omega), fun T0 n0 => ?_⟩
    have s0 := Same.upd (o := .tup [.str "head", .int 4, .int 1]) n0
    have r0 : upd H T0 (.tup [.str "head", .int 4, .int 1]) T0 = some (.tup (Ins.head 4 1).vs) := by exact upd_same
    generalize upd H T0 (.tup [V.str "head", V.int 4, V.int 1]) = H1 at s0 r0 ⊢
    refine ⟨(by show 4 ≤ sizeLine; omega), fun T1 n1 => ?_⟩
    have s1 := Same.upd (o := .tup [.str "cons", .int 4, .int 2, .int 4]) n1
    have r1 : upd H1 T1 (.tup [.str "cons", .int 4, .int 2, .int 4]) T1 = some (.tup (Ins.cons 4 2 4).vs) := by exact upd_same
    have r0 := s1 _ _ r0
    have s1 := s0.trans s1
    generalize upd H1 T1 (.tup [V.str "cons", V.int 4, V.int 2, V.int 4]) = H2 at s1 r0 r1 ⊢
    refine ⟨(by show 4 ≤ sizeLine; omega), fun T2 n2 => ?_⟩
    have s2 := Same.upd (o := .tup [.str "cons", .int 3, .int 4, .int 3]) n2
    have r2 : upd H2 T2 (.tup [.str "cons", .int 3, .int 4, .int 3]) T2 = some (.tup (Ins.cons 3 4 3).vs) := by exact upd_same
    have r0 := s2 _ _ r0
    have r1 := s2 _ _ r1
    have s2 := s1.trans s2
    generalize upd H2 T2 (.tup [V.str "cons", V.int 3, V.int 4, V.int 3]) = H3 at s2 r0 r1 r2 ⊢
    refine ⟨(by show 3 ≤ sizeLine; omega), fun T3 n3 => ?_⟩
    have s3 := Same.upd (o := .tup [.str "tail", .int 1, .int 1]) n3
    have r3 : upd H3 T3 (.tup [.str "tail", .int 1, .int 1]) T3 = some (.tup (Ins.tail 1 1).vs) := by exact upd_same
    have r0 := s3 _ _ r0
    have r1 := s3 _ _ r1
    have r2 := s3 _ _ r2
    have s3 := s2.trans s3
    generalize upd H3 T3 (.tup [V.str "tail", V.int 1, V.int 1]) = H4 at s3 r0 r1 r2 r3 ⊢
    refine ⟨_, rfl, (by show 3 ≤ sizeLine; omega), fun T4 n4 => ?_⟩
    have s4 := Same.upd (o := .tup [.str "jump", .int 1, .int (-4)]) n4
    have r4 : upd H4 T4 (.tup [.str "jump", .int 1, .int (-4)]) T4 = some (.tup (Ins.jump 1 (-4)).vs) := by exact upd_same
    have r0 := s4 _ _ r0
    have r1 := s4 _ _ r1
    have r2 := s4 _ _ r2
    have r3 := s4 _ _ r3
    have s4 := s3.trans s4
    generalize upd H4 T4 (.tup [V.str "jump", V.int 1, V.int (-4)]) = H5 at s4 r0 r1 r2 r3 r4 ⊢
    refine ⟨(by show 4 ≤ sizeLine; omega), fun T5 n5 => ?_⟩
    have s5 := Same.upd (o := .tup [.str "cons", .int 0, .int 3, .int 0]) n5
    have r5 : upd H5 T5 (.tup [.str "cons", .int 0, .int 3, .int 0]) T5 = some (.tup (Ins.cons 0 3 0).vs) := by exact upd_same
    have r0 := s5 _ _ r0
    have r1 := s5 _ _ r1
    have r2 := s5 _ _ r2
    have r3 := s5 _ _ r3
    have r4 := s5 _ _ r4
    have s5 := s4.trans s5
    generalize upd H5 T5 (.tup [V.str "cons", V.int 0, V.int 3, V.int 0]) = H6 at s5 r0 r1 r2 r3 r4 r5 ⊢
    refine ⟨(by show 3 ≤ sizeLine; omega), fun T6 n6 => ?_⟩
    have s6 := Same.upd (o := .tup [.str "set", .int 2, .str "0"]) n6
    have r6 : upd H6 T6 (.tup [.str "set", .int 2, .str "0"]) T6 = some (.tup (Ins.set 2 .leaf).vs) := by rw [← v_leaf]; exact upd_same
    have r0 := s6 _ _ r0
    have r1 := s6 _ _ r1
    have r2 := s6 _ _ r2
    have r3 := s6 _ _ r3
    have r4 := s6 _ _ r4
    have r5 := s6 _ _ r5
    have s6 := s5.trans s6
    generalize upd H6 T6 (.tup [V.str "set", V.int 2, V.str "0"]) = H7 at s6 r0 r1 r2 r3 r4 r5 r6 ⊢
    refine ⟨(by show 3 ≤ sizeLine; omega), fun T7 n7 => ?_⟩
    have s7 := Same.upd (o := .tup [.str "set", .int 3, .str "0"]) n7
    have r7 : upd H7 T7 (.tup [.str "set", .int 3, .str "0"]) T7 = some (.tup (Ins.set 3 .leaf).vs) := by rw [← v_leaf3]; exact upd_same
    have r0 := s7 _ _ r0
    have r1 := s7 _ _ r1
    have r2 := s7 _ _ r2
    have r3 := s7 _ _ r3
    have r4 := s7 _ _ r4
    have r5 := s7 _ _ r5
    have r6 := s7 _ _ r6
    have s7 := s6.trans s7
    generalize upd H7 T7 (.tup [V.str "set", V.int 3, V.str "0"]) = H8 at s7 r0 r1 r2 r3 r4 r5 r6 r7 ⊢
    refine ⟨(by show 3 ≤ sizeLine; omega), fun T8 n8 => ?_⟩
    have s8 := Same.upd (o := .tup [.str "set", .int 4, .str "0"]) n8
    have r8 : upd H8 T8 (.tup [.str "set", .int 4, .str "0"]) T8 = some (.tup (Ins.set 4 .leaf).vs) := by rw [← v_leaf4]; exact upd_same
    have r0 := s8 _ _ r0
    have r1 := s8 _ _ r1
    have r2 := s8 _ _ r2
    have r3 := s8 _ _ r3
    have r4 := s8 _ _ r4
    have r5 := s8 _ _ r5
    have r6 := s8 _ _ r6
    have r7 := s8 _ _ r7
    have s8 := s7.trans s8
    generalize upd H8 T8 (.tup [V.str "set", V.int 4, V.str "0"]) = H9 at s8 r0 r1 r2 r3 r4 r5 r6 r7 r8 ⊢
    refine ⟨(by show 12 ≤ sizeLine; omega), fun D nD => ?_⟩
    have sD := Same.upd (o := .lst ([b0, b1, b2, T0, T1, T2, T3, T4, T5, T6, T7, T8].map V.ref)) nD
    have hD : PgK K (upd H9 D (.lst ([b0, b1, b2, T0, T1, T2, T3, T4, T5, T6, T7, T8].map V.ref))) D lsP :=
      ⟨_, upd_same, .cons (by rw [← v_set2]; exact (hC _).2.1) (.cons (hC _).2.2.1 (.cons (hC _).2.2.2 (.cons (SqT.of (sD _ _ r0)) (.cons (SqT.of (sD _ _ r1)) (.cons (SqT.of (sD _ _ r2)) (.cons (SqT.of (sD _ _ r3)) (.cons (SqT.of (sD _ _ r4)) (.cons (SqT.of (sD _ _ r5)) (.cons (SqT.of (sD _ _ r6)) (.cons (SqT.of (sD _ _ r7)) (.cons (SqT.of (sD _ _ r8)) (.nil))))))))))))⟩
    exact q D _ (s8.trans sD) (same_none s8 nD) hD
abbrev s_together : Stmt := topS 59
abbrev nm_together : List Str := ["programs", "listing", "parts", "program", "held", "part", "made"]
theorem sc_together : FnScope nm_together ["programs"] (defScope s_together) := ⟨rfl, rfl, rfl, by decide +kernel, rfl, by decide +kernel, by decide +kernel⟩
def sp_together (K : PySem.W.Frag) (cl : Cn → Addr) : Sp := fun vs H Q E => ∃ (D : Addr) (ps : List (List Ins)), vs = [.ref D] ∧ PgsAt H D ps ∧ ps.length ≤ 1000 ∧ (∀ p ∈ ps, p.length ≤ 900 ∧ ∀ i ∈ p, i.small) ∧
  (gw ps ≤ 16 → GoodT ps → ∀ r H', Same H H' → H r = none → PgsN K H H' r (ps.map (madP ps)) → Q (.ref r) H') ∧ (gw ps ≤ 16 → ¬ GoodT ps → ∀ H', Same H H' → E (.ref (cl .TooLarge)) none H') ∧ (16 < gw ps → ∀ H', Same H H' → E (.ref (cl .TooWide)) none H')
theorem ok_together (T : Txt K mg cl w) (H_greatest_width : Has P w K mg base (L2.CX P w) 2 "greatest_width" ["programs"] (sp_greatest_width K cl)) (H_listing : Has P w K mg base CX0 1 "_listing" [] (sp_listing K cl)) (H_list_of : Has P w K mg base (L2.CX P w) 1 "list_of" ["trees"] (sp_list_of K cl)) (H_within_limits : Has P w K mg base (L2.CX P w) 2 "within_limits" ["program"] (sp_within_limits K cl)) (H_code : Has P w K mg base (L2.CX P w) 4 "code" ["program"] (sp_code K cl)) {f : Addr} {fd : FuncData} (F : Fun K "together" "together" s_together f fd) : FnOk P w K mg base (L2.CX P w) 5 f fd ["programs"] (sp_together K cl) := by
  have m_reversed := T.m_reversed
  obtain ⟨f_greatest_width, d_greatest_width, G_greatest_width, g_greatest_width, k_greatest_width, b_greatest_width⟩ := H_greatest_width.ex
  obtain ⟨f_listing, d_listing, G_listing, g_listing, k_listing, b_listing⟩ := H_listing.ex
  obtain ⟨f_list_of, d_list_of, G_list_of, g_list_of, k_list_of, b_list_of⟩ := H_list_of.ex
  obtain ⟨f_within_limits, d_within_limits, G_within_limits, g_within_limits, k_within_limits, b_within_limits⟩ := H_within_limits.ex
  obtain ⟨f_code, d_code, G_code, g_code, k_code, b_code⟩ := H_code.ex
  refine F.okX sc_together (fun vs H Q E h => ?_) (fun cdv A outer s H vs Q E hr h => ?_)
  · obtain ⟨D, ps, rfl, _⟩ := h
    rfl
  · obtain ⟨D, ps, rfl, hp, hl, hs, q, e, eW⟩ := h
    have hz : sizeLine = 16777216 := rfl
    refine ⟨_, (pss_cons (ps_expr (pe_callS G_greatest_width (hr.mono (by decide)) (by rfl) g_greatest_width k_greatest_width b_greatest_width (fun σ => passAt (takes_of rfl rfl rfl rfl) σ) (pa_cons (pv 0) pa_nil)))
      (pss_cons (ps_set (i := 1) sc_together.nd rfl (Or.inr rfl) (pe_call0 G_listing (hr.mono (by decide)) (by rfl) g_listing k_listing b_listing .nil pass0))
      (pss_cons (ps_setLc (i := 2) (own := [("program", 3)]) (g := gName 3) (tt := tYes) rfl sc_together.nd rfl rfl (sw_true rfl rfl rfl (by decide +kernel)) (pi_list (pv 0)) (blkOk_by (N := nm_together) (sc := defScope s_together) (by decide +kernel)) (fun _ _ _ _ _ => (pg_name (i := 3) sc_together.nd rfl (Or.inl rfl))) (fun _ _ _ _ _ => pts_nil) (fun _ _ _ _ _ => (pe_lst (StX.pa_star (pv 1) (StX.pa_star (pv 3) pa_nil : PA _ _ (StX.tStar K _ _)) : PA _ _ (StX.tStar K _ _)))))
      (pss_cons (ps_set (i := 4) sc_together.nd rfl (Or.inr rfl) (pe_callS G_list_of (hr.mono (by decide)) (by rfl) g_list_of k_list_of b_list_of (fun σ => passAt (takes_of rfl rfl rfl rfl) σ) (pa_cons (pe_lcE (own := [("part", 5)]) (g := gName 5) (tt := tYes)  rfl rfl (takes_of rfl rfl rfl rfl) rfl sc_together.nd (pi_reversed (by rfl) m_reversed (pa_cons (pv 2) pa_nil)) (blkOk_by (N := nm_together) (sc := defScope s_together) (by decide +kernel)) (fun _ _ _ _ _ => (pg_name (i := 5) sc_together.nd rfl (Or.inl rfl))) (fun _ _ _ _ _ => pts_nil) (fun _ _ _ _ _ xe pa => (pe_callS (E := fun _ => E) G_code (hr.mono (by decide)) (by rfl) g_code k_code b_code pa (pa_cons (pv 5) pa_nil)))) pa_nil)))
      (pss_cons (ps_setLcE (i := 6) (own := [("part", 5)]) (g := gName 5) (tt := tYes)  rfl rfl (takes_of rfl rfl rfl rfl) rfl sc_together.nd rfl rfl (sw_true rfl rfl rfl (by decide +kernel)) (pi_list (pv 2)) (blkOk_by (N := nm_together) (sc := defScope s_together) (by decide +kernel)) (fun _ _ _ _ _ => (pg_name (i := 5) sc_together.nd rfl (Or.inl rfl))) (fun _ _ _ _ _ => pts_nil) (fun _ _ _ _ _ xe pa => (pe_callS (E := fun _ => E) G_within_limits (hr.mono (by decide)) (by rfl) g_within_limits k_within_limits b_within_limits pa (pa_cons (pe_lst (pa_cons (pe_tup (pa_cons pe_str (pa_cons pe_int (pa_cons (pv 4) pa_nil)))) (StX.pa_star (pv 5) pa_nil : PA _ _ (StX.tStar K _ _)))) pa_nil))))
      (pss_cons (ps_expr (pe_callS G_list_of (hr.mono (by decide)) (by rfl) g_list_of k_list_of b_list_of (fun σ => passAt (takes_of rfl rfl rfl rfl) σ) (pa_cons (pe_lcE (own := [("program", 3)]) (g := gName 3) (tt := tYes)  rfl rfl (takes_of rfl rfl rfl rfl) rfl sc_together.nd (pi_list (pv 6)) (blkOk_by (N := nm_together) (sc := defScope s_together) (by decide +kernel)) (fun _ _ _ _ _ => (pg_name (i := 3) sc_together.nd rfl (Or.inl rfl))) (fun _ _ _ _ _ => pts_nil) (fun _ _ _ _ _ xe pa => (pe_callS (E := fun _ => E) G_code (hr.mono (by decide)) (by rfl) g_code k_code b_code pa (pa_cons (pv 3) pa_nil)))) pa_nil)))
      (pss_one (ps_ret (pv 6))))))))), ?_⟩
    refine ⟨_, rfl, D, ps, rfl, hp, by omega, fun hg H1 s1 => ?_, fun hg H1 s1 => eW hg H1 s1⟩
    have q := q hg
    have e := e hg
    clear eW
    refine ⟨rfl, fun L H2 s2 nL hL => ?_⟩
    have s2 := s1.trans s2
    have hp2 := hp.same s2
    clear s1 nL
    -- the parts
    obtain ⟨xs, hx, hr2⟩ := id hp2
    have hxl := Paired.len hr2
    obtain ⟨ls, hls, hlsl⟩ := hL.len
    refine ⟨_, rfl, D, rfl, ⟨_, SqL.of hx⟩, fun P nP => lc_it walk_list (fun j H' => ∃ as, BInv K H2 H' P as ((ps.take j).map partP)) ⟨[], Same.upd nP, upd_same, .nil⟩ (fun j H' _ ⟨_, b⟩ => SqL.of (b.sm _ _ hx)) ?_ ?_⟩
    · rintro j y H3' H3 hj ⟨as, b⟩ ⟨rfl, hy⟩
      obtain ⟨p, hij⟩ : ∃ p, ps[j]? = some p := ⟨_, List.getElem?_eq_getElem (by omega)⟩
      obtain ⟨y2, h1, pa, rfl, hpp⟩ := Paired.get hr2 hij
      rw [hy] at h1
      cases h1
      have hmem := List.mem_of_getElem? hij
      have hpl := (hs p hmem).1
      refine ⟨rfl, ?_⟩
      simp only [tYes, ↓reduceIte]
      obtain ⟨as1, a1, a2⟩ := hL.same b.sm
      obtain ⟨bs1, b1, b2⟩ := (hpp.same b.sm).k (K := K)
      have l1 : as1.length = 12 := Paired.len a2
      have l2 := Paired.len b2
      refine ⟨_, rfl, _, _, rfl, .inr (SqL.of a1), _, rfl, _, _, rfl, .inr (SqL.of b1), (by simp only [List.length_append, List.length_nil, List.length_map]; omega), fun R nR => ?_⟩
      have eL : as1.map V.ref ++ (bs1.map V.ref ++ []) = (as1 ++ bs1).map V.ref := by simp
      rw [eL]
      have sR := Same.upd (o := .lst ((as1 ++ bs1).map V.ref)) nR
      have hR : PgK K (upd H3 R (.lst ((as1 ++ bs1).map V.ref))) R (partP p) := ⟨_, upd_same, Paired.imp (fun _ _ z => Same.seqT sR z) (Paired.app a2 b2)⟩
      refine ⟨_, sR _ _ b.at_, ?_, as ++ [R], ?_⟩
      · rw [b.len, List.length_map, List.length_take]
        omega
      · have := b.push nP sR nR hR
        rw [List.take_add_one, hij, show (ps.take j ++ (some p).toList).map partP = (ps.take j).map partP ++ [partP p] from List.map_append]
        exact this
    rintro H3 ⟨as, b⟩
    rw [hxl, List.take_length] at b
    have hP := b.done
    have s3 := s2.trans b.sm
    have hp3 := hp2.same b.sm
    clear b hx hr2 hxl hls hL hp2 as
    -- the list that is held
    obtain ⟨as, a1, a2⟩ := id hP
    have al : as.length = ps.length := by rw [Paired.len a2, List.length_map]
    have hrev : ∀ (j : Nat), j < ps.length → ∃ (a : Addr) (p : List Ins), p ∈ ps ∧ (as.map V.ref)[(as.map V.ref).length - 1 - j]? = some (V.ref a) ∧ PgK K H3 a (partP p) ∧ ((ps.map partP).reverse)[j]? = some (partP p) := fun j hj => by
      have hj2 : ps.length - 1 - j < ps.length := by omega
      have hi := List.getElem?_eq_getElem hj2
      have hi2 : (ps.map partP)[ps.length - 1 - j]? = some (partP ps[ps.length - 1 - j]) := by rw [List.getElem?_map, hi]; rfl
      obtain ⟨a, g1, g2⟩ := Paired.get a2 hi2
      refine ⟨a, _, List.getElem_mem hj2, ?_, g2, ?_⟩
      · rw [List.length_map, al, List.getElem?_map, g1]
        rfl
      · rw [List.getElem?_reverse (by rw [List.length_map]; exact hj), List.length_map, hi2]
    have rl : (ps.map partP).reverse.length = ps.length := by rw [List.length_reverse, List.length_map]
    have eheld : heldT ps = lstT ((ps.map partP).reverse.map codeT) := by
      unfold heldT
      rw [List.map_reverse, List.map_map]
      rfl
    refine ⟨_, rfl, P, _, rfl, SqL.of a1, fun D3 nD3 => lc_it walk_rev (fun j H' => Same H3 H' ∧ H' D3 = some (.lst (trV ((((ps.map partP).reverse).take j).map codeT))) ∧ ∀ i ∈ ((ps.map partP).reverse).take j, (codeT i).sg.length ≤ 200000) ⟨Same.upd nD3, upd_same, fun _ h => by cases h⟩ (fun j H' _ s => SqL.of (s.1 _ _ a1)) ?_ ?_⟩
    · rintro j y H4 H5 hj ⟨s4, hD, hall⟩ ⟨rfl, hy⟩
      have hjl : j < ps.length := by rw [List.length_map, al] at hj; exact hj
      obtain ⟨a, p, hpm, g1, g2, g3⟩ := hrev j hjl
      rw [g1] at hy
      cases hy
      obtain ⟨hpl, hps⟩ := hs p hpm
      refine ⟨rfl, ?_⟩
      simp only [tYes, ↓reduceIte]
      have lp : (partP p).length = 12 + p.length := by unfold partP; rw [List.length_append]; rfl
      refine ⟨_, rfl, a, partP p, rfl, g2.same s4, by omega, part_small hps, fun c H6 s6 => ?_, fun c H6 s6 => e (fun g => absurd (g.1 p hpm) (by omega)) _ ((s3.trans s4).trans s6)⟩
      refine ⟨_, s6 _ _ hD, ?_, fun b x z => ?_, ?_, fun i hi => ?_⟩
      · rw [trV_len, List.length_map, List.length_take]
        omega
      · rw [upd_ne (ne_of_none z nD3)]
        exact (s4.trans s6) b x z
      · rw [upd_same, List.take_add_one, g3]
        unfold trV
        rw [List.map_append, List.map_append]
        rfl
      · rw [List.take_add_one, g3] at hi
        rcases List.mem_append.mp hi with h | h
        · exact hall i h
        · rw [List.mem_singleton.mp h]
          exact c
    rintro H4 ⟨s4, hD, hall⟩
    rw [List.length_map, al, ← rl, List.take_length] at hD hall
    refine ⟨D3, _, rfl, SqL.of hD, by rw [List.length_map, rl]; omega, fun t ht => ?_, fun c H5 s5 => ?_, fun c H5 s5 => ?_⟩
    · obtain ⟨i, hi, rfl⟩ := List.mem_map.mp ht
      have := hall i hi
      omega
    rotate_left
    · rw [← eheld] at c
      exact e (fun g => absurd g.2.1 (by omega)) _ ((s3.trans s4).trans s5)
    rw [← eheld] at c ⊢
    have hpart : ∀ p ∈ ps, (codeT (partP p)).sg.length ≤ 200000 := fun p hp => hall _ (List.mem_reverse.mpr (List.mem_map.mpr ⟨p, hp, rfl⟩))
    have hh : (heldT ps).sg.length ≤ 200000 := c
    have htl := (heldT ps).str_len
    have s35 := s4.trans s5
    have s5 := s3.trans s35
    have hP5 := hP.same s35
    clear hD hall rl eheld hrev a1 a2 al s4 c hp3 hP as s35 s3
    -- the programs
    obtain ⟨as, a1, a2⟩ := id hP5
    have al : as.length = ps.length := by rw [Paired.len a2, List.length_map]
    refine ⟨_, rfl, P, rfl, ⟨_, SqL.of a1⟩, fun M nM => lc_it walk_list (fun j H' => (∃ bs, BInv K H5 H' M bs ((ps.take j).map (madP ps))) ∧ ∀ p ∈ ps.take j, Fits (madP ps p)) ⟨⟨[], Same.upd nM, upd_same, .nil⟩, fun _ h => by cases h⟩ (fun j H' _ ⟨⟨_, b⟩, _⟩ => SqL.of (b.sm _ _ a1)) ?_ ?_⟩
    · rintro j y H6' H6 hj ⟨⟨bs, b⟩, hfit⟩ ⟨rfl, hy⟩
      obtain ⟨p, hij⟩ : ∃ p, ps[j]? = some p := ⟨_, List.getElem?_eq_getElem (by rw [List.length_map, al] at hj; exact hj)⟩
      have hi2 : (ps.map partP)[j]? = some (partP p) := by rw [List.getElem?_map, hij]; rfl
      obtain ⟨a, g1, g2⟩ := Paired.get a2 hi2
      have ha : (as.map V.ref)[j]? = some (V.ref a) := by rw [List.getElem?_map, g1]; rfl
      rw [ha] at hy
      cases hy
      have hmem := List.mem_of_getElem? hij
      obtain ⟨hpl, hps⟩ := hs p hmem
      refine ⟨rfl, ?_⟩
      simp only [tYes, ↓reduceIte]
      refine ⟨_, rfl, (by show 3 ≤ sizeLine; omega), fun T1 n1 => ?_⟩
      have sT := Same.upd (o := .tup [.str "set", .int 1, .str (heldT ps).str]) n1
      have rT : upd H6 T1 (.tup [.str "set", .int 1, .str (heldT ps).str]) T1 = some (.tup (Ins.set 1 (heldT ps)).vs) := upd_same
      generalize upd H6 T1 (.tup [V.str "set", V.int 1, V.str (heldT ps).str]) = H7 at sT rT ⊢
      obtain ⟨cs, c1, c2⟩ := (g2.same b.sm).same sT
      have cl := Paired.len c2
      have lp : (partP p).length = 12 + p.length := by unfold partP; rw [List.length_append]; rfl
      refine ⟨_, rfl, _, _, rfl, .inr (SqL.of c1), (by simp only [List.length_append, List.length_cons, List.length_nil, List.length_map]; omega), fun R nR => ?_⟩
      have eL : V.ref T1 :: (cs.map V.ref ++ []) = (T1 :: cs).map V.ref := by simp
      rw [eL]
      have sR := Same.upd (o := .lst ((T1 :: cs).map V.ref)) nR
      have hR : PgK K (upd H7 R (.lst ((T1 :: cs).map V.ref))) R (madP ps p) := ⟨_, upd_same, .cons (SqT.of (sR _ _ rT)) (Paired.imp (fun _ _ z => Same.seqT sR z) c2)⟩
      have nRM := same_new sT nR
      have sTR := sT.trans sR
      generalize upd H7 R (.lst ((T1 :: cs).map V.ref)) = H8 at hR sTR ⊢
      have lm := madP_len ps p
      refine ⟨R, madP ps p, rfl, hR, fun i hi => ?_, by omega, fun cf H9 s9 => ?_, fun cf H9 s9 => e (fun g => cf (g.2.2.1 p hmem)) _ (((s5.trans b.sm).trans sTR).trans s9)⟩
      · refine Nat.le_trans (mad_big (b := 200000) hh (by decide) (fun i hi => ?_) i hi) (by decide)
        have := hps i hi
        cases i with
        | set a t => exact this.2
        | _ => exact Nat.zero_le _
      refine ⟨_, (sTR.trans s9) _ _ b.at_, ?_, ⟨bs ++ [R], ?_⟩, fun i hi => ?_⟩
      · rw [b.len, List.length_map, List.length_take]
        omega
      · have := b.push nM (sTR.trans s9) nRM (hR.same s9)
        rw [List.take_add_one, hij, List.map_append]
        exact this
      · rw [List.take_add_one, hij] at hi
        rcases List.mem_append.mp hi with h | h
        · exact hfit i h
        · rw [List.mem_singleton.mp h]
          exact cf
    rintro H6 ⟨⟨bs, b⟩, hfit⟩
    rw [List.length_map, al, List.take_length] at b hfit
    have hM : PgsN K H H6 M (ps.map (madP ps)) := by
      obtain ⟨as, g1, g2⟩ := b.new
      exact ⟨as, g1, Paired.imp (fun _ _ z => ⟨z.1, same_new s5 z.2.1, z.2.2⟩) g2⟩
    have s6 := s5.trans b.sm
    have nM0 : H M = none := same_new s5 nM
    clear b a1 a2 al hP5 s5 nM as
    -- their codes
    obtain ⟨as, a1, a2⟩ := hM.k
    have al : as.length = ps.length := by rw [Paired.len a2, List.length_map]
    have ecodes : codesT ps = lstT ((ps.map (madP ps)).map codeT) := by
      unfold codesT
      rw [List.map_map]
      rfl
    refine ⟨_, rfl, M, rfl, ⟨_, SqL.of a1⟩, fun D3 nD3 => lc_it walk_list (fun j H' => Same H6 H' ∧ H' D3 = some (.lst (trV (((ps.map (madP ps)).take j).map codeT))) ∧ ∀ i ∈ (ps.map (madP ps)).take j, (codeT i).sg.length ≤ 200000) ⟨Same.upd nD3, upd_same, fun _ h => by cases h⟩ (fun j H' _ s => SqL.of (s.1 _ _ a1)) ?_ ?_⟩
    · rintro j y H7 H8 hj ⟨s7, hD, hall⟩ ⟨rfl, hy⟩
      obtain ⟨p, hij⟩ : ∃ p, ps[j]? = some p := ⟨_, List.getElem?_eq_getElem (by rw [List.length_map, al] at hj; exact hj)⟩
      have hi2 : (ps.map (madP ps))[j]? = some (madP ps p) := by rw [List.getElem?_map, hij]; rfl
      obtain ⟨a, g1, g2⟩ := Paired.get a2 hi2
      have ha : (as.map V.ref)[j]? = some (V.ref a) := by rw [List.getElem?_map, g1]; rfl
      rw [ha] at hy
      cases hy
      have hpm := List.mem_of_getElem? hij
      obtain ⟨hpl, hps⟩ := hs p hpm
      have lm := madP_len ps p
      refine ⟨rfl, ?_⟩
      simp only [tYes, ↓reduceIte]
      refine ⟨_, rfl, a, madP ps p, rfl, g2.same s7, by omega, fun i hi => ?_, fun c H9 s9 => ?_, fun c H9 s9 => e (fun g => absurd (g.2.2.2.1 p hpm) (by omega)) _ ((s6.trans s7).trans s9)⟩
      · rcases List.mem_cons.mp hi with rfl | hi
        · exact ⟨by decide, hh⟩
        · exact part_small hps i hi
      refine ⟨_, s9 _ _ hD, ?_, fun b x z => ?_, ?_, fun i hi => ?_⟩
      · rw [trV_len, List.length_map, List.length_take, List.length_map]
        omega
      · rw [upd_ne (ne_of_none z nD3)]
        exact (s7.trans s9) b x z
      · rw [upd_same, List.take_add_one, hi2]
        unfold trV
        rw [List.map_append, List.map_append]
        rfl
      · rw [List.take_add_one, hi2] at hi
        rcases List.mem_append.mp hi with h | h
        · exact hall i h
        · rw [List.mem_singleton.mp h]
          exact c
    rintro H7 ⟨s7, hD, hall⟩
    have ml : (ps.map (madP ps)).length = ps.length := List.length_map _
    rw [List.length_map, al, ← ml, List.take_length] at hD hall
    refine ⟨D3, _, rfl, SqL.of hD, by rw [List.length_map, ml]; omega, fun t ht => ?_, fun c H8 s8 => ?_, fun c H8 s8 => ?_⟩
    · obtain ⟨i, hi, rfl⟩ := List.mem_map.mp ht
      have := hall i hi
      omega
    · rw [← ecodes] at c
      exact ⟨_, rfl, q ⟨hpart, hh, hfit, fun p hp => hall _ (List.mem_map.mpr ⟨p, hp, rfl⟩), c⟩ M H8 ((s6.trans s7).trans s8) nM0 ((hM.same s7).same s8)⟩
    · rw [← ecodes] at c
      exact e (fun g => absurd g.2.2.2.2 (by omega)) _ ((s6.trans s7).trans s8)
abbrev s_law_is_good : Stmt := topS 67
abbrev nm_law_is_good : List Str := ["program", "one"]
theorem sc_law_is_good : FnScope nm_law_is_good ["program"] (defScope s_law_is_good) := ⟨rfl, rfl, rfl, by decide +kernel, rfl, by decide +kernel, by decide +kernel⟩
theorem Ins.len_is (x : Ins) : ((x.vs.length : Nat) : Int) = 3 + (if decide (V.str x.word = V.str (Str.ofString "cons")) = true then 1 else 0) := by
  cases x with
  | set a t => exact (by decide +kernel : (3 : Int) = 3 + (if decide (V.str (Str.ofString "set") = V.str (Str.ofString "cons")) = true then 1 else 0))
  | move a b => exact (by decide +kernel : (3 : Int) = 3 + (if decide (V.str (Str.ofString "move") = V.str (Str.ofString "cons")) = true then 1 else 0))
  | cons a b c => exact (by decide +kernel : (4 : Int) = 3 + (if decide (V.str (Str.ofString "cons") = V.str (Str.ofString "cons")) = true then 1 else 0))
  | head a b => exact (by decide +kernel : (3 : Int) = 3 + (if decide (V.str (Str.ofString "head") = V.str (Str.ofString "cons")) = true then 1 else 0))
  | tail a b => exact (by decide +kernel : (3 : Int) = 3 + (if decide (V.str (Str.ofString "tail") = V.str (Str.ofString "cons")) = true then 1 else 0))
  | jump a n => exact (by decide +kernel : (3 : Int) = 3 + (if decide (V.str (Str.ofString "jump") = V.str (Str.ofString "cons")) = true then 1 else 0))
def sp_law_is_good (K : PySem.W.Frag) (cl : Cn → Addr) : Sp := fun vs H Q _ => ∃ (p : Addr) (is : List Ins), vs = [.ref p] ∧ PgK K H p is ∧ is.length ≤ 600 ∧ ∀ H', Same H H' → Q (.bl true) H'
theorem ok_law_is_good (T : Txt K mg cl w) {f : Addr} {fd : FuncData} (F : Fun K "_law_is_good" "_law_is_good" s_law_is_good f fd) : FnOk P w K mg base CX0 1 f fd ["program"] (sp_law_is_good K cl) := by
  have m_all := T.m_all
  have m_isinstance := T.m_isinstance
  have m_list := T.m_list
  have m_len := T.m_len
  have m_tuple := T.m_tuple
  have m_int := T.m_int
  refine F.ok sc_law_is_good (fun vs H Q E h => ?_) (fun cdv A outer s H vs Q E hr h => ?_)
  · obtain ⟨n, _, rfl, _⟩ := h
    rfl
  · obtain ⟨p, is, rfl, hp, hl, q⟩ := h
    have hz : sizeLine = 16777216 := rfl
    refine ⟨_, (pss_cons (ps_if (PW.pt (pw_or (pt_not (pt_val (pe_callB (call_isi : CallR _ _ (rIsi K)) (by rfl) m_isinstance (by decide +kernel) (pa_cons (pv 0) (pa_cons (pe_bltn (v := .ty "list") (by rfl) m_list (by decide +kernel) rfl) pa_nil))))) (pw_or1 (pt_cmpR op_gt (pe_callB (call_lenS : CallR _ _ (rLenS K)) (by rfl) m_len (by decide +kernel) (pa_cons (pv 0) pa_nil)) pe_int (nomark _))))) (pss_one (ps_ret pe_bl)) pss_nil)
      (pss_one (ps_ret (pe_callB (cr_all rfl) (by rfl) m_all (by decide +kernel) (pa_cons (pe_lc (own := [("one", 1)]) (g := gName 1) (tt := tYes) rfl sc_law_is_good.nd (pi_list (pv 0)) (blkOk_by (N := nm_law_is_good) (sc := defScope s_law_is_good) (by decide +kernel)) (fun _ _ _ _ _ => (pg_name (i := 1) sc_law_is_good.nd rfl (Or.inl rfl))) (fun _ _ _ _ _ => pts_nil) (fun _ _ _ _ _ => (pe_and (pe_callB (call_isi : CallR _ _ (rIsi K)) (by rfl) m_isinstance (by decide +kernel) (pa_cons (pv 1) (pa_cons (pe_bltn (v := .ty "tuple") (by rfl) m_tuple (by decide +kernel) rfl) pa_nil))) (pe_one (pe_cmpR op_eq (pe_callB (call_lenS : CallR _ _ (rLenS K)) (by rfl) m_len (by decide +kernel) (pa_cons (pv 1) pa_nil)) (pe_op op_add pe_int (pe_callTy call_int1 (by rfl) m_int (by decide +kernel) (pa_cons (pe_cmpR op_eq (pe_ix (ix_tup : IxR _ (rIxT K)) (pv 1) pe_int (fun _ _ => rfl)) pe_str (nomark _)) pa_nil))) (nomark _)))))) pa_nil))))), ?_⟩
    obtain ⟨xs, hx, hlen, hget⟩ := hp.get
    refine ⟨_, rfl, _, _, _, _, true, rfl, .ty _, .base (.lst hx), (kit_ty (by decide +kernel)), _, rfl, iteF' rfl ?_⟩
    refine ⟨_, rfl, _, _, rfl, .inl (SqL.of hx), _, _, rfl, rfl, _, rfl, iteF' (decide_eq_false (by omega)) ?_⟩
    refine ⟨_, rfl, p, rfl, ⟨_, SqL.of hx⟩, fun G nG => lc_it (walk_list (K := K) (a := p) (xs := xs)) (fun i H' => Same H H' ∧ H' G = some (.lst (List.replicate i (V.bl true)))) ⟨Same.upd nG, upd_same⟩ (fun i H' _ s => SqL.of (s.1 _ _ hx)) (fun j y Hx Hy hj h1 h2 => ?_) (fun Hb h1 => ?_)⟩
    · obtain ⟨sx, hG⟩ := h1
      obtain ⟨rfl, hy⟩ := h2
      obtain ⟨i, hi⟩ : ∃ i, is[j]? = some i := ⟨_, List.getElem?_eq_getElem (by omega)⟩
      obtain ⟨a, ea, ha⟩ := hget j i hi
      rw [ea] at hy
      cases hy
      have hrow := sx.seqT ha
      have hat0 : atI i.vs 0 = some (.str i.word) := atI_nat (j := 0) rfl
      refine ⟨rfl, ?_⟩
      simp only [tYes, ↓reduceIte]
      refine ⟨_, rfl, _, _, _, _, true, rfl, .ty _, hrow.tyx, (kit_ty (by decide +kernel)), _, rfl, iteT' rfl ?_⟩
      refine ⟨_, rfl, _, _, rfl, .inr hrow, _, rfl, _, _, _, _, rfl, rfl, hrow, hat0, rfl, .inr ⟨_, rfl, _, _, rfl, rfl, rfl, ?_⟩⟩
      rw [decide_eq_true (congrArg V.int i.len_is)]
      refine ⟨_, hG, by rw [List.length_replicate]; omega, fun b o e => ?_, ?_⟩
      · rw [upd_ne (fun z => by rw [z, nG] at e; cases e)]
        exact sx b o e
      · rw [upd_same, List.replicate_succ']
    obtain ⟨sb, hG⟩ := h1
    have hm : ∀ n : Nat, (List.replicate n true).map V.bl = List.replicate n (V.bl true) := fun n => List.map_replicate
    rw [← hm] at hG
    refine ⟨_, _, rfl, SqL.of hG, ?_⟩
    have ha : ∀ n : Nat, (List.replicate n true).all id = true := fun n => by
      rw [List.all_eq_true]
      intro b hb
      rw [(List.mem_replicate.mp hb).2]
      rfl
    rw [ha]
    exact q _ sb
abbrev s_beside_own_code : Stmt := topS 50
abbrev nm_beside_own_code : List Str := ["program"]
theorem sc_beside_own_code : FnScope nm_beside_own_code ["program"] (defScope s_beside_own_code) := ⟨rfl, rfl, rfl, by decide +kernel, rfl, by decide +kernel, by decide +kernel⟩
def sp_beside_own_code (K : PySem.W.Frag) (cl : Cn → Addr) : Sp := fun vs H Q E => ∃ (p : Addr) (is : List Ins), vs = [.ref p] ∧ PgK K H p is ∧ is.length ≤ 980 ∧ (∀ i ∈ is, i.small) ∧
  (GoodW (besP is) → ∀ r H', Same H H' → H r = none → PgK K H' r (wocP (besP is)) → Q (.ref r) H') ∧ (¬ GoodW (besP is) → ∀ H', Same H H' → E (.ref (cl .TooLarge)) none H')
theorem ok_beside_own_code (T : Txt K mg cl w) (H_with_own_code : Has P w K mg base (L2.CX P w) 5 "with_own_code" ["program"] (sp_with_own_code K cl)) {f : Addr} {fd : FuncData} (F : Fun K "beside_own_code" "beside_own_code" s_beside_own_code f fd) : FnOk P w K mg base (L2.CX P w) 6 f fd ["program"] (sp_beside_own_code K cl) := by
  obtain ⟨t_LEAF, m_LEAF⟩ := T.m_LEAF
  obtain ⟨f_with_own_code, d_with_own_code, G_with_own_code, g_with_own_code, k_with_own_code, b_with_own_code⟩ := H_with_own_code.ex
  refine F.okX sc_beside_own_code (fun vs H Q E h => ?_) (fun cdv A outer s H vs Q E hr h => ?_)
  · obtain ⟨p, is, rfl, _⟩ := h
    rfl
  · obtain ⟨p, is, rfl, hp, hl, hs, q, e⟩ := h
    have hz : sizeLine = 16777216 := rfl
    refine ⟨_, (pss_one (ps_ret (pe_callS G_with_own_code (hr.mono (by decide)) (by rfl) g_with_own_code k_with_own_code b_with_own_code (fun σ => passAt (takes_of rfl rfl rfl rfl) σ) (pa_cons (pe_lst (pa_cons (pe_tup (pa_cons pe_str (pa_cons pe_int (pa_cons pe_int (pa_cons pe_int pa_nil))))) (pa_cons (pe_tup (pa_cons pe_str (pa_cons pe_int (pa_cons (pe_glob (v := .str "0") (by rfl) m_LEAF ⟨_, rfl⟩) pa_nil)))) (StX.pa_star (pv 0) pa_nil)))) pa_nil)))), ?_⟩
    refine ⟨(by show 4 ≤ sizeLine; omega), fun T1 n1 => ?_⟩
    have s1 := Same.upd (o := .tup [.str "cons", .int 0, .int 1, .int 0]) n1
    have r1 : upd H T1 (.tup [.str "cons", .int 0, .int 1, .int 0]) T1 = some (.tup (Ins.cons 0 1 0).vs) := upd_same
    generalize upd H T1 (.tup [V.str "cons", V.int 0, V.int 1, V.int 0]) = H1 at s1 r1 ⊢
    refine ⟨(by show 3 ≤ sizeLine; omega), fun T2 n2 => ?_⟩
    have s2 := Same.upd (o := .tup [.str "set", .int 1, .str "0"]) n2
    have r2 : upd H1 T2 (.tup [.str "set", .int 1, .str "0"]) T2 = some (.tup (Ins.set 1 .leaf).vs) := by rw [← v_leaf1]; exact upd_same
    generalize upd H1 T2 (.tup [V.str "set", V.int 1, V.str "0"]) = H2 at s2 r2 ⊢
    obtain ⟨as, a1, a2⟩ := (hp.same s1).same s2
    have al := Paired.len a2
    refine ⟨_, rfl, _, _, rfl, .inr (SqL.of a1), (by simp only [List.length_append, List.length_cons, List.length_nil, List.length_map]; omega), fun D nD => ?_⟩
    have eL : V.ref T1 :: V.ref T2 :: (as.map V.ref ++ []) = (T1 :: T2 :: as).map V.ref := by simp
    rw [eL]
    have sD := Same.upd (o := .lst ((T1 :: T2 :: as).map V.ref)) nD
    have hD : PgK K (upd H2 D (.lst ((T1 :: T2 :: as).map V.ref))) D (besP is) :=
      ⟨_, upd_same, .cons (SqT.of (sD _ _ (s2 _ _ r1))) (.cons (SqT.of (sD _ _ r2)) (Paired.imp (fun _ _ z => Same.seqT sD z) a2))⟩
    have s3 := (s1.trans s2).trans sD
    refine ⟨D, _, rfl, hD, (by show is.length + 2 ≤ 990; omega), besP_small hs, fun c r H' s4 n4 h4 => ?_, fun c H' s4 => e c H' (s3.trans s4)⟩
    exact q c r H' (s3.trans s4) (same_new s3 n4) h4
abbrev s_choice : Stmt := topS 54
abbrev nm_choice : List Str := ["condition", "first", "second", "kept", "clean_first", "clean_second"]
theorem sc_choice : FnScope nm_choice ["condition", "first", "second"] (defScope s_choice) := ⟨rfl, rfl, rfl, by decide +kernel, rfl, by decide +kernel, by decide +kernel⟩
def sp_choice (K : PySem.W.Frag) (cl : Cn → Addr) : Sp := fun vs H Q E => ∃ (a b e : Addr) (c p q : List Ins), vs = [.ref a, .ref b, .ref e] ∧ PgAt H a c ∧ PgAt H b p ∧ PgAt H e q ∧ c.length ≤ 1000 ∧ (∀ i ∈ c, i.big ≤ 1000000) ∧ p.length ≤ 1000 ∧ (∀ i ∈ p, i.big ≤ 1000000) ∧ q.length ≤ 1000 ∧ (∀ i ∈ q, i.big ≤ 1000000) ∧
  (gw [c, p, q] ≤ 16 → Fits (choiceP (gw [c, p, q]) c p q) → ∀ r H', Same H H' → H r = none → PgAt H' r (choiceP (gw [c, p, q]) c p q) → Q (.ref r) H') ∧ (16 < gw [c, p, q] → ∀ H', Same H H' → E (.ref (cl .TooWide)) none H') ∧ (gw [c, p, q] ≤ 16 → ¬ Fits (choiceP (gw [c, p, q]) c p q) → ∀ H', Same H H' → E (.ref (cl .TooLarge)) none H')
theorem ok_choice (T : Txt K mg cl w) (H_greatest_width : Has P w K mg base (L2.CX P w) 2 "greatest_width" ["programs"] (sp_greatest_width K cl)) (H_cleaning : Has P w K mg base CX0 2 "cleaning" ["program"] (sp_cleaning K cl)) (H_within_limits : Has P w K mg base (L2.CX P w) 2 "within_limits" ["program"] (sp_within_limits K cl)) (H_placed : Has P w K mg base CX0 1 "placed" ["lines"] (sp_placed K cl)) {f : Addr} {fd : FuncData} (F : Fun K "choice" "choice" s_choice f fd) : FnOk P w K mg base (L2.CX P w) 3 f fd ["condition", "first", "second"] (sp_choice K cl) := by
  obtain ⟨t_PAIR, m_PAIR⟩ := T.m_PAIR
  obtain ⟨f_greatest_width, d_greatest_width, G_greatest_width, g_greatest_width, k_greatest_width, b_greatest_width⟩ := H_greatest_width.ex
  obtain ⟨f_cleaning, d_cleaning, G_cleaning, g_cleaning, k_cleaning, b_cleaning⟩ := H_cleaning.ex
  obtain ⟨f_within_limits, d_within_limits, G_within_limits, g_within_limits, k_within_limits, b_within_limits⟩ := H_within_limits.ex
  obtain ⟨f_placed, d_placed, G_placed, g_placed, k_placed, b_placed⟩ := H_placed.ex
  refine F.okX sc_choice (fun vs H Q E h => ?_) (fun cdv A outer s H vs Q E hr h => ?_)
  · obtain ⟨_, _, _, _, _, _, rfl, _⟩ := h
    rfl
  · obtain ⟨a, b, e, c, p, q, rfl, hc, hp, hq, hcl, hcb, hpl, hpb, hql, hqb, qq, eW, eL⟩ := h
    have hz : sizeLine = 16777216 := rfl
    refine ⟨_, (pss_cons (ps_set (i := 3) sc_choice.nd rfl (Or.inl rfl) (pe_callS G_greatest_width (hr.mono (by decide)) (by rfl) g_greatest_width k_greatest_width b_greatest_width (fun σ => passAt (takes_of rfl rfl rfl rfl) σ) (pa_cons (pe_lst (pa_cons (pv 0) (pa_cons (pv 1) (pa_cons (pv 2) pa_nil)))) pa_nil)))
      (pss_cons (ps_set (i := 4) sc_choice.nd rfl (Or.inl rfl) (pe_call G_cleaning (hr.mono (by decide)) (by rfl) g_cleaning k_cleaning b_cleaning .nil pass0 (pa_cons (pv 1) pa_nil)))
      (pss_cons (ps_set (i := 5) sc_choice.nd rfl (Or.inl rfl) (pe_call G_cleaning (hr.mono (by decide)) (by rfl) g_cleaning k_cleaning b_cleaning .nil pass0 (pa_cons (pv 2) pa_nil)))
      (pss_one (ps_ret (pe_callS G_within_limits (hr.mono (by decide)) (by rfl) g_within_limits k_within_limits b_within_limits (fun σ => passAt (takes_of rfl rfl rfl rfl) σ) (pa_cons (pe_call G_placed (hr.mono (by decide)) (by rfl) g_placed k_placed b_placed .nil pass0 (pa_cons (pe_lst (pa_cons (pe_tup (pa_cons pe_str (pa_cons (pv 3) (pa_cons pe_int pa_nil)))) (StX.pa_star (pv 0) (pa_cons (pe_tup (pa_cons pe_str (pa_cons pe_int (pa_cons pe_str pa_nil)))) (pa_cons (pe_tup (pa_cons pe_str (pa_cons pe_int (pa_cons (pv 3) pa_nil)))) (StX.pa_star (pv 5) (StX.pa_star (pv 2) (pa_cons (pe_tup (pa_cons pe_str (pa_cons (pv 3) (pa_cons (pe_glob (v := .str "100") (by rfl) m_PAIR ⟨_, rfl⟩) pa_nil)))) (pa_cons (pe_tup (pa_cons pe_str (pa_cons (pv 3) (pa_cons pe_str pa_nil)))) (pa_cons (pe_tup (pa_cons pe_str (pa_cons pe_str pa_nil))) (pa_cons (pe_tup (pa_cons pe_str (pa_cons pe_int (pa_cons (pv 3) pa_nil)))) (StX.pa_star (pv 4) (StX.pa_star (pv 1) (pa_cons (pe_tup (pa_cons pe_str (pa_cons pe_str pa_nil))) pa_nil)))))))))))))) pa_nil)) pa_nil))))))), ?_⟩
    refine ⟨_, rfl, _, rfl, _, rfl, (by show 3 ≤ sizeLine; omega), fun G nG => ?_⟩
    have sG := Same.upd (o := .lst [.ref a, .ref b, .ref e]) nG
    have hG : PgsAt (upd H G (.lst [.ref a, .ref b, .ref e])) G [c, p, q] := ⟨_, upd_same, .cons ⟨a, rfl, hc.same sG⟩ (.cons ⟨b, rfl, hp.same sG⟩ (.cons ⟨e, rfl, hq.same sG⟩ .nil))⟩
    generalize upd H G (.lst [V.ref a, V.ref b, V.ref e]) = H1 at sG hG ⊢
    refine ⟨G, [c, p, q], rfl, hG, (by show 3 ≤ 1000000; decide), fun hg H2 s2 => ?_, fun hg H2 s2 => eW hg H2 (sG.trans s2)⟩
    have s2' := sG.trans s2
    have wp : wid p ≤ 16 := (gw_le (by decide)).mp hg p (by simp)
    refine ⟨_, rfl, b, p, rfl, hp.same s2', by omega, fun Cp H3 s3 nCp hCp => ?_⟩
    have s3' := s2'.trans s3
    have wq : wid q ≤ 16 := (gw_le (by decide)).mp hg q (by simp)
    refine ⟨_, rfl, e, q, rfl, hq.same s3', by omega, fun Cq H4 s4 nCq hCq => ?_⟩
    have s4' := s3'.trans s4
    have hCp := hCp.same ((Same.refl _).trans s4)
    have wlp := cln_len (wid p)
    have hCq := hCq.same (Same.refl _)
    have wlq := cln_len (wid q)
    have z4 := Same.refl H4
    refine ⟨_, rfl, (by show 3 ≤ sizeLine; omega), fun T1 n1 => ?_⟩
    have g1 : upd H4 T1 (.tup [V.str (Str.ofString "move"), V.int (gw [c, p, q] : Nat), V.int 0]) T1 = some (.tup (Line.vs (.ins (.move (gw [c, p, q]) 0)))) := upd_same
    have u1 := Same.upd (o := .tup [V.str (Str.ofString "move"), V.int (gw [c, p, q] : Nat), V.int 0]) n1
    generalize upd H4 T1 (.tup [V.str (Str.ofString "move"), V.int (gw [c, p, q] : Nat), V.int 0]) = H5 at g1 u1 ⊢
    have s5' := s4'.trans u1
    have z5 := z4.trans u1
    obtain ⟨pcs, pc1, pc2⟩ := hc.same s5'
    refine ⟨_, rfl, _, _, rfl, .inr (SqL.of pc1), (by show 3 ≤ sizeLine; omega), fun T2 n2 => ?_⟩
    have g2 : upd H5 T2 (.tup [V.str (Str.ofString "jump"), V.int 0, V.str (Str.ofString "first")]) T2 = some (.tup (Line.vs (.jmp 0 "first"))) := upd_same
    have u2 := Same.upd (o := .tup [V.str (Str.ofString "jump"), V.int 0, V.str (Str.ofString "first")]) n2
    generalize upd H5 T2 (.tup [V.str (Str.ofString "jump"), V.int 0, V.str (Str.ofString "first")]) = H6 at g2 u2 ⊢
    have s6' := s5'.trans u2
    have z6 := z5.trans u2
    refine ⟨_, rfl, (by show 3 ≤ sizeLine; omega), fun T3 n3 => ?_⟩
    have g3 : upd H6 T3 (.tup [V.str (Str.ofString "move"), V.int 0, V.int (gw [c, p, q] : Nat)]) T3 = some (.tup (Line.vs (.ins (.move 0 (gw [c, p, q]))))) := upd_same
    have u3 := Same.upd (o := .tup [V.str (Str.ofString "move"), V.int 0, V.int (gw [c, p, q] : Nat)]) n3
    generalize upd H6 T3 (.tup [V.str (Str.ofString "move"), V.int 0, V.int (gw [c, p, q] : Nat)]) = H7 at g3 u3 ⊢
    have s7' := s6'.trans u3
    have z7 := z6.trans u3
    obtain ⟨kqs, kq1, kq2⟩ := hCq.same z7
    obtain ⟨pqs, pq1, pq2⟩ := hq.same s7'
    refine ⟨_, rfl, _, _, rfl, .inr (SqL.of kq1), _, rfl, _, _, rfl, .inr (SqL.of pq1), _, rfl, (by show 3 ≤ sizeLine; omega), fun T4 n4 => ?_⟩
    have g4 : upd H7 T4 (.tup [V.str (Str.ofString "set"), V.int (gw [c, p, q] : Nat), V.str (Str.ofString "100")]) T4 = some (.tup (Line.vs (.ins (.set (gw [c, p, q]) p100)))) := upd_same |>.trans (by rw [s100]; rfl)
    have u4 := Same.upd (o := .tup [V.str (Str.ofString "set"), V.int (gw [c, p, q] : Nat), V.str (Str.ofString "100")]) n4
    generalize upd H7 T4 (.tup [V.str (Str.ofString "set"), V.int (gw [c, p, q] : Nat), V.str (Str.ofString "100")]) = H8 at g4 u4 ⊢
    have s8' := s7'.trans u4
    have z8 := z7.trans u4
    refine ⟨_, rfl, (by show 3 ≤ sizeLine; omega), fun T5 n5 => ?_⟩
    have g5 : upd H8 T5 (.tup [V.str (Str.ofString "jump"), V.int (gw [c, p, q] : Nat), V.str (Str.ofString "end")]) T5 = some (.tup (Line.vs (.jmp (gw [c, p, q]) "end"))) := upd_same
    have u5 := Same.upd (o := .tup [V.str (Str.ofString "jump"), V.int (gw [c, p, q] : Nat), V.str (Str.ofString "end")]) n5
    generalize upd H8 T5 (.tup [V.str (Str.ofString "jump"), V.int (gw [c, p, q] : Nat), V.str (Str.ofString "end")]) = H9 at g5 u5 ⊢
    have s9' := s8'.trans u5
    have z9 := z8.trans u5
    refine ⟨(by show 2 ≤ sizeLine; omega), fun T6 n6 => ?_⟩
    have g6 : upd H9 T6 (.tup [V.str (Str.ofString "mark"), V.str (Str.ofString "first")]) T6 = some (.tup (Line.vs (.mark "first"))) := upd_same
    have u6 := Same.upd (o := .tup [V.str (Str.ofString "mark"), V.str (Str.ofString "first")]) n6
    generalize upd H9 T6 (.tup [V.str (Str.ofString "mark"), V.str (Str.ofString "first")]) = H10 at g6 u6 ⊢
    have s10' := s9'.trans u6
    have z10 := z9.trans u6
    refine ⟨_, rfl, (by show 3 ≤ sizeLine; omega), fun T7 n7 => ?_⟩
    have g7 : upd H10 T7 (.tup [V.str (Str.ofString "move"), V.int 0, V.int (gw [c, p, q] : Nat)]) T7 = some (.tup (Line.vs (.ins (.move 0 (gw [c, p, q]))))) := upd_same
    have u7 := Same.upd (o := .tup [V.str (Str.ofString "move"), V.int 0, V.int (gw [c, p, q] : Nat)]) n7
    generalize upd H10 T7 (.tup [V.str (Str.ofString "move"), V.int 0, V.int (gw [c, p, q] : Nat)]) = H11 at g7 u7 ⊢
    have s11' := s10'.trans u7
    have z11 := z10.trans u7
    obtain ⟨kps, kp1, kp2⟩ := hCp.same z11
    obtain ⟨pps, pp1, pp2⟩ := hp.same s11'
    refine ⟨_, rfl, _, _, rfl, .inr (SqL.of kp1), _, rfl, _, _, rfl, .inr (SqL.of pp1), (by show 2 ≤ sizeLine; omega), fun T8 n8 => ?_⟩
    have g8 : upd H11 T8 (.tup [V.str (Str.ofString "mark"), V.str (Str.ofString "end")]) T8 = some (.tup (Line.vs (.mark "end"))) := upd_same
    have u8 := Same.upd (o := .tup [V.str (Str.ofString "mark"), V.str (Str.ofString "end")]) n8
    generalize upd H11 T8 (.tup [V.str (Str.ofString "mark"), V.str (Str.ofString "end")]) = H12 at g8 u8 ⊢
    have s12' := s11'.trans u8
    have z12 := z11.trans u8
    have pcl := Paired.len pc2
    have kql := Paired.len kq2
    have pql := Paired.len pq2
    have kpl := Paired.len kp2
    have ppl := Paired.len pp2
    refine ⟨?_, fun R nR => ?_⟩
    · simp only [List.length_cons, List.length_append, List.length_map, List.length_nil]
      omega
    have u9 := Same.upd (o := .lst (V.ref T1 :: (pcs.map V.ref ++ (V.ref T2 :: (V.ref T3 :: (kqs.map V.ref ++ (pqs.map V.ref ++ (V.ref T4 :: (V.ref T5 :: (V.ref T6 :: (V.ref T7 :: (kps.map V.ref ++ (pps.map V.ref ++ (V.ref T8 :: [])))))))))))))) nR
    have hR : Lns (upd H12 R (.lst (V.ref T1 :: (pcs.map V.ref ++ (V.ref T2 :: (V.ref T3 :: (kqs.map V.ref ++ (pqs.map V.ref ++ (V.ref T4 :: (V.ref T5 :: (V.ref T6 :: (V.ref T7 :: (kps.map V.ref ++ (pps.map V.ref ++ (V.ref T8 :: []))))))))))))))) (V.ref T1 :: (pcs.map V.ref ++ (V.ref T2 :: (V.ref T3 :: (kqs.map V.ref ++ (pqs.map V.ref ++ (V.ref T4 :: (V.ref T5 :: (V.ref T6 :: (V.ref T7 :: (kps.map V.ref ++ (pps.map V.ref ++ (V.ref T8 :: []))))))))))))) (choiceL (gw [c, p, q]) c p q) := by
      exact (.cons ⟨T1, rfl, (((((((u2.trans u3).trans u4).trans u5).trans u6).trans u7).trans u8).trans u9) _ _ g1⟩ (Paired.app (Lns.same (rows_lns pc2) (((((((u2.trans u3).trans u4).trans u5).trans u6).trans u7).trans u8).trans u9)) (.cons ⟨T2, rfl, ((((((u3.trans u4).trans u5).trans u6).trans u7).trans u8).trans u9) _ _ g2⟩ (.cons ⟨T3, rfl, (((((u4.trans u5).trans u6).trans u7).trans u8).trans u9) _ _ g3⟩ (Paired.app (Lns.same (rows_lns kq2) (((((u4.trans u5).trans u6).trans u7).trans u8).trans u9)) (Paired.app (Lns.same (rows_lns pq2) (((((u4.trans u5).trans u6).trans u7).trans u8).trans u9)) (.cons ⟨T4, rfl, ((((u5.trans u6).trans u7).trans u8).trans u9) _ _ g4⟩ (.cons ⟨T5, rfl, (((u6.trans u7).trans u8).trans u9) _ _ g5⟩ (.cons ⟨T6, rfl, ((u7.trans u8).trans u9) _ _ g6⟩ (.cons ⟨T7, rfl, (u8.trans u9) _ _ g7⟩ (Paired.app (Lns.same (rows_lns kp2) (u8.trans u9)) (Paired.app (Lns.same (rows_lns pp2) (u8.trans u9)) (.cons ⟨T8, rfl, u9 _ _ g8⟩ .nil)))))))))))))
    have gR : upd H12 R (.lst (V.ref T1 :: (pcs.map V.ref ++ (V.ref T2 :: (V.ref T3 :: (kqs.map V.ref ++ (pqs.map V.ref ++ (V.ref T4 :: (V.ref T5 :: (V.ref T6 :: (V.ref T7 :: (kps.map V.ref ++ (pps.map V.ref ++ (V.ref T8 :: [])))))))))))))) R = some (.lst (V.ref T1 :: (pcs.map V.ref ++ (V.ref T2 :: (V.ref T3 :: (kqs.map V.ref ++ (pqs.map V.ref ++ (V.ref T4 :: (V.ref T5 :: (V.ref T6 :: (V.ref T7 :: (kps.map V.ref ++ (pps.map V.ref ++ (V.ref T8 :: [])))))))))))))) := upd_same
    have sR' := s12'.trans u9
    generalize upd H12 R (.lst (V.ref T1 :: (pcs.map V.ref ++ (V.ref T2 :: (V.ref T3 :: (kqs.map V.ref ++ (pqs.map V.ref ++ (V.ref T4 :: (V.ref T5 :: (V.ref T6 :: (V.ref T7 :: (kps.map V.ref ++ (pps.map V.ref ++ (V.ref T8 :: [])))))))))))))) = H13 at hR gR sR' ⊢
    have hll : (choiceL (gw [c, p, q]) c p q).length ≤ 1000000 := by
      rw [← Paired.len hR]
      simp only [List.length_cons, List.length_append, List.length_map, List.length_nil]
      omega
    refine ⟨R, _, choiceL (gw [c, p, q]) c p q, choiceD c p q, rfl, gR, hR, hll, fun r n hm => ?_, fun l hm x e => ?_, fun Z H14 s14 nZ hZ => ?_⟩
    · have h1 : n = "first" ∨ n = "end" := by
        unfold choiceL at hm
        simp only [List.mem_cons, List.mem_append, List.mem_map, List.not_mem_nil, or_false, reduceCtorEq, false_or, and_false, exists_false, Line.jmp.injEq] at hm
        rcases hm with h | h
        · exact .inl h.2
        · exact .inr h.2
      rcases h1 with rfl | rfl
      · exact (choice_first _ c p q).trans (congrArg some (if_pos rfl).symm)
      · exact (choice_end _ c p q).trans (congrArg some (if_neg n_ef).symm)
    · subst e
      unfold choiceL at hm
      simp only [List.mem_cons, List.mem_append, List.mem_map, List.not_mem_nil, or_false, reduceCtorEq, false_or, Line.ins.injEq, exists_eq_right] at hm
      rcases hm with rfl | hm | rfl | hm | hm | rfl | rfl | hm | hm
      · exact Nat.zero_le _
      · exact hcb x hm
      · exact Nat.zero_le _
      · rw [cln_big hm]
        decide
      · exact hqb x hm
      · show 3 ≤ _
        decide
      · exact Nat.zero_le _
      · rw [cln_big hm]
        decide
      · exact hpb x hm
    rw [choice_is] at hZ
    have sZ := sR'.trans s14
    refine ⟨Z, _, rfl, hZ, fun i hi => ?_, ?_, fun hf H15 s15 => qq hg hf Z H15 (sZ.trans s15) (same_new sR' nZ) (hZ.same s15), fun hf H15 s15 => eL hg hf H15 (sZ.trans s15)⟩
    · unfold choiceP at hi
      simp only [List.mem_cons, List.mem_append, List.not_mem_nil, or_false] at hi
      rcases hi with rfl | hi | rfl | rfl | hi | hi | rfl | rfl | rfl | hi | hi
      · exact Nat.zero_le _
      · exact hcb i hi
      · exact Nat.zero_le _
      · exact Nat.zero_le _
      · rw [cln_big hi]
        decide
      · exact hqb i hi
      · show 3 ≤ _
        decide
      · exact Nat.zero_le _
      · exact Nat.zero_le _
      · rw [cln_big hi]
        decide
      · exact hpb i hi
    · unfold choiceP
      simp only [List.length_cons, List.length_append, List.length_nil]
      omega
abbrev s_defeat : Stmt := topS 56
abbrev nm_defeat : List Str := ["decider", "yes", "no"]
theorem sc_defeat : FnScope nm_defeat ["decider", "yes", "no"] (defScope s_defeat) := ⟨rfl, rfl, rfl, by decide +kernel, rfl, by decide +kernel, by decide +kernel⟩
/-- a program behind one more instruction -/
theorem pg_front {H : Hp} {p T D : Addr} {is : List Ins} {i : Ins} {as : List Addr} (hp : H p = some (.lst (as.map V.ref))) (hr : Rows H as is) (hT : H T = some (.tup i.vs)) (nD : H D = none) : PgAt (upd H D (.lst (V.ref T :: as.map V.ref))) D (i :: is) :=
  ⟨T :: as, upd_same, .cons (Same.upd nD _ _ hT) (Rows.same (Same.upd nD) hr)⟩
def sp_defeat (K : PySem.W.Frag) (cl : Cn → Addr) : Sp := fun vs H Q E => ∃ (a b e : Addr) (d yes no : List Ins), vs = [.ref a, .ref b, .ref e] ∧ PgAt H a d ∧ PgAt H b yes ∧ PgAt H e no ∧ d.length ≤ 900 ∧ (∀ i ∈ d, i.small) ∧ yes.length ≤ 900 ∧ (∀ i ∈ yes, i.small) ∧ no.length ≤ 900 ∧ (∀ i ∈ no, i.small) ∧
  (deW d yes no ≤ 16 → Fits (deP d yes no) → (∀ i ∈ deP d yes no, i.small) ∧ (GoodW (besP (deP d yes no)) → ∀ r H', Same H H' → H r = none → PgK K H' r (knP (deP d yes no)) → Q (.ref r) H')) ∧ (deW d yes no ≤ 16 → ¬ (Fits (deP d yes no) ∧ GoodW (besP (deP d yes no))) → ∀ H', Same H H' → E (.ref (cl .TooLarge)) none H') ∧ (16 < deW d yes no → ∀ H', Same H H' → E (.ref (cl .TooWide)) none H')
theorem ok_defeat (T : Txt K mg cl w) (H_beside_own_code : Has P w K mg base (L2.CX P w) 6 "beside_own_code" ["program"] (sp_beside_own_code K cl)) (H_choice : Has P w K mg base (L2.CX P w) 3 "choice" ["condition", "first", "second"] (sp_choice K cl)) {f : Addr} {fd : FuncData} (F : Fun K "defeat" "defeat" s_defeat f fd) : FnOk P w K mg base (L2.CX P w) 7 f fd ["decider", "yes", "no"] (sp_defeat K cl) := by
  obtain ⟨f_beside_own_code, d_beside_own_code, G_beside_own_code, g_beside_own_code, k_beside_own_code, b_beside_own_code⟩ := H_beside_own_code.ex
  obtain ⟨f_choice, d_choice, G_choice, g_choice, k_choice, b_choice⟩ := H_choice.ex
  refine F.okX sc_defeat (fun vs H Q E h => ?_) (fun cdv A outer s H vs Q E hr h => ?_)
  · obtain ⟨a, b, e, d, yes, no, rfl, _⟩ := h
    rfl
  · obtain ⟨a, b, e, d, yes, no, rfl, ha, hb, he, l1, m1, l2, m2, l3, m3, q, eL, eW⟩ := h
    have hz : sizeLine = 16777216 := rfl
    have big : ∀ {i : Ins}, i.small → i.big ≤ 1000000 := fun {i} h => by
      cases i with
      | set a t =>
        have h2 : t.sg.length ≤ 200000 := h.2
        show t.sg.length ≤ 1000000
        omega
      | _ => exact Nat.zero_le _
    have bigs : ∀ {l : List Ins} {i0 : Ins}, i0.big = 0 → (∀ i ∈ l, i.small) → ∀ i ∈ i0 :: l, i.big ≤ 1000000 := fun {l i0} h0 h i hi => by
      rcases List.mem_cons.mp hi with rfl | hi
      · rw [h0]; exact Nat.zero_le _
      · exact big (h i hi)
    refine ⟨_, (pss_one (ps_ret (pe_callS G_beside_own_code (hr.mono (by decide)) (by rfl) g_beside_own_code k_beside_own_code b_beside_own_code (fun σ => passAt (takes_of rfl rfl rfl rfl) σ) (pa_cons (pe_callS G_choice (hr.mono (by decide)) (by rfl) g_choice k_choice b_choice (fun σ => passAt (takes_of rfl rfl rfl rfl) σ) (pa_cons (pe_lst (pa_cons (pe_tup (pa_cons pe_str (pa_cons pe_int (pa_cons pe_int pa_nil)))) (StX.pa_star (pv 0) pa_nil))) (pa_cons (pe_lst (pa_cons (pe_tup (pa_cons pe_str (pa_cons pe_int (pa_cons pe_int pa_nil)))) (StX.pa_star (pv 2) pa_nil))) (pa_cons (pe_lst (pa_cons (pe_tup (pa_cons pe_str (pa_cons pe_int (pa_cons pe_int pa_nil)))) (StX.pa_star (pv 1) pa_nil))) pa_nil)))) pa_nil)))), ?_⟩
    obtain ⟨as, a1, a2⟩ := id ha
    obtain ⟨bs, b1, b2⟩ := id hb
    obtain ⟨es, e1, e2⟩ := id he
    have al := Paired.len a2
    have bl := Paired.len b2
    have el := Paired.len e2
    -- the condition
    refine ⟨(by show 3 ≤ sizeLine; omega), fun T1 n1 => ?_⟩
    have s1 := Same.upd (o := .tup [.str "head", .int 0, .int 0]) n1
    have r1 : upd H T1 (.tup [.str "head", .int 0, .int 0]) T1 = some (.tup hdI.vs) := upd_same
    generalize upd H T1 (.tup [V.str "head", V.int 0, V.int 0]) = H1 at s1 r1 ⊢
    refine ⟨_, rfl, _, _, rfl, .inr (SqL.of (s1 _ _ a1)), (by simp only [List.length_append, List.length_cons, List.length_nil, List.length_map]; omega), fun D1 nD1 => ?_⟩
    rw [List.append_nil]
    have hd1 := pg_front (i := hdI) (s1 _ _ a1) (Rows.same s1 a2) r1 nD1
    have s2 := s1.trans (Same.upd (o := .lst (V.ref T1 :: as.map V.ref)) nD1)
    generalize upd H1 D1 (.lst (V.ref T1 :: as.map V.ref)) = H2 at hd1 s2 ⊢
    -- the first
    refine ⟨(by show 3 ≤ sizeLine; omega), fun T2 n2 => ?_⟩
    have s3 := Same.upd (o := .tup [.str "tail", .int 0, .int 0]) n2
    have r2 : upd H2 T2 (.tup [.str "tail", .int 0, .int 0]) T2 = some (.tup tlI.vs) := upd_same
    have hd1 := hd1.same s3
    have s3 := s2.trans s3
    generalize upd H2 T2 (.tup [V.str "tail", V.int 0, V.int 0]) = H3 at s3 r2 hd1 ⊢
    refine ⟨_, rfl, _, _, rfl, .inr (SqL.of (s3 _ _ e1)), (by simp only [List.length_append, List.length_cons, List.length_nil, List.length_map]; omega), fun D2 nD2 => ?_⟩
    rw [List.append_nil]
    have hd2 := pg_front (i := tlI) (s3 _ _ e1) (Rows.same s3 e2) r2 nD2
    have hd1 := hd1.same (Same.upd (o := .lst (V.ref T2 :: es.map V.ref)) nD2)
    have s4 := s3.trans (Same.upd (o := .lst (V.ref T2 :: es.map V.ref)) nD2)
    generalize upd H3 D2 (.lst (V.ref T2 :: es.map V.ref)) = H4 at hd1 hd2 s4 ⊢
    -- the second
    refine ⟨(by show 3 ≤ sizeLine; omega), fun T3 n3 => ?_⟩
    have s5 := Same.upd (o := .tup [.str "tail", .int 0, .int 0]) n3
    have r3 : upd H4 T3 (.tup [.str "tail", .int 0, .int 0]) T3 = some (.tup tlI.vs) := upd_same
    have hd1 := hd1.same s5
    have hd2 := hd2.same s5
    have s5 := s4.trans s5
    generalize upd H4 T3 (.tup [V.str "tail", V.int 0, V.int 0]) = H5 at s5 r3 hd1 hd2 ⊢
    refine ⟨_, rfl, _, _, rfl, .inr (SqL.of (s5 _ _ b1)), (by simp only [List.length_append, List.length_cons, List.length_nil, List.length_map]; omega), fun D3 nD3 => ?_⟩
    rw [List.append_nil]
    have hd3 := pg_front (i := tlI) (s5 _ _ b1) (Rows.same s5 b2) r3 nD3
    have hd1 := hd1.same (Same.upd (o := .lst (V.ref T3 :: bs.map V.ref)) nD3)
    have hd2 := hd2.same (Same.upd (o := .lst (V.ref T3 :: bs.map V.ref)) nD3)
    have s6 := s5.trans (Same.upd (o := .lst (V.ref T3 :: bs.map V.ref)) nD3)
    generalize upd H5 D3 (.lst (V.ref T3 :: bs.map V.ref)) = H6 at hd1 hd2 hd3 s6 ⊢
    refine ⟨D1, D2, D3, hdI :: d, tlI :: no, tlI :: yes, rfl, hd1, hd2, hd3, (by rw [List.length_cons]; omega), bigs rfl m1, (by rw [List.length_cons]; omega), bigs rfl m3, (by rw [List.length_cons]; omega), bigs rfl m2, fun c1 c2 r H7 s7 n7 h7 => ?_, fun c H7 s7 => eW c H7 (s6.trans s7), fun c1 c2 H7 s7 => eL c1 (fun c => c2 c.1) H7 (s6.trans s7)⟩
    have s67 := s6.trans s7
    obtain ⟨sm, q⟩ := q c1 c2
    refine ⟨r, deP d yes no, rfl, h7.k, Nat.le_trans c2.1 (by decide), sm, fun c3 r2 H8 s8 n8 h8 => ?_, fun c3 H8 s8 => eL c1 (fun c => c3 c.2) H8 (s67.trans s8)⟩
    exact q c3 r2 H8 (s67.trans s8) (same_new s67 n8) h8
abbrev s_knowing : Stmt := topS 47
abbrev nm_knowing : List Str := ["program"]
theorem sc_knowing : FnScope nm_knowing ["program"] (defScope s_knowing) := ⟨rfl, rfl, rfl, by decide +kernel, rfl, by decide +kernel, by decide +kernel⟩
def sp_knowing (K : PySem.W.Frag) (cl : Cn → Addr) : Sp := fun vs H Q E => ∃ (p : Addr) (is : List Ins), vs = [.ref p] ∧ PgAt H p is ∧ is.length ≤ 980 ∧ (∀ i ∈ is, i.small) ∧
  (wid is ≤ 16 → GoodW (besP is) → ∀ r H', Same H H' → H r = none → PgK K H' r (wocP (besP is)) → Q (.ref r) H') ∧ (wid is ≤ 16 → ¬ GoodW (besP is) → ∀ H', Same H H' → E (.ref (cl .TooLarge)) none H') ∧ (16 < wid is → ∀ H', Same H H' → E (.ref (cl .TooWide)) none H')
theorem ok_knowing (T : Txt K mg cl w) (H_greatest_width : Has P w K mg base (L2.CX P w) 2 "greatest_width" ["programs"] (sp_greatest_width K cl)) (H_beside_own_code : Has P w K mg base (L2.CX P w) 6 "beside_own_code" ["program"] (sp_beside_own_code K cl)) {f : Addr} {fd : FuncData} (F : Fun K "knowing" "knowing" s_knowing f fd) : FnOk P w K mg base (L2.CX P w) 7 f fd ["program"] (sp_knowing K cl) := by
  obtain ⟨f_greatest_width, d_greatest_width, G_greatest_width, g_greatest_width, k_greatest_width, b_greatest_width⟩ := H_greatest_width.ex
  obtain ⟨f_beside_own_code, d_beside_own_code, G_beside_own_code, g_beside_own_code, k_beside_own_code, b_beside_own_code⟩ := H_beside_own_code.ex
  refine F.okX sc_knowing (fun vs H Q E h => ?_) (fun cdv A outer s H vs Q E hr h => ?_)
  · obtain ⟨p, is, rfl, _⟩ := h
    rfl
  · obtain ⟨p, is, rfl, hp, hl, hs, q, e, eW⟩ := h
    have hz : sizeLine = 16777216 := rfl
    refine ⟨_, (pss_cons (ps_expr (pe_callS G_greatest_width (hr.mono (by decide)) (by rfl) g_greatest_width k_greatest_width b_greatest_width (fun σ => passAt (takes_of rfl rfl rfl rfl) σ) (pa_cons (pe_lst (pa_cons (pv 0) pa_nil)) pa_nil)))
      (pss_one (ps_ret (pe_callS G_beside_own_code (hr.mono (by decide)) (by rfl) g_beside_own_code k_beside_own_code b_beside_own_code (fun σ => passAt (takes_of rfl rfl rfl rfl) σ) (pa_cons (pv 0) pa_nil))))), ?_⟩
    refine ⟨_, rfl, (by show 1 ≤ sizeLine; omega), fun D nD => ?_⟩
    have sD := Same.upd (o := .lst [.ref p]) nD
    have hD : PgsAt (upd H D (.lst [.ref p])) D [is] := ⟨_, upd_same, .cons ⟨p, rfl, hp.same sD⟩ .nil⟩
    generalize upd H D (.lst [V.ref p]) = H1 at sD hD ⊢
    have g1 : gw [is] = wid is := by
      have h := wid_pos is
      show max 1 (wid is) = wid is
      omega
    refine ⟨D, [is], rfl, hD, (by show 1 ≤ 1000000; decide), fun hg H2 s2 => ?_, fun hg H2 s2 => eW (by omega) H2 (sD.trans s2)⟩
    have s2 := sD.trans s2
    rw [g1] at hg
    exact ⟨_, rfl, p, is, rfl, (hp.same s2).k, hl, hs, fun c r H' s4 n4 h4 => q hg c r H' (s2.trans s4) (same_new s2 n4) h4, fun c H' s4 => e hg c H' (s2.trans s4)⟩
abbrev s_liar : Stmt := topS 57
abbrev nm_liar : List Str := ["program"]
theorem sc_liar : FnScope nm_liar ["program"] (defScope s_liar) := ⟨rfl, rfl, rfl, by decide +kernel, rfl, by decide +kernel, by decide +kernel⟩
def sp_liar (K : PySem.W.Frag) (cl : Cn → Addr) : Sp := fun vs H Q E => ∃ (p : Addr) (is : List Ins), vs = [.ref p] ∧ PgAt H p is ∧ is.length ≤ 970 ∧ (∀ i ∈ is, i.small) ∧
  (wid is ≤ 16 → GoodW (besP (liP is)) → ∀ r H', Same H H' → H r = none → PgK K H' r (knP (liP is)) → Q (.ref r) H') ∧ (wid is ≤ 16 → ¬ GoodW (besP (liP is)) → ∀ H', Same H H' → E (.ref (cl .TooLarge)) none H') ∧ (16 < wid is → ∀ H', Same H H' → E (.ref (cl .TooWide)) none H')
theorem ok_liar (T : Txt K mg cl w) (H_knowing : Has P w K mg base (L2.CX P w) 7 "knowing" ["program"] (sp_knowing K cl)) {f : Addr} {fd : FuncData} (F : Fun K "liar" "liar" s_liar f fd) : FnOk P w K mg base (L2.CX P w) 8 f fd ["program"] (sp_liar K cl) := by
  obtain ⟨f_knowing, d_knowing, G_knowing, g_knowing, k_knowing, b_knowing⟩ := H_knowing.ex
  refine F.okX sc_liar (fun vs H Q E h => ?_) (fun cdv A outer s H vs Q E hr h => ?_)
  · obtain ⟨p, is, rfl, _⟩ := h
    rfl
  · obtain ⟨p, is, rfl, hp, hl, hs, q, e, eW⟩ := h
    have hz : sizeLine = 16777216 := rfl
    refine ⟨_, (pss_one (ps_ret (pe_callS G_knowing (hr.mono (by decide)) (by rfl) g_knowing k_knowing b_knowing (fun σ => passAt (takes_of rfl rfl rfl rfl) σ) (pa_cons (pe_lst (StX.pa_star (pv 0) (pa_cons (pe_tup (pa_cons pe_str (pa_cons pe_int (pa_cons pe_int pa_nil)))) pa_nil))) pa_nil)))), ?_⟩
    obtain ⟨xs, hx, hxl⟩ := hp.len
    refine ⟨_, rfl, _, _, rfl, .inr (SqL.of hx), (by show 3 ≤ sizeLine; omega), fun T1 n1 => ?_⟩
    have s1 := Same.upd (o := .tup [.str "jump", .int 0, .int 0]) n1
    have r1 : upd H T1 (.tup [.str "jump", .int 0, .int 0]) T1 = some (.tup (Ins.jump 0 0).vs) := upd_same
    generalize upd H T1 (.tup [V.str "jump", V.int 0, V.int 0]) = H1 at s1 r1 ⊢
    obtain ⟨as, a1, a2⟩ := hp.same s1
    have al := Paired.len a2
    have ex := s1 _ _ hx
    rw [a1] at ex
    have ex := HO.lst.inj (Option.some.inj ex)
    subst ex
    refine ⟨(by simp only [List.length_append, List.length_cons, List.length_nil, List.length_map]; omega), fun D nD => ?_⟩
    have eL : as.map V.ref ++ [V.ref T1] = (as ++ [T1]).map V.ref := by simp
    try rw [eL]
    have sD := Same.upd (o := .lst ((as ++ [T1]).map V.ref)) nD
    have hD : PgAt (upd H1 D (.lst ((as ++ [T1]).map V.ref))) D (liP is) := ⟨_, upd_same, Paired.app (Rows.same sD a2) (.cons (sD _ _ r1) .nil)⟩
    have s2 := s1.trans sD
    generalize upd H1 D (.lst ((as ++ [T1]).map V.ref)) = H2 at hD s2 ⊢
    rw [← li_wid] at q e eW
    refine ⟨D, _, rfl, hD, (by rw [liP_len]; omega), fun i hi => ?_, fun c1 c r H' s4 n4 h4 => ?_, fun c1 c H' s4 => e c1 c H' (s2.trans s4), fun c H' s4 => eW c H' (s2.trans s4)⟩
    · rcases List.mem_append.mp hi with hi | hi
      · exact hs i hi
      · rw [List.mem_singleton.mp hi]
        exact ⟨by decide, by decide⟩
    · exact q c1 c r H' (s2.trans s4) (same_new s2 n4) h4
abbrev s_law_told : Stmt := topS 66
abbrev nm_law_told : List Str := ["which", "rows", "found", "program", "sizes"]
theorem sc_law_told : FnScope nm_law_told ["which", "rows"] (defScope s_law_told) := ⟨rfl, rfl, rfl, by decide +kernel, rfl, by decide +kernel, by decide +kernel⟩
theorem woc_small {js : List Ins} (hg : GoodW js) (h : ∀ i ∈ js, i.small) : ∀ i ∈ wocP js, i.small := fun i hi => by
  rw [woc_is] at hi
  rcases List.mem_append.mp hi with hi | hi
  · simp only [preP, List.mem_cons, List.not_mem_nil, or_false] at hi
    rcases hi with rfl | rfl | rfl | rfl | rfl | rfl
    · exact ⟨by decide, hg.oth⟩
    · exact ⟨by decide, by decide⟩
    · exact ⟨by decide, by decide, by decide⟩
    · exact ⟨by decide, by decide, by decide⟩
    · exact ⟨by decide, by decide, by decide⟩
    · exact ⟨by decide, by decide⟩
  · exact h i hi
theorem woc_all {js : List Ins} (hg : GoodW js) (h : ∀ i ∈ js, i.small) : (wocP js).length ≤ 600 ∧ (codeT (wocP js)).sg.length ≤ 200000 ∧ ∀ i ∈ wocP js, i.small := ⟨hg.1.1, hg.2, woc_small hg h⟩
theorem choice_small {w : Nat} {c p q : List Ins} (hw : w ≤ 16) (hc : wid c ≤ w) (hp : wid p ≤ w) (hq : wid q ≤ w) (hl : (choiceP w c p q).length ≤ 600) (sc : ∀ i ∈ c, i.small) (sp : ∀ i ∈ p, i.small) (sq : ∀ i ∈ q, i.small) : ∀ i ∈ choiceP w c p q, i.small := fun i hi => by
  have h2 : partL q ≤ 600 ∧ partL p ≤ 600 := by
    simp [choiceP, partL, cln_len] at hl ⊢
    omega
  have cl : ∀ {l : List Ins}, wid l ≤ w → i ∈ cln (wid l) → i.small := fun h m => by
    obtain ⟨k, hk, rfl⟩ := cln_mem m
    exact ⟨by omega, by decide⟩
  unfold choiceP at hi
  simp only [List.mem_cons, List.mem_append] at hi
  rcases hi with rfl | hi | rfl | rfl | hi | hi | rfl | rfl | rfl | hi | hi
  · exact ⟨by omega, by decide⟩
  · exact sc _ hi
  · exact ⟨by decide, by show ((partL q : Nat) + 4 : Int).natAbs < 1000; omega⟩
  · exact ⟨by decide, by omega⟩
  · exact cl hq hi
  · exact sq _ hi
  · exact ⟨by omega, by decide⟩
  · exact ⟨by omega, by show ((partL p : Nat) + 2 : Int).natAbs < 1000; omega⟩
  · exact ⟨by decide, by omega⟩
  · exact cl hp hi
  · exact sp _ hi
theorem cons_small {i : Ins} {l : List Ins} (h : i.small) (g : ∀ j ∈ l, j.small) : ∀ j ∈ i :: l, j.small := fun j hj => by
  rcases List.mem_cons.mp hj with rfl | hj
  · exact h
  · exact g j hj
def WdK : Nat → List (List Ins) → Nat
  | 2, ps => gw ps
  | 3, p :: q :: r :: _ => deW p q r
  | _, p :: _ => wid p
  | _, [] => 1
def GdK : Nat → List (List Ins) → Prop
  | 0, p :: _ => GoodW (beP (bw2 p) p)
  | 1, p :: _ => GoodW (fxP p)
  | 2, ps => GoodT ps
  | 3, p :: q :: r :: _ => Fits (deP p q r) ∧ GoodW (besP (deP p q r))
  | _, p :: _ => GoodW (besP (liP p))
  | _, [] => False
def AnsK (k : Nat) (ps : List (List Ins)) (r : Str) : Prop := (16 < WdK k ps ∧ r = "wide") ∨ (WdK k ps ≤ 16 ∧ GdK k ps ∧ r = "made") ∨ (WdK k ps ≤ 16 ∧ ¬ GdK k ps ∧ r = "large")
def sp_law_told (K : PySem.W.Frag) (cl : Cn → Addr) : Sp := fun vs H Q E => ∃ (k : Nat) (D : Addr) (ps : List (List Ins)), vs = [.int k, .ref D] ∧ PgsAt H D ps ∧ k < 5 ∧ (k = 2 ∧ ps.length ≤ 8 ∧ ps ≠ [] ∨ ∃ p q r, ps = [p, q, r]) ∧ (∀ p ∈ ps, p.length ≤ 600 ∧ ∀ i ∈ p, i.small) ∧
  ∀ r H', Same H H' → AnsK k ps r → Q (.str r) H'
theorem ok_law_told (T : Txt K mg cl w) (H_law_size : Has P w K mg base CX0 1 "_law_size" ["program"] (sp_law_size K cl)) (H_bearer : Has P w K mg base (L2.CX P w) 6 "bearer" ["program"] (sp_bearer K cl)) (H_fixed_point : Has P w K mg base (L2.CX P w) 6 "fixed_point" ["program"] (sp_fixed_point K cl)) (H_together : Has P w K mg base (L2.CX P w) 5 "together" ["programs"] (sp_together K cl)) (H_law_is_good : Has P w K mg base CX0 1 "_law_is_good" ["program"] (sp_law_is_good K cl)) (H_defeat : Has P w K mg base (L2.CX P w) 7 "defeat" ["decider", "yes", "no"] (sp_defeat K cl)) (H_liar : Has P w K mg base (L2.CX P w) 8 "liar" ["program"] (sp_liar K cl)) {f : Addr} {fd : FuncData} (F : Fun K "_law_told" "_law_told" s_law_told f fd) : FnOk P w K mg base CX0 9 f fd ["which", "rows"] (sp_law_told K cl) := by
  obtain ⟨g_TooWide, x_TooWide⟩ := T.e_TooWide
  obtain ⟨g_TooLarge, x_TooLarge⟩ := T.e_TooLarge
  have m_len := T.m_len
  have m_max := T.m_max
  have m_sum := T.m_sum
  obtain ⟨f_law_size, d_law_size, G_law_size, g_law_size, k_law_size, b_law_size⟩ := H_law_size.ex
  obtain ⟨f_bearer, d_bearer, G_bearer, g_bearer, k_bearer, b_bearer⟩ := H_bearer.ex
  obtain ⟨f_fixed_point, d_fixed_point, G_fixed_point, g_fixed_point, k_fixed_point, b_fixed_point⟩ := H_fixed_point.ex
  obtain ⟨f_together, d_together, G_together, g_together, k_together, b_together⟩ := H_together.ex
  obtain ⟨f_law_is_good, d_law_is_good, G_law_is_good, g_law_is_good, k_law_is_good, b_law_is_good⟩ := H_law_is_good.ex
  obtain ⟨f_defeat, d_defeat, G_defeat, g_defeat, k_defeat, b_defeat⟩ := H_defeat.ex
  obtain ⟨f_liar, d_liar, G_liar, g_liar, k_liar, b_liar⟩ := H_liar.ex
  refine F.ok sc_law_told (fun vs H Q E h => ?_) (fun cdv A outer s H vs Q E hr h => ?_)
  · obtain ⟨k, D, ps, rfl, _⟩ := h
    rfl
  · obtain ⟨k, D, ps, rfl, hD, hk, hsh, hps, q⟩ := h
    have hz : sizeLine = 16777216 := rfl
    refine ⟨_, (Evl.pss_cut (ps_tries rfl rfl sc_law_told.nd takes0 (fun W pn xe tk po => (pss_one (ps_if (pt_cmpR op_eq (pv 0) pe_int (nomark _)) (pss_one (ps_set (i := 2) sc_law_told.nd rfl (Or.inl rfl) (pe_lst (pa_cons (pe_callS G_bearer (hr.mono (by decide)) (by rfl) g_bearer k_bearer b_bearer (fun σ => passAt tk σ) (pa_cons (pe_ix (ix_list : IxR _ (rIxL K)) (pv 1) pe_int (fun _ _ => rfl)) pa_nil)) pa_nil)))) (pss_one (ps_if (pt_cmpR op_eq (pv 0) pe_int (nomark _)) (pss_one (ps_set (i := 2) sc_law_told.nd rfl (Or.inl rfl) (pe_lst (pa_cons (pe_callS G_fixed_point (hr.mono (by decide)) (by rfl) g_fixed_point k_fixed_point b_fixed_point (fun σ => passAt tk σ) (pa_cons (pe_ix (ix_list : IxR _ (rIxL K)) (pv 1) pe_int (fun _ _ => rfl)) pa_nil)) pa_nil)))) (pss_one (ps_if (pt_cmpR op_eq (pv 0) pe_int (nomark _)) (pss_one (ps_set (i := 2) sc_law_told.nd rfl (Or.inl rfl) (pe_callS G_together (hr.mono (by decide)) (by rfl) g_together k_together b_together (fun σ => passAt tk σ) (pa_cons (pv 1) pa_nil)))) (pss_one (ps_if (pt_cmpR op_eq (pv 0) pe_int (nomark _)) (pss_one (ps_set (i := 2) sc_law_told.nd rfl (Or.inl rfl) (pe_lst (pa_cons (pe_callS G_defeat (hr.mono (by decide)) (by rfl) g_defeat k_defeat b_defeat (fun σ => passAt tk σ) (pa_cons (pe_ix (ix_list : IxR _ (rIxL K)) (pv 1) pe_int (fun _ _ => rfl)) (pa_cons (pe_ix (ix_list : IxR _ (rIxL K)) (pv 1) pe_int (fun _ _ => rfl)) (pa_cons (pe_ix (ix_list : IxR _ (rIxL K)) (pv 1) pe_int (fun _ _ => rfl)) pa_nil)))) pa_nil)))) (pss_one (ps_set (i := 2) sc_law_told.nd rfl (Or.inl rfl) (pe_lst (pa_cons (pe_callS G_liar (hr.mono (by decide)) (by rfl) g_liar k_liar b_liar (fun σ => passAt tk σ) (pa_cons (pe_ix (ix_list : IxR _ (rIxL K)) (pv 1) pe_int (fun _ _ => rfl)) pa_nil)) pa_nil)))))))))))))
      (.only ⟨rfl, by decide, .inl g_TooWide⟩ (fun a oe cls d pn hz hf => (pss_one (ps_ret pe_str)))
      (.only ⟨rfl, by decide, .inl g_TooLarge⟩ (fun a oe cls d pn hz hf => (pss_one (ps_ret pe_str)))
      .nil)))
      (pss_cons (ps_if (pt_cmpR op_gt (pe_callB (call_lenS : CallR _ _ (rLenS K)) (by rfl) m_len (by decide +kernel) (pa_cons (pe_lc (own := [("program", 3)]) (g := gName 3) rfl sc_law_told.nd (pi_list (pv 2)) (blkOk_by (N := nm_law_told) (sc := defScope s_law_told) (by decide +kernel)) (fun _ _ _ _ _ => (pg_name (i := 3) sc_law_told.nd rfl (Or.inl rfl))) (fun _ _ _ _ _ => pts_one (pt_not (pt_val (pe_call G_law_is_good (hr.mono (by decide)) (by rfl) g_law_is_good k_law_is_good b_law_is_good .nil pass0 (pa_cons (pv 3) pa_nil))))) (fun _ _ _ _ _ => (pv 3))) pa_nil)) pe_int (nomark _)) (pss_one (ps_ret pe_str)) pss_nil)
      (pss_cons (ps_setLc (i := 4) (own := [("program", 3)]) (g := gName 3) (tt := tYes) rfl sc_law_told.nd rfl rfl (sw_true rfl rfl rfl (by decide +kernel)) (pi_list (pv 2)) (blkOk_by (N := nm_law_told) (sc := defScope s_law_told) (by decide +kernel)) (fun _ _ _ _ _ => (pg_name (i := 3) sc_law_told.nd rfl (Or.inl rfl))) (fun _ _ _ _ _ => pts_nil) (fun _ _ _ _ _ => (pe_call G_law_size (hr.mono (by decide)) (by rfl) g_law_size k_law_size b_law_size .nil pass0 (pa_cons (pv 3) pa_nil))))
      (pss_cons (ps_if (PW.pt (pw_or (pt_cmpR op_gt (pe_callB (cr_max rfl) (by rfl) m_max (by decide +kernel) (pa_cons (pv 4) pa_nil)) pe_int (nomark _)) (pw_or1 (PW.pt (pw_and (pt_cmpR op_eq (pv 0) pe_int (nomark _)) (pw_and1 (pt_cmpR op_gt (pe_op op_add (pe_op op_add pe_int (pe_callB (cr_sum rfl) (by rfl) m_sum (by decide +kernel) (pa_cons (pv 4) pa_nil))) (pe_callB (call_lenS : CallR _ _ (rLenS K)) (by rfl) m_len (by decide +kernel) (pa_cons (pv 4) pa_nil))) pe_int (nomark _)))))))) (pss_one (ps_ret pe_str)) pss_nil)
      (pss_one (ps_ret pe_str)))))), ?_⟩
    refine ⟨fun σ H' => ∃ (F : Addr) (qs : List (List Ins)), σ = [some (.int k), some (.ref D), some (.ref F), none, none] ∧ Same H H' ∧ PgsK K H' F qs ∧ qs ≠ [] ∧ qs.length ≤ 8 ∧ (∀ w ∈ qs, w.length ≤ 600 ∧ (codeT w).sg.length ≤ 200000 ∧ ∀ i ∈ w, i.small) ∧ (k = 2 → 1 + qs.length + (qs.map fun w => (codeT w).sg.length).sum ≤ 200000) ∧ WdK k ps ≤ 16 ∧ GdK k ps, ?_, ?_⟩
    · have exW : ∀ H', Same H H' → 16 < WdK k ps → Q (.str "wide") H' := fun H' s h => q _ _ s (.inl ⟨h, rfl⟩)
      have exL : ∀ H', Same H H' → WdK k ps ≤ 16 → ¬ GdK k ps → Q (.str "large") H' := fun H' s h1 h2 => q _ _ s (.inr (.inr ⟨h1, h2, rfl⟩))
      have one : ∀ (w : List Ins) (r : Addr) (F : Addr) (H' : Hp), Same H H' → PgK K H' r w → H' F = none → k ≠ 2 → w.length ≤ 600 → (codeT w).sg.length ≤ 200000 → (∀ i ∈ w, i.small) → WdK k ps ≤ 16 → GdK k ps → ∃ (F' : Addr) (qs : List (List Ins)), ([some (.int k), some (.ref D), some (.ref F), none, none] : List (Option V)) = [some (.int k), some (.ref D), some (.ref F'), none, none] ∧ Same H (upd H' F (.lst [.ref r])) ∧ PgsK K (upd H' F (.lst [.ref r])) F' qs ∧ qs ≠ [] ∧ qs.length ≤ 8 ∧ (∀ w ∈ qs, w.length ≤ 600 ∧ (codeT w).sg.length ≤ 200000 ∧ ∀ i ∈ w, i.small) ∧ (k = 2 → 1 + qs.length + (qs.map fun w => (codeT w).sg.length).sum ≤ 200000) ∧ WdK k ps ≤ 16 ∧ GdK k ps := fun w r F H' s hr nF hk2 h1 h2 h3 h4 h5 => by
        have sF := Same.upd (o := .lst [.ref r]) nF
        exact ⟨F, [w], rfl, s.trans sF, ⟨[r], upd_same, .cons (hr.same sF) .nil⟩, by simp, by show 1 ≤ 8; decide, fun w' hw' => by
          rw [List.mem_singleton.mp hw']
          exact ⟨h1, h2, h3⟩, fun z => absurd z hk2, h4, h5⟩
      have wideH : ∀ (H' : Hp), 16 < WdK k ps → Same H H' → True := fun _ _ _ => True.intro
      obtain ⟨as, hD1, hD2⟩ := hD
      rcases (show k = 0 ∨ k = 1 ∨ k = 2 ∨ k = 3 ∨ k = 4 by omega) with rfl | rfl | rfl | rfl | rfl
      · refine ⟨_, rfl, rfl, _, rfl, iteT' rfl ?_⟩
        rcases hsh with ⟨h, _⟩ | ⟨p, p2, p3, rfl⟩
        · cases h
        obtain ⟨_, e1, a1, rfl, hp⟩ := Paired.get (i := 0) hD2 rfl
        have hsp := hps p (.head _)
        have at1 : atI as 0 = some (.ref a1) := atI_nat (j := 0) e1
        refine ⟨_, rfl, _, _, _, _, rfl, rfl, SqL.of hD1, at1, a1, p, rfl, hp, (by omega), hsp.2, fun c c2 r H' sm nr hr9 => ⟨(by show 1 ≤ sizeLine; omega), fun F nF => ?_⟩, fun c c2 H' sm => ?_, fun c H' sm => ?_⟩
        · obtain ⟨g1, g2, g3⟩ := woc_all c2 (beP_mem (by have : bw2 p = max 2 (wid p) := rfl; exact ⟨by omega, by decide⟩) ⟨by decide, by decide⟩ (by have : bw2 p = max 2 (wid p) := rfl; exact ⟨by decide, by omega, by decide⟩) hsp.2)
          exact one _ r F H' sm hr9 nF (by decide) g1 g2 g3 c c2
        · refine ⟨false, PySem.W.exm_ref x_TooWide.b x_TooWide.c.hd x_TooWide.t (T.p_TooLarge_TooWide.2), fun z => (by cases z), fun _ => ?_⟩
          refine ⟨true, PySem.W.exm_ref x_TooLarge.b x_TooLarge.c.hd x_TooLarge.t (T.p_TooLarge_TooLarge.2), fun _ a na => ?_, fun z => by cases z⟩
          exact exL _ sm c c2
        · refine ⟨true, PySem.W.exm_ref x_TooWide.b x_TooWide.c.hd x_TooWide.t (T.p_TooWide_TooWide.2), fun _ a na => ?_, fun z => by cases z⟩
          exact exW _ sm c
      · refine ⟨_, rfl, rfl, _, rfl, iteF' (decide_eq_false (fun z => by cases z)) ?_⟩
        refine ⟨_, rfl, rfl, _, rfl, iteT' rfl ?_⟩
        rcases hsh with ⟨h, _⟩ | ⟨p, p2, p3, rfl⟩
        · cases h
        obtain ⟨_, e1, a1, rfl, hp⟩ := Paired.get (i := 0) hD2 rfl
        have hsp := hps p (.head _)
        have at1 : atI as 0 = some (.ref a1) := atI_nat (j := 0) e1
        refine ⟨_, rfl, _, _, _, _, rfl, rfl, SqL.of hD1, at1, a1, p, rfl, hp, (by omega), hsp.2, fun c c2 r H' sm nr hr9 => ⟨(by show 1 ≤ sizeLine; omega), fun F nF => ?_⟩, fun c c2 H' sm => ?_, fun c H' sm => ?_⟩
        · obtain ⟨g1, g2, g3⟩ := woc_all c2 (fxP_mem ⟨by decide, by decide⟩ ⟨by decide, by decide⟩ ⟨by decide, by decide⟩ ⟨by decide, by decide, by decide⟩ (fun k hk => ⟨by omega, by decide⟩) small_uni hsp.2)
          exact one _ r F H' sm hr9 nF (by decide) g1 g2 g3 c c2
        · refine ⟨false, PySem.W.exm_ref x_TooWide.b x_TooWide.c.hd x_TooWide.t (T.p_TooLarge_TooWide.2), fun z => (by cases z), fun _ => ?_⟩
          refine ⟨true, PySem.W.exm_ref x_TooLarge.b x_TooLarge.c.hd x_TooLarge.t (T.p_TooLarge_TooLarge.2), fun _ a na => ?_, fun z => by cases z⟩
          exact exL _ sm c c2
        · refine ⟨true, PySem.W.exm_ref x_TooWide.b x_TooWide.c.hd x_TooWide.t (T.p_TooWide_TooWide.2), fun _ a na => ?_, fun z => by cases z⟩
          exact exW _ sm c
      · refine ⟨_, rfl, rfl, _, rfl, iteF' (decide_eq_false (fun z => by cases z)) ?_⟩
        refine ⟨_, rfl, rfl, _, rfl, iteF' (decide_eq_false (fun z => by cases z)) ?_⟩
        refine ⟨_, rfl, rfl, _, rfl, iteT' rfl ?_⟩
        obtain ⟨hl8, hne⟩ : ps.length ≤ 8 ∧ ps ≠ [] := by
          rcases hsh with ⟨_, hl8, hne⟩ | ⟨p, p2, p3, rfl⟩
          · exact ⟨hl8, hne⟩
          · exact ⟨by show 3 ≤ 8; decide, by simp⟩
        refine ⟨_, rfl, D, ps, rfl, ⟨as, hD1, hD2⟩, by omega, fun p hp => ⟨by have := (hps p hp).1; omega, (hps p hp).2⟩, fun c c2 r H' sm nr hr9 => ?_, fun c c2 H' sm => ?_, fun c H' sm => ?_⟩
        · refine ⟨r, ps.map (madP ps), rfl, sm, hr9.k, by simpa using hne, by rw [List.length_map]; exact hl8, fun w hw => ?_, fun _ => ?_, c, c2⟩
          · obtain ⟨p, hp, rfl⟩ := List.mem_map.mp hw
            exact ⟨(c2.2.2.1 p hp).1, c2.2.2.2.1 p hp, cons_small ⟨by decide, c2.2.1⟩ (part_small (hps p hp).2)⟩
          · have h5 := c2.2.2.2.2
            have h6 := lstT_len (ps.map fun p => codeT (madP ps p))
            have h7 : (codesT ps).sg.length = _ := h6
            rw [h7, List.length_map, List.map_map] at h5
            rw [List.length_map, List.map_map]
            have e : ((fun t : Tr => t.sg.length) ∘ fun p => codeT (madP ps p)) = ((fun w => (codeT w).sg.length) ∘ madP ps) := rfl
            rw [e] at h5
            omega
        · refine ⟨false, PySem.W.exm_ref x_TooWide.b x_TooWide.c.hd x_TooWide.t (T.p_TooLarge_TooWide.2), fun z => (by cases z), fun _ => ?_⟩
          refine ⟨true, PySem.W.exm_ref x_TooLarge.b x_TooLarge.c.hd x_TooLarge.t (T.p_TooLarge_TooLarge.2), fun _ a na => ?_, fun z => by cases z⟩
          exact exL _ sm c c2
        · refine ⟨true, PySem.W.exm_ref x_TooWide.b x_TooWide.c.hd x_TooWide.t (T.p_TooWide_TooWide.2), fun _ a na => ?_, fun z => by cases z⟩
          exact exW _ sm c
      · refine ⟨_, rfl, rfl, _, rfl, iteF' (decide_eq_false (fun z => by cases z)) ?_⟩
        refine ⟨_, rfl, rfl, _, rfl, iteF' (decide_eq_false (fun z => by cases z)) ?_⟩
        refine ⟨_, rfl, rfl, _, rfl, iteF' (decide_eq_false (fun z => by cases z)) ?_⟩
        refine ⟨_, rfl, rfl, _, rfl, iteT' rfl ?_⟩
        rcases hsh with ⟨h, _⟩ | ⟨p, p2, p3, rfl⟩
        · cases h
        obtain ⟨_, e1, a1, rfl, hp⟩ := Paired.get (i := 0) hD2 rfl
        have hsp := hps p (.head _)
        have at1 : atI as 0 = some (.ref a1) := atI_nat (j := 0) e1
        obtain ⟨_, e2, a2, rfl, hp2⟩ := Paired.get (i := 1) hD2 rfl
        obtain ⟨_, e3, a3, rfl, hp3⟩ := Paired.get (i := 2) hD2 rfl
        have hsp2 := hps p2 (.tail _ (.head _))
        have hsp3 := hps p3 (.tail _ (.tail _ (.head _)))
        have at2 : atI as 1 = some (.ref a2) := atI_nat (j := 1) e2
        have at3 : atI as 2 = some (.ref a3) := atI_nat (j := 2) e3
        refine ⟨_, rfl, _, _, _, _, rfl, rfl, SqL.of hD1, at1, _, rfl, _, _, _, _, rfl, rfl, SqL.of hD1, at2, _, rfl, _, _, _, _, rfl, rfl, SqL.of hD1, at3, a1, a2, a3, p, p2, p3, rfl, hp, hp2, hp3, (by omega), hsp.2, (by omega), hsp2.2, (by omega), hsp3.2, fun c c2 => ⟨?_, fun c3 r H' sm nr hr9 => ⟨(by show 1 ≤ sizeLine; omega), fun F nF => ?_⟩⟩, fun c c2 H' sm => ?_, fun c H' sm => ?_⟩
        · obtain ⟨w1, w2, w3⟩ := deW_le (d := p) (yes := p2) (no := p3)
          exact choice_small c w1 w2 w3 c2.1 (cons_small ⟨by decide, by decide⟩ hsp.2) (cons_small ⟨by decide, by decide⟩ hsp3.2) (cons_small ⟨by decide, by decide⟩ hsp2.2)
        · obtain ⟨w1, w2, w3⟩ := deW_le (d := p) (yes := p2) (no := p3)
          obtain ⟨g1, g2, g3⟩ := woc_all c3 (besP_small (choice_small c w1 w2 w3 c2.1 (cons_small ⟨by decide, by decide⟩ hsp.2) (cons_small ⟨by decide, by decide⟩ hsp3.2) (cons_small ⟨by decide, by decide⟩ hsp2.2)))
          exact one _ r F H' sm hr9 nF (by decide) g1 g2 g3 c ⟨c2, c3⟩
        · refine ⟨false, PySem.W.exm_ref x_TooWide.b x_TooWide.c.hd x_TooWide.t (T.p_TooLarge_TooWide.2), fun z => (by cases z), fun _ => ?_⟩
          refine ⟨true, PySem.W.exm_ref x_TooLarge.b x_TooLarge.c.hd x_TooLarge.t (T.p_TooLarge_TooLarge.2), fun _ a na => ?_, fun z => by cases z⟩
          exact exL _ sm c c2
        · refine ⟨true, PySem.W.exm_ref x_TooWide.b x_TooWide.c.hd x_TooWide.t (T.p_TooWide_TooWide.2), fun _ a na => ?_, fun z => by cases z⟩
          exact exW _ sm c
      · refine ⟨_, rfl, rfl, _, rfl, iteF' (decide_eq_false (fun z => by cases z)) ?_⟩
        refine ⟨_, rfl, rfl, _, rfl, iteF' (decide_eq_false (fun z => by cases z)) ?_⟩
        refine ⟨_, rfl, rfl, _, rfl, iteF' (decide_eq_false (fun z => by cases z)) ?_⟩
        refine ⟨_, rfl, rfl, _, rfl, iteF' (decide_eq_false (fun z => by cases z)) ?_⟩
        rcases hsh with ⟨h, _⟩ | ⟨p, p2, p3, rfl⟩
        · cases h
        obtain ⟨_, e1, a1, rfl, hp⟩ := Paired.get (i := 0) hD2 rfl
        have hsp := hps p (.head _)
        have at1 : atI as 0 = some (.ref a1) := atI_nat (j := 0) e1
        refine ⟨_, rfl, _, _, _, _, rfl, rfl, SqL.of hD1, at1, a1, p, rfl, hp, (by omega), hsp.2, fun c c2 r H' sm nr hr9 => ⟨(by show 1 ≤ sizeLine; omega), fun F nF => ?_⟩, fun c c2 H' sm => ?_, fun c H' sm => ?_⟩
        · obtain ⟨g1, g2, g3⟩ := woc_all c2 (besP_small (fun i hi => by
            rcases List.mem_append.mp hi with hi | hi
            · exact hsp.2 i hi
            · rw [List.mem_singleton.mp hi]
              exact ⟨by decide, by decide⟩))
          exact one _ r F H' sm hr9 nF (by decide) g1 g2 g3 c c2
        · refine ⟨false, PySem.W.exm_ref x_TooWide.b x_TooWide.c.hd x_TooWide.t (T.p_TooLarge_TooWide.2), fun z => (by cases z), fun _ => ?_⟩
          refine ⟨true, PySem.W.exm_ref x_TooLarge.b x_TooLarge.c.hd x_TooLarge.t (T.p_TooLarge_TooLarge.2), fun _ a na => ?_, fun z => by cases z⟩
          exact exL _ sm c c2
        · refine ⟨true, PySem.W.exm_ref x_TooWide.b x_TooWide.c.hd x_TooWide.t (T.p_TooWide_TooWide.2), fun _ a na => ?_, fun z => by cases z⟩
          exact exW _ sm c
    · rintro σ H1 ⟨F, qs, rfl, s1, hF, hne, hl8, hqs, htot, hw, hg⟩
      obtain ⟨xs, hx, hlen, _, hget⟩ := hF.get
      have hql : 0 < qs.length := by
        cases qs with
        | nil => exact absurd rfl hne
        | cons a b => exact Nat.succ_pos _
      refine ⟨_, rfl, F, rfl, ⟨_, SqL.of hx⟩, fun G nG => lc_it (walk_list (K := K) (a := F) (xs := xs)) (fun i H' => Same H1 H' ∧ H' G = some (.lst [])) ⟨Same.upd nG, upd_same⟩ (fun i H' _ s => SqL.of (s.1 _ _ hx)) (fun j y Hx Hy hj h1 h2 => ?_) (fun Hb h1 => ?_)⟩
      · obtain ⟨sx, hG⟩ := h1
        obtain ⟨rfl, hy⟩ := h2
        obtain ⟨w, hw'⟩ : ∃ w, qs[j]? = some w := ⟨_, List.getElem?_eq_getElem (by omega)⟩
        obtain ⟨a, ea, ha⟩ := hget j w hw'
        rw [ea] at hy
        cases hy
        have hqw := hqs w (List.mem_of_getElem? hw')
        refine ⟨rfl, ?_⟩
        refine ⟨_, rfl, a, w, rfl, (show PgK K H1 a w from ha).same sx, hqw.1, fun H3 s3 => ⟨_, rfl, ?_⟩⟩
        exact iteF ⟨sx.trans s3, s3 _ _ hG⟩
      obtain ⟨sb, hG⟩ := h1
      refine ⟨_, _, rfl, .inl (SqL.of hG), _, _, rfl, rfl, _, rfl, iteF' (by decide) ?_⟩
      have hF := hF.same sb
      have s2 := s1.trans sb
      clear hG nG sb hx hget hlen
      obtain ⟨xs, hx, hlen, _, hget⟩ := hF.get
      refine ⟨_, rfl, F, rfl, ⟨_, SqL.of hx⟩, fun G nG => lc_it (walk_list (K := K) (a := F) (xs := xs)) (fun i H' => Same Hb H' ∧ H' G = some (.lst (((qs.take i).map fun w => ((codeT w).sg.length : Int)).map V.int))) ⟨Same.upd nG, upd_same⟩ (fun i H' _ s => SqL.of (s.1 _ _ hx)) (fun j y Hx Hy hj h1 h2 => ?_) (fun Hc h1 => ?_)⟩
      · obtain ⟨sx, hG⟩ := h1
        obtain ⟨rfl, hy⟩ := h2
        obtain ⟨w, hw'⟩ : ∃ w, qs[j]? = some w := ⟨_, List.getElem?_eq_getElem (by omega)⟩
        obtain ⟨a, ea, ha⟩ := hget j w hw'
        rw [ea] at hy
        cases hy
        have hqw := hqs w (List.mem_of_getElem? hw')
        refine ⟨rfl, ?_⟩
        simp only [tYes, ↓reduceIte]
        refine ⟨_, rfl, a, w, rfl, (show PgK K Hb a w from ha).same sx, by omega, hqw.2.2, fun H3 s3 => ⟨_, s3 _ _ hG, by rw [List.length_map, List.length_map, List.length_take]; omega, fun b o e => ?_, ?_⟩⟩
        · rw [upd_ne (fun z => by rw [z, nG] at e; cases e)]
          exact s3 _ _ (sx b o e)
        · rw [upd_same, List.take_add_one, hw', List.map_append, List.map_append, ← codeT_sum w]
          rfl
      obtain ⟨sc, hG⟩ := h1
      rw [List.take_of_length_le (by omega)] at hG
      have s3 := s2.trans sc
      refine ⟨_, rfl, _, _, rfl, SqL.of hG, (by rw [List.length_map]; omega), fun m hm hle => ⟨_, _, rfl, rfl, _, rfl, ?_⟩⟩
      have hmm : ¬ (200000 : Int) < m := by
        obtain ⟨w, hw1, rfl⟩ := List.mem_map.mp hm
        have := (hqs w hw1).2.1
        omega
      refine iteF' (decide_eq_false hmm) ?_
      refine ⟨_, rfl, rfl, _, rfl, ?_⟩
      by_cases c2 : k = 2
      · have ht := htot c2
        have hsum : ((qs.map fun w => ((codeT w).sg.length : Int)).sum) = (((qs.map fun w => (codeT w).sg.length).sum : Nat) : Int) := by
          have := sum_ints (qs.map fun w => (codeT w).sg.length)
          rw [List.map_map] at this
          exact this
        refine iteT' (decide_eq_true (by rw [c2]; rfl)) ?_
        refine ⟨_, rfl, _, _, rfl, SqL.of hG, _, _, rfl, rfl, _, rfl, _, _, rfl, .inl (SqL.of hG), _, _, rfl, rfl, _, _, rfl, rfl, _, rfl, iteF' (decide_eq_false ?_) ?_⟩
        · rw [hsum, List.length_map, List.length_map]
          omega
        · exact q _ _ s3 (.inr (.inl ⟨hw, hg, rfl⟩))
      · exact iteF' (decide_eq_false (fun z => c2 (by have := V.int.inj z; omega))) (q _ _ s3 (.inr (.inl ⟨hw, hg, rfl⟩)))
abbrev s_law_great : Stmt := topS 69
abbrev nm_law_great : List Str := ["stream", "which", "rows", "many", "table", "size", "programs", "k", "due", "program", "row"]
theorem sc_law_great : FnScope nm_law_great ["stream", "which", "rows"] (defScope s_law_great) := ⟨rfl, rfl, rfl, by decide +kernel, rfl, by decide +kernel, by decide +kernel⟩
theorem Paired.set9 {α β : Type} {F : α → β → Prop} {a : α} {b : β} (h : F a b) : ∀ {l : List α} {m : List β} (j : Nat), Paired F l m → Paired F (l.set j a) (m.set j b)
  | [], [], _, .nil => .nil
  | _ :: _, _ :: _, 0, .cons _ t => .cons h t
  | _ :: _, _ :: _, j + 1, .cons r t => .cons r (Paired.set9 h j t)
theorem Paired.drop {α β : Type} {F : α → β → Prop} : ∀ {l : List α} {m : List β} (j : Nat), Paired F l m → Paired F (l.drop j) (m.drop j)
  | _, _, 0, h => h
  | [], [], _ + 1, .nil => .nil
  | _ :: _, _ :: _, j + 1, .cons _ t => Paired.drop j t
theorem Paired.take {α β : Type} {F : α → β → Prop} : ∀ {l : List α} {m : List β} (j : Nat), Paired F l m → Paired F (l.take j) (m.take j)
  | _, _, 0, _ => .nil
  | [], [], _ + 1, .nil => .nil
  | _ :: _, _ :: _, j + 1, .cons r t => .cons r (Paired.take j t)
theorem PgsAt.ne {H : Hp} {D p : Addr} {ps : List (List Ins)} {is : List Ins} {xs : List V} (hx : H D = some (.lst xs)) (hp : PgAt H p is) (hm : V.ref p ∈ xs) : p ≠ D := fun z => by
  obtain ⟨as, h1, h2⟩ := hp
  rw [z, hx] at h1
  have h1 := HO.lst.inj (Option.some.inj h1)
  rw [h1] at hm
  obtain ⟨b, hb, e⟩ := List.mem_map.mp hm
  have e : b = p := V.ref.inj e
  obtain ⟨j, hj⟩ := List.getElem?_of_mem hb
  have hl := Paired.len h2
  obtain ⟨i, hi⟩ : ∃ i, is[j]? = some i := ⟨_, List.getElem?_eq_getElem (by have := (List.getElem?_eq_some_iff.mp hj).1; omega)⟩
  obtain ⟨b2, g1, g2⟩ := Paired.get h2 hi
  rw [hj] at g1
  cases g1
  rw [e, z, hx] at g2
  cases g2
theorem PgsAt.put {H : Hp} {D : Addr} {ps : List (List Ins)} (h : PgsAt H D ps) : ∃ xs, H D = some (.lst xs) ∧ xs.length = ps.length ∧ ∀ (j : Nat) (x : Addr) (p : List Ins), PgAt H x p → x ≠ D → PgsAt (upd H D (.lst (xs.set j (.ref x)))) D (ps.set j p) := by
  obtain ⟨xs, hx, hr⟩ := h
  refine ⟨xs, hx, Paired.len hr, fun j x p hp nx => ⟨_, upd_same, Paired.set9 (F := fun (y : V) q => ∃ a, y = .ref a ∧ PgAt (upd H D (.lst (xs.set j (.ref x)))) a q) ⟨x, rfl, hp.but1 nx (ButL.upd (by simp)) hx⟩ j ?_⟩⟩
  have key : ∀ {l : List V} {m : List (List Ins)}, (∀ y ∈ l, y ∈ xs) → Paired (fun (y : V) q => ∃ a, y = .ref a ∧ PgAt H a q) l m → Paired (fun (y : V) q => ∃ a, y = .ref a ∧ PgAt (upd H D (.lst (xs.set j (.ref x)))) a q) l m := fun {l m} => by
    intro hm hr
    induction hr with
    | nil => exact .nil
    | cons r t ih =>
      obtain ⟨a, rfl, ha⟩ := r
      exact .cons ⟨a, rfl, ha.but1 (PgsAt.ne (ps := ps) hx ha (hm _ (.head _))) (ButL.upd (by simp)) hx⟩ (ih fun y hy => hm y (.tail _ hy))
  exact key (fun _ h => h) hr
theorem PgsAt.exs {H H' : Hp} {D st : Addr} {ps : List (List Ins)} (h : PgsAt H D ps) (s : Strm H st) (e : ExS st H H') : PgsAt H' D ps := by
  obtain ⟨xs, hx, hr⟩ := h
  have nst : D ≠ st := fun z => by
    obtain ⟨l, ns, c, i, m, g1, _⟩ := s
    rw [z, g1] at hx
    have hx := HO.lst.inj (Option.some.inj hx)
    subst hx
    cases hr with
    | cons r t =>
      cases t with
      | cons r2 t2 =>
        obtain ⟨a, e, _⟩ := r2
        cases e
  exact ⟨xs, e _ _ nst hx, Paired.imp (fun y q ⟨a, ha, hp⟩ => ⟨a, ha, hp.draw s e⟩) hr⟩
theorem sum_set_le : ∀ (l : List Nat) (j a : Nat), (l.set j a).sum ≤ l.sum + a
  | [], _, _ => Nat.zero_le _
  | x :: l, 0, a => by
    rw [List.set_cons_zero, List.sum_cons, List.sum_cons]
    omega
  | x :: l, j + 1, a => by
    rw [List.set_cons_succ, List.sum_cons, List.sum_cons]
    have := sum_set_le l j a
    omega
def totL (ps : List (List Ins)) : Nat := (ps.map List.length).sum
theorem totL_set (ps : List (List Ins)) (j : Nat) (p : List Ins) : totL (ps.set j p) ≤ totL ps + p.length := by
  unfold totL
  rw [List.map_set]
  exact sum_set_le _ _ _
theorem allC_set (ps : List (List Ins)) (j : Nat) (p : List Ins) : allC (ps.set j p) ≤ allC ps + sumC p := by
  unfold allC
  rw [List.map_set]
  exact sum_set_le _ _ _
theorem wd_le {k W : Nat} {ps : List (List Ins)} (hl : ps.length = 3) (h1 : 1 ≤ W) (h : ∀ p ∈ ps, wid p ≤ W) : WdK k ps ≤ W := by
  match ps, hl with
  | [p, q, r], _ =>
    have hp := h p (.head _)
    have hq := h q (.tail _ (.head _))
    have hr := h r (.tail _ (.tail _ (.head _)))
    match k with
    | 0 => exact hp
    | 1 => exact hp
    | 2 => exact (gw_le h1).mpr h
    | 3 =>
      show deW p q r ≤ W
      rw [deW_is]
      omega
    | k + 4 => exact hp
theorem wd_ge {k at' : Nat} {ps : List (List Ins)} {p : List Ins} (hl : ps.length = 3) (hp : ps[at']? = some p) (hk : at' ≠ 0 → k = 2 ∨ k = 3) : wid p ≤ WdK k ps := by
  match ps, hl with
  | [a, b, c], _ =>
    match k with
    | 2 => exact (gw_le (Nat.le_trans (wid_pos p) (by
        have := (gw_le (m := gw [a, b, c]) (by rw [gw_three]; have := wid_pos a; omega)).mp (Nat.le_refl _) p (List.mem_of_getElem? hp)
        exact this))).mp (Nat.le_refl _) p (List.mem_of_getElem? hp)
    | 3 =>
      show wid p ≤ deW a b c
      rw [deW_is]
      match at', hp with
      | 0, hp => cases hp; omega
      | 1, hp => cases hp; omega
      | 2, hp => cases hp; omega
      | n + 3, hp => cases hp
    | 0 =>
      have : at' = 0 := by
        by_cases c : at' = 0
        · exact c
        · have := hk c
          omega
      subst this
      cases hp
      exact Nat.le_refl _
    | 1 =>
      have : at' = 0 := by
        by_cases c : at' = 0
        · exact c
        · have := hk c
          omega
      subst this
      cases hp
      exact Nat.le_refl _
    | k + 4 =>
      have : at' = 0 := by
        by_cases c : at' = 0
        · exact c
        · have := hk c
          omega
      subst this
      cases hp
      exact Nat.le_refl _
theorem sumC_cln (w : Nat) (hw : w ≤ 16) : sumC (cln w) ≤ 640 := by
  have h := sumC_le (m := 39) (cln w) fun i hi => by
    obtain ⟨k, hk, rfl⟩ := cln_mem hi
    rw [csz_set]
    show _ + 1 + 4 ≤ _
    omega
  rw [cln_len] at h
  omega
theorem sumC_choice {w : Nat} {c p q : List Ins} (hw : w ≤ 16) (hp : wid p ≤ w) (hq : wid q ≤ w) (hl : partL p ≤ 600 ∧ partL q ≤ 600) : sumC (choiceP w c p q) ≤ sumC c + sumC p + sumC q + 5000 := by
  unfold choiceP
  have j1 := csz_jump 0 ((partL q : Nat) + 4)
  have j2 := csz_jump w ((partL p : Nat) + 2)
  have e1 : ((partL q : Nat) + 4 : Int).natAbs ≤ 604 := by omega
  have e2 : ((partL p : Nat) + 2 : Int).natAbs ≤ 602 := by omega
  have c1 := sumC_cln (wid q) (by omega)
  have c2 := sumC_cln (wid p) (by omega)
  have h100 : p100.sg.length = 3 := rfl
  rw [sumC_cons, sumC_app, sumC_cons, sumC_cons, sumC_app, sumC_app, sumC_cons, sumC_cons, sumC_cons, sumC_app, csz_move, csz_move, csz_set]
  omega
theorem gd_of {k : Nat} {ps : List (List Ins)} (hl : ps.length = 3) (hk : k < 5) (hw : WdK k ps ≤ 16) (ht : totL ps ≤ 430) (ha : allC ps ≤ 20000) (h2 : k = 2 → allC ps ≤ 10000) : GdK k ps := by
  match ps, hl with
  | [p, q, r], _ =>
    have e1 : totL [p, q, r] = p.length + (q.length + (r.length + 0)) := rfl
    have e2 : allC [p, q, r] = sumC p + (sumC q + (sumC r + 0)) := rfl
    match k, hk with
    | 0, _ =>
      have hw : wid p ≤ 16 := hw
      have hb : bw2 p = max 2 (wid p) := rfl
      have := sumC_be (is := p) (w := bw2 p) (by omega)
      exact good_of (by rw [beP_len]; omega) (by omega)
    | 1, _ =>
      have := sumC_fx p
      exact good_of (by rw [fxP_len]; omega) (by omega)
    | 2, _ => exact (goodT_of (by show 3 ≤ 8; decide) (h2 rfl) fun x hx => by
        simp only [List.mem_cons, List.not_mem_nil, or_false] at hx
        rcases hx with rfl | rfl | rfl <;> omega).1
    | 3, _ =>
      have hw : deW p q r ≤ 16 := hw
      have hdl := deP_len hw
      obtain ⟨w1, w2, w3⟩ := deW_le (d := p) (yes := q) (no := r)
      have pl : partL (tlI :: r) ≤ 600 ∧ partL (tlI :: q) ≤ 600 := by
        unfold partL
        rw [cln_len, cln_len, List.length_cons, List.length_cons]
        omega
      have hs := sumC_choice (c := hdI :: p) hw w2 w3 pl
      have hc1 : sumC (hdI :: p) = 1 + 11 + sumC p := by rw [sumC_cons]; rfl
      have hc2 : sumC (tlI :: q) = 1 + 13 + sumC q := by rw [sumC_cons]; rfl
      have hc3 : sumC (tlI :: r) = 1 + 13 + sumC r := by rw [sumC_cons]; rfl
      have hs : sumC (deP p q r) ≤ _ := hs
      have ht := treesSum_sumC (deP p q r)
      exact ⟨⟨by omega, by omega⟩, good_bes (by omega) (by omega)⟩
    | 4, _ =>
      have e : sumC (liP p) = sumC p + (1 + csz (.jump 0 0) + 0) := by
        unfold liP
        rw [sumC_app]
        rfl
      have := csz_jump 0 0
      have : csz (.jump 0 0) ≤ 19 := this
      exact good_bes (by unfold liP; rw [List.length_append]; show _ + 1 ≤ _; omega) (by omega)
theorem sum_sizes : ∀ qs : List (List Ins), ((qs.map fun w => ((1 + sumC w : Nat) : Int)).sum) = ((qs.length + allC qs : Nat) : Int)
  | [] => rfl
  | p :: qs => by
    have ih := sum_sizes qs
    have e : allC (p :: qs) = sumC p + allC qs := rfl
    rw [List.map_cons, List.sum_cons, ih, e, List.length_cons]
    omega
theorem AnsK.made {k : Nat} {ps : List (List Ins)} {r : Str} (h : AnsK k ps r) (hw : WdK k ps ≤ 16) (hg : GdK k ps) : r = "made" := by
  rcases h with ⟨h, _⟩ | ⟨_, _, h⟩ | ⟨_, h, _⟩
  · omega
  · exact h
  · exact absurd hg h
theorem AnsK.wide {k : Nat} {ps : List (List Ins)} {r : Str} (h : AnsK k ps r) (hw : 16 < WdK k ps) : r = "wide" := by
  rcases h with ⟨_, h⟩ | ⟨h, _⟩ | ⟨h, _⟩
  · exact h
  · omega
  · omega
theorem AnsK.any {k : Nat} {ps : List (List Ins)} {r : Str} (h : AnsK k ps r) (hw : WdK k ps ≤ 16) : r = "made" ∨ r = "large" := by
  rcases h with ⟨h, _⟩ | ⟨_, _, h⟩ | ⟨_, _, h⟩
  · omega
  · exact .inl h
  · exact .inr h
theorem in_ml {r : Str} (h : r = "made" ∨ r = "large") : inV (.str r) [.str "made", .str "large"] = true ∧ inV (.str r) [.str "large", .str "made"] = true := by
  rcases h with rfl | rfl <;> simp [inV, eqV]
theorem in_m {r : Str} (h : r = "made") : inV (.str r) [.str "made"] = true := by
  rw [h]
  simp [inV, eqV]
def sp_law_great (K : PySem.W.Frag) (cl : Cn → Addr) : Sp := fun vs H Q E => ∃ (st : Addr) (k : Nat) (D : Addr) (ps : List (List Ins)), vs = [.ref st, .int k, .ref D] ∧ Strm H st ∧ PgsAt H D ps ∧ ps.length = 3 ∧ k < 5 ∧ (∀ p ∈ ps, p.length ≤ 10 ∧ (∀ i ∈ p, i.small) ∧ wid p ≤ 16) ∧ ∀ H', ExS st H H' → Strm H' st → Q (.bl true) H'
theorem ok_law_great (T : Txt K mg cl w) (H_law_draw : Has P w K mg base CX0 1 "_law_draw" ["stream", "many"] (sp_law_draw K cl)) (H_law_told : Has P w K mg base CX0 9 "_law_told" ["which", "rows"] (sp_law_told K cl)) (H_law_size : Has P w K mg base CX0 1 "_law_size" ["program"] (sp_law_size K cl)) {f : Addr} {fd : FuncData} (F : Fun K "_law_great" "_law_great" s_law_great f fd) : FnOk P w K mg base CX0 10 f fd ["stream", "which", "rows"] (sp_law_great K cl) := by
  have m_sum := T.m_sum
  have m_range := T.m_range
  obtain ⟨f_law_draw, d_law_draw, G_law_draw, g_law_draw, k_law_draw, b_law_draw⟩ := H_law_draw.ex
  obtain ⟨f_law_told, d_law_told, G_law_told, g_law_told, k_law_told, b_law_told⟩ := H_law_told.ex
  obtain ⟨f_law_size, d_law_size, G_law_size, g_law_size, k_law_size, b_law_size⟩ := H_law_size.ex
  refine F.ok sc_law_great (fun vs H Q E h => ?_) (fun cdv A outer s H vs Q E hr h => ?_)
  · obtain ⟨st, k, D, ps, rfl, _⟩ := h
    rfl
  · obtain ⟨st, k, D, ps, rfl, st0, hD, hl3, hk, hps, q⟩ := h
    have hz : sizeLine = 16777216 := rfl
    refine ⟨_, (pss_cons (ps_set (i := 3) sc_law_great.nd rfl (Or.inl rfl) (pe_op op_add (pe_ix (ix_list : IxR _ (rIxL K)) (pe_lst (pa_cons pe_int (pa_cons pe_int (pa_cons pe_int (pa_cons pe_int pa_nil))))) (pe_call G_law_draw (hr.mono (by decide)) (by rfl) g_law_draw k_law_draw b_law_draw .nil pass0 (pa_cons (pv 0) (pa_cons pe_int pa_nil))) (fun _ _ => rfl)) (pe_call G_law_draw (hr.mono (by decide)) (by rfl) g_law_draw k_law_draw b_law_draw .nil pass0 (pa_cons (pv 0) (pa_cons pe_int pa_nil)))))
      (pss_cons (ps_set (i := 4) sc_law_great.nd rfl (Or.inl rfl) (pe_lst (pa_cons (pe_tup (pa_cons pe_str (pa_cons pe_int (pa_cons (pe_op op_add_str (pe_op op_mulS pe_str (pv 3)) pe_str) pa_nil)))) pa_nil)))
      (pss_cons (ps_if (pt_cmpR op_eq (pv 1) pe_int (nomark _)) (pss_cons (ps_set (i := 5) sc_law_great.nd rfl (Or.inr rfl) (pe_op op_add (pe_ix (ix_list : IxR _ (rIxL K)) (pe_lst (pa_cons pe_int (pa_cons pe_int (pa_cons pe_int (pa_cons pe_int pa_nil))))) (pe_call G_law_draw (hr.mono (by decide)) (by rfl) g_law_draw k_law_draw b_law_draw .nil pass0 (pa_cons (pv 0) (pa_cons pe_int pa_nil))) (fun _ _ => rfl)) (pe_call G_law_draw (hr.mono (by decide)) (by rfl) g_law_draw k_law_draw b_law_draw .nil pass0 (pa_cons (pv 0) (pa_cons pe_int pa_nil)))))
      (pss_cons (ps_setLc (i := 6) (own := [("k", 7)]) (g := gName 7) (tt := tYes) rfl sc_law_great.nd rfl rfl (sw_true rfl rfl rfl (by decide +kernel)) (pi_range1 (by rfl) m_range (pa_cons pe_int pa_nil)) (blkOk_by (N := nm_law_great) (sc := defScope s_law_great) (by decide +kernel)) (fun _ _ _ _ _ => (pg_name (i := 7) sc_law_great.nd rfl (Or.inl rfl))) (fun _ _ _ _ _ => pts_nil) (fun _ _ _ _ _ => (pe_lst (pa_cons (pe_tup (pa_cons pe_str (pa_cons pe_int (pa_cons (pe_op op_add_str (pe_op op_mulS pe_str (pv 5)) pe_str) pa_nil)))) pa_nil))))
      (pss_cons (ps_set (i := 8) sc_law_great.nd rfl (Or.inl rfl) (pe_lst (pa_cons pe_str (pa_cons pe_str pa_nil))))
      (pss_cons (ps_if (pt_cmpR op_le (pe_callB (cr_sum rfl) (by rfl) m_sum (by decide +kernel) (pa_cons (pe_lc (own := [("program", 9)]) (g := gName 9) (tt := tYes) rfl sc_law_great.nd (pi_list (pv 6)) (blkOk_by (N := nm_law_great) (sc := defScope s_law_great) (by decide +kernel)) (fun _ _ _ _ _ => (pg_name (i := 9) sc_law_great.nd rfl (Or.inl rfl))) (fun _ _ _ _ _ => pts_nil) (fun _ _ _ _ _ => (pe_call G_law_size (hr.mono (by decide)) (by rfl) g_law_size k_law_size b_law_size .nil pass0 (pa_cons (pv 9) pa_nil)))) pa_nil)) pe_int (nomark _)) (pss_one (ps_set (i := 8) sc_law_great.nd rfl (Or.inl rfl) (pe_lst (pa_cons pe_str pa_nil)))) pss_nil)
      (pss_one (ps_ret (pe_cmpR (op_in_seq : OpR _ _ (rIn K false)) (pe_call G_law_told (hr.mono (by decide)) (by rfl) g_law_told k_law_told b_law_told .nil pass0 (pa_cons (pv 1) (pa_cons (pv 6) pa_nil))) (pv 8) (by rfl)))))))) pss_nil)
      (pss_cons (ps_set (i := 2) sc_law_great.nd rfl (Or.inl rfl) (pe_op op_cat (pe_lst (pa_cons (pv 4) pa_nil)) (pe_slice (sl_list : SlR _ (rSlL K)) (pv 2) (po_some pe_int) po_none)))
      (pss_cons (ps_set (i := 8) sc_law_great.nd rfl (Or.inl rfl) (pe_lst (pa_cons pe_str (pa_cons pe_str pa_nil))))
      (pss_cons (ps_if (pt_cmpR op_le (pe_callB (cr_sum rfl) (by rfl) m_sum (by decide +kernel) (pa_cons (pe_lc (own := [("row", 10)]) (g := gName 10) (tt := tYes) rfl sc_law_great.nd (pi_list (pv 2)) (blkOk_by (N := nm_law_great) (sc := defScope s_law_great) (by decide +kernel)) (fun _ _ _ _ _ => (pg_name (i := 10) sc_law_great.nd rfl (Or.inl rfl))) (fun _ _ _ _ _ => pts_nil) (fun _ _ _ _ _ => (pe_call G_law_size (hr.mono (by decide)) (by rfl) g_law_size k_law_size b_law_size .nil pass0 (pa_cons (pv 10) pa_nil)))) pa_nil)) pe_int (nomark _)) (pss_one (ps_set (i := 8) sc_law_great.nd rfl (Or.inl rfl) (pe_lst (pa_cons pe_str pa_nil)))) pss_nil)
      (pss_one (ps_ret (pe_cmpR (op_in_seq : OpR _ _ (rIn K false)) (pe_call G_law_told (hr.mono (by decide)) (by rfl) g_law_told k_law_told b_law_told .nil pass0 (pa_cons (pv 1) (pa_cons (pv 2) pa_nil))) (pv 8) (by rfl)))))))))), ?_⟩
    have l0 : (Str.ofString "0").length = 1 := by decide +kernel
    refine ⟨(by show 4 ≤ sizeLine; omega), fun LL nL => ⟨_, rfl, ?_⟩⟩
    have sL := Same.upd (o := .lst [.int 48000, .int 49990, .int 9000, .int 4990]) nL
    have st1 := sL.strm st0
    have nLs : LL ≠ st := st0.ne nL
    have hL : upd H LL (.lst [.int 48000, .int 49990, .int 9000, .int 4990]) LL = some (.lst [.int 48000, .int 49990, .int 9000, .int 4990]) := upd_same
    have hD1 := hD.same sL
    generalize upd H LL (.lst [V.int 48000, V.int 49990, V.int 9000, V.int 4990]) = H1 at st1 hL hD1 sL ⊢
    refine ⟨st, _, rfl, by decide, by decide, st1, fun d2 H2 hd2 ex2 st2 => ?_⟩
    have hL2 := ex2 _ _ nLs hL
    have hD2 : PgsAt H2 D ps := hD1.exs st1 ex2
    obtain ⟨m0, hat, hm0⟩ : ∃ m0 : Nat, atI [V.int 48000, V.int 49990, V.int 9000, V.int 4990] (d2 : Int) = some (.int m0) ∧ m0 ≤ 49990 := by
      have dd : d2 = 0 ∨ d2 = 1 ∨ d2 = 2 ∨ d2 = 3 := by omega
      rcases dd with rfl | rfl | rfl | rfl
      · exact ⟨48000, atI_nat (j := 0) rfl, by decide⟩
      · exact ⟨49990, atI_nat (j := 1) rfl, by decide⟩
      · exact ⟨9000, atI_nat (j := 2) rfl, by decide⟩
      · exact ⟨4990, atI_nat (j := 3) rfl, by decide⟩
    refine ⟨_, _, _, _, rfl, rfl, SqL.of hL2, hat, _, rfl, st, _, rfl, by decide, by decide, st2, fun d3 H3 hd3 ex3 st3 => ⟨_, _, rfl, rfl, ?_⟩⟩
    have hD3 : PgsAt H3 D ps := hD2.exs st2 ex3
    have ex3 := (sL.exs.trans ex2).trans ex3
    clear hL hD1 sL st1 st2 ex2 hL2 hD2 nL nLs hat hD
    dsimp only
    obtain ⟨m, hm⟩ : ∃ m : Nat, ((m0 : Int) + (d3 : Int)) = m := ⟨m0 + d3, by omega⟩
    rw [hm]
    have hm2 : m ≤ 50000 := by omega
    clear hm hd3 hd2 hm0
    have hnl := numT_len m
    have hnp := (numT m).sg_len
    refine ⟨_, rfl, _, _, rfl, rfl, (by omega), (by omega), (by show 2 * (m : Int).toNat ≤ sizeLine; omega), _, _, rfl, rfl, (by rw [len10]; omega), ?_⟩
    rw [num_str, Int.toNat_natCast]
    refine ⟨(by show 3 ≤ sizeLine; omega), fun T n1 => ⟨(by show 1 ≤ sizeLine; omega), fun E1 n2 => ?_⟩⟩
    have sB := (Same.upd (o := .tup [.str "set", .int 0, .str (numT m).str]) n1).trans (Same.upd (o := .lst [.ref T]) n2)
    have hE : PgAt (upd (upd H3 T (.tup [.str "set", .int 0, .str (numT m).str])) E1 (.lst [.ref T])) E1 [.set 0 (numT m)] := PgAt.one (i := .set 0 (numT m)) n2
    have st4 := sB.strm st3
    have hD4 := hD3.same sB
    have ex4 := ex3.trans sB.exs
    generalize upd (upd H3 T (.tup [V.str "set", V.int 0, V.str (numT m).str])) E1 (.lst [V.ref T]) = H4 at hE st4 hD4 ex4 ⊢
    clear hD3 sB n1 n2 st3 ex3
    have one_sm : ∀ n : Nat, n ≤ 50000 → ∀ i ∈ ([.set 0 (numT n)] : List Ins), i.small := fun n hn i hi => by
      rw [List.mem_singleton.mp hi]
      exact ⟨by decide, by rw [numT_len]; omega⟩
    have one_sum : ∀ n : Nat, sumC [.set 0 (numT n)] = 2 * n + 6 := fun n => by
      rw [sumC_cons, csz_set, numT_len]
      show _ + 0 = _
      omega
    have one_wid : ∀ n : Nat, wid [.set 0 (numT n)] ≤ 1 := fun n => (wid_below (by decide)).mpr fun i hi r hr => by
      rw [List.mem_singleton.mp hi] at hr
      rw [List.mem_singleton.mp hr]
      decide
    have sizes : ∀ (X : Hp) (F : Addr) (qs : List (List Ins)) (te : TE), True := fun _ _ _ _ => True.intro
    refine ⟨_, rfl, rfl, _, rfl, ?_⟩
    refine ite2 (fun c => ?_) (fun c => ?_)
    · have hk2 : k = 2 := by have := V.int.inj (of_decide_eq_true c); omega
      subst hk2
      refine ⟨(by show 4 ≤ sizeLine; omega), fun LL nL => ⟨_, rfl, ?_⟩⟩
      have sL := Same.upd (o := .lst [.int 1000, .int 11000, .int 40, .int 100]) nL
      have st5 := sL.strm st4
      have nLs : LL ≠ st := st4.ne nL
      have hL : upd H4 LL (.lst [.int 1000, .int 11000, .int 40, .int 100]) LL = some (.lst [.int 1000, .int 11000, .int 40, .int 100]) := upd_same
      have ex5 := ex4.trans sL.exs
      generalize upd H4 LL (.lst [V.int 1000, V.int 11000, V.int 40, V.int 100]) = H5 at st5 hL ex5 ⊢
      refine ⟨st, _, rfl, by decide, by decide, st5, fun d2 H6 hd2 ex6 st6 => ?_⟩
      have hL2 := ex6 _ _ nLs hL
      obtain ⟨m0, hat, hm0⟩ : ∃ m0 : Nat, atI [V.int 1000, V.int 11000, V.int 40, V.int 100] (d2 : Int) = some (.int m0) ∧ m0 ≤ 11000 := by
        have dd : d2 = 0 ∨ d2 = 1 ∨ d2 = 2 ∨ d2 = 3 := by omega
        rcases dd with rfl | rfl | rfl | rfl
        · exact ⟨1000, atI_nat (j := 0) rfl, by decide⟩
        · exact ⟨11000, atI_nat (j := 1) rfl, by decide⟩
        · exact ⟨40, atI_nat (j := 2) rfl, by decide⟩
        · exact ⟨100, atI_nat (j := 3) rfl, by decide⟩
      refine ⟨_, _, _, _, rfl, rfl, SqL.of hL2, hat, _, rfl, st, _, rfl, by decide, by decide, st6, fun d3 H7 hd3 ex7 st7 => ⟨_, _, rfl, rfl, ?_⟩⟩
      have ex7 := (ex5.trans ex6).trans ex7
      dsimp only
      obtain ⟨z, hzz⟩ : ∃ z : Nat, ((m0 : Int) + (d3 : Int)) = z := ⟨m0 + d3, by omega⟩
      rw [hzz]
      have hz2 : z ≤ 11010 := by omega
      have hzl := numT_len z
      refine ⟨8, rfl, by decide, by decide, fun F nF => lc_progs (n := 8) (st := st) (fun is => is = [.set 0 (numT z)]) nF st7 (by omega) (fun _ => rfl) (fun i H' hi s' Qc hq => ?_) (fun qs H8 hn hP ex8 st8 hF => ?_)⟩
      · refine ⟨_, rfl, _, _, rfl, rfl, (by omega), (by omega), (by show 2 * (z : Int).toNat ≤ sizeLine; omega), _, _, rfl, rfl, (by rw [len10]; omega), ?_⟩
        rw [num_str, Int.toNat_natCast]
        refine ⟨(by show 3 ≤ sizeLine; omega), fun T n1 => ⟨(by show 1 ≤ sizeLine; omega), fun E1 n2 => ?_⟩⟩
        have s1 := Same.upd (o := .tup [.str "set", .int 0, .str (numT z).str]) n1
        have sB := s1.trans (Same.upd (o := .lst [.ref T]) n2)
        exact hq E1 [.set 0 (numT z)] _ (same_new s1 n2) (PgAt.one (i := .set 0 (numT z)) n2) rfl sB.exs (sB.strm s')
      have ex8 := ex7.trans ex8
      have st8' := st8
      have hqs : ∀ w ∈ qs, w.length ≤ 600 ∧ ∀ i ∈ w, i.small := fun w hw => by
        rw [hP w hw]
        exact ⟨by show 1 ≤ 600; decide, one_sm z (by omega)⟩
      have hw1 : WdK 2 qs ≤ 16 := (gw_le (by decide)).mpr fun p hp => by
        rw [hP p hp]
        exact Nat.le_trans (one_wid z) (by decide)
      refine ⟨(by show 2 ≤ sizeLine; omega), fun DU nDU => ?_⟩
      have sU := Same.upd (o := .lst [.str "made", .str "large"]) nDU
      have hdue : upd H8 DU (.lst [.str "made", .str "large"]) DU = some (.lst [.str "made", .str "large"]) := upd_same
      have hF := hF.same sU
      have ex9 := ex8.trans sU.exs
      have st9' := sU.strm st8
      generalize upd H8 DU (.lst [V.str "made", V.str "large"]) = H9 at hdue hF ex9 st9' ⊢
      obtain ⟨xs, hx, hr⟩ := hF
      have hlen : xs.length = qs.length := Paired.len hr
      refine ⟨_, rfl, F, rfl, ⟨_, SqL.of hx⟩, fun G nG => lc_it (walk_list (K := K) (a := F) (xs := xs)) (fun i H' => Same H9 H' ∧ H' G = some (.lst (((qs.take i).map fun w => ((1 + sumC w : Nat) : Int)).map V.int))) ⟨Same.upd nG, upd_same⟩ (fun i H' _ s => SqL.of (s.1 _ _ hx)) (fun j y Hp' Hy' hj h1 h2 => ?_) (fun Hs h1 => ?_)⟩
      · obtain ⟨sx, hG⟩ := h1
        obtain ⟨rfl, hy⟩ := h2
        obtain ⟨w, hw'⟩ : ∃ w, qs[j]? = some w := ⟨_, List.getElem?_eq_getElem (by omega)⟩
        obtain ⟨_, ea, a, rfl, ha⟩ := Paired.get hr hw'
        rw [ea] at hy
        cases hy
        have hqw := hqs w (List.mem_of_getElem? hw')
        refine ⟨rfl, ?_⟩
        simp only [tYes, ↓reduceIte]
        refine ⟨_, rfl, a, w, rfl, (ha.same sx).k, by omega, hqw.2, fun H3 s3 => ⟨_, s3 _ _ hG, by rw [List.length_map, List.length_map, List.length_take]; omega, fun b o e => ?_, ?_⟩⟩
        · rw [upd_ne (fun z => by rw [z, nG] at e; cases e)]
          exact s3 _ _ (sx b o e)
        · rw [upd_same, List.take_add_one, hw', List.map_append, List.map_append]
          rfl
      obtain ⟨ss, hG⟩ := h1
      rw [List.take_of_length_le (by omega)] at hG
      refine ⟨_, _, rfl, SqL.of hG, _, _, rfl, rfl, _, rfl, ?_⟩
      rw [sum_sizes]
      have hF2 : PgsAt Hs F qs := PgsAt.same ⟨xs, hx, hr⟩ ss
      have hd2 := ss _ _ hdue
      have sx9 := ex9.trans ss.exs
      have st9 := ss.strm st9'
      refine ite2 (fun c2 => ?_) (fun c2 => ?_)
      · refine ⟨(by show 1 ≤ sizeLine; omega), fun D9 nD9 => ?_⟩
        have s9 := Same.upd (o := .lst [.str "made"]) nD9
        have hd9 : upd Hs D9 (.lst [.str "made"]) D9 = some (.lst [.str "made"]) := upd_same
        refine ⟨_, rfl, _, rfl, 2, F, qs, rfl, hF2.same s9, by decide, .inl ⟨rfl, by omega, fun e => by rw [e] at hn; cases hn⟩, hqs, fun r H' sr ans => ?_⟩
        refine ⟨_, rfl, _, _, rfl, .inl (SqL.of (sr _ _ hd9)), rfl, rfl, ?_⟩
        have hm : r = "made" := ans.made (hw1) ((goodT_of (by omega) (by have := of_decide_eq_true c2; omega) fun p hp => by rw [hP p hp]; show 1 ≤ 587; decide).1)
        show Q (V.bl (inV (V.str r) [V.str "made"])) H'
        rw [in_m hm]
        exact q _ ((sx9.trans s9.exs).trans sr.exs) (sr.strm (s9.strm st9))
      · refine ⟨_, rfl, _, rfl, 2, F, qs, rfl, hF2, by decide, .inl ⟨rfl, by omega, fun e => by rw [e] at hn; cases hn⟩, hqs, fun r H' sr ans => ?_⟩
        refine ⟨_, rfl, _, _, rfl, .inl (SqL.of (sr _ _ hd2)), rfl, rfl, ?_⟩
        show Q (V.bl (inV (V.str r) [V.str "made", V.str "large"])) H'
        rw [(in_ml (ans.any (hw1))).1]
        exact q _ (sx9.trans sr.exs) (sr.strm st9)
    · have hk2 : k ≠ 2 := fun e => c (decide_eq_true (by rw [e]; rfl))
      obtain ⟨xs, hx, hr⟩ := hD4
      have hlen : xs.length = ps.length := Paired.len hr
      refine ⟨_, rfl, (by show 1 ≤ sizeLine; omega), fun E2 n1 => ?_⟩
      have s1 := Same.upd (o := .lst [.ref E1]) n1
      have hE2 : upd H4 E2 (.lst [.ref E1]) E2 = some (.lst [.ref E1]) := upd_same
      refine ⟨_, rfl, _, rfl, _, _, rfl, SqL.of (s1 _ _ hx), fun E3 n2 => ?_⟩
      dsimp only
      have ecut : cutV xs (some 1) none = xs.drop 1 := by
        have := cutV_from xs 1
        exact this
      rw [ecut]
      have s2 := Same.upd (o := .lst (xs.drop 1)) n2
      have hE3 : upd (upd H4 E2 (.lst [.ref E1])) E3 (.lst (xs.drop 1)) E3 = some (.lst (xs.drop 1)) := upd_same
      have hE2 := s2 _ _ hE2
      have s12 := s1.trans s2
      have hr5 := Paired.drop 1 (Paired.imp (fun y q ⟨a, ha, hp⟩ => ⟨a, ha, PgAt.same hp s12⟩) hr : Paired (fun (y : V) q => ∃ a, y = .ref a ∧ PgAt (upd (upd H4 E2 (.lst [.ref E1])) E3 (.lst (xs.drop 1))) a q) xs ps)
      have hE5 := hE.same s12
      have st5 := s12.strm st4
      have ex5 := ex4.trans s12.exs
      generalize upd (upd H4 E2 (.lst [V.ref E1])) E3 (.lst (xs.drop 1)) = H5 at hE2 hE3 hr5 hE5 st5 ex5 ⊢
      refine ⟨_, _, _, _, rfl, rfl, hE2, hE3, (by rw [List.length_drop]; show 1 + _ ≤ _; omega), fun F nF => ?_⟩
      have sF := Same.upd (o := .lst ([.ref E1] ++ xs.drop 1)) nF
      obtain ⟨qs, hqe⟩ : ∃ qs, qs = [.set 0 (numT m)] :: ps.drop 1 := ⟨_, rfl⟩
      have hF : PgsAt (upd H5 F (.lst ([.ref E1] ++ xs.drop 1))) F qs := by
        rw [hqe]
        exact ⟨_, upd_same, .cons ⟨E1, rfl, hE5.same sF⟩ (Paired.imp (fun y q ⟨a, ha, hp⟩ => ⟨a, ha, PgAt.same hp sF⟩) hr5)⟩
      have st6 := sF.strm st5
      have ex6 := ex5.trans sF.exs
      generalize upd H5 F (.lst ([V.ref E1] ++ xs.drop 1)) = H6 at hF st6 ex6 ⊢
      clear hE2 hE3 hr5 hE5 st5 ex5 sF nF hr hx hlen s1 s2 s12 n1 n2 ecut
      have hmem : ∀ w ∈ qs, w = [.set 0 (numT m)] ∨ w ∈ ps := fun w hw => by
        rw [hqe] at hw
        rcases List.mem_cons.mp hw with h | h
        · exact .inl h
        · exact .inr (List.mem_of_mem_drop h)
      have hq3 : qs.length = 3 := by rw [hqe, List.length_cons, List.length_drop]; omega
      have hqs : ∀ w ∈ qs, w.length ≤ 600 ∧ ∀ i ∈ w, i.small := fun w hw => by
        rcases hmem w hw with rfl | h
        · exact ⟨by show 1 ≤ 600; decide, one_sm m hm2⟩
        · exact ⟨by have := (hps w h).1; omega, (hps w h).2.1⟩
      have hw1 : WdK k qs ≤ 16 := wd_le hq3 (by decide) fun w hw => by
        rcases hmem w hw with rfl | h
        · exact Nat.le_trans (one_wid m) (by decide)
        · exact (hps w h).2.2
      have htot : totL qs ≤ 430 := by
        have h1 : totL qs ≤ qs.length * 10 := lens_le fun w hw => by
          rcases hmem w hw with rfl | h
          · show 1 ≤ 10
            decide
          · exact (hps w h).1
        omega
      have hsh : k = 2 ∧ qs.length ≤ 8 ∧ qs ≠ [] ∨ ∃ p q r, qs = [p, q, r] := .inr (by
        match qs, hq3 with
        | [p, q, r], _ => exact ⟨p, q, r, rfl⟩)
      refine ⟨(by show 2 ≤ sizeLine; omega), fun DU nDU => ?_⟩
      have sU := Same.upd (o := .lst [.str "made", .str "large"]) nDU
      have hdue : upd H6 DU (.lst [.str "made", .str "large"]) DU = some (.lst [.str "made", .str "large"]) := upd_same
      have hF := hF.same sU
      have ex9 := ex6.trans sU.exs
      have st9' := sU.strm st6
      generalize upd H6 DU (.lst [V.str "made", V.str "large"]) = H9 at hdue hF ex9 st9' ⊢
      obtain ⟨xs, hx, hr⟩ := hF
      have hlen : xs.length = qs.length := Paired.len hr
      refine ⟨_, rfl, F, rfl, ⟨_, SqL.of hx⟩, fun G nG => lc_it (walk_list (K := K) (a := F) (xs := xs)) (fun i H' => Same H9 H' ∧ H' G = some (.lst (((qs.take i).map fun w => ((1 + sumC w : Nat) : Int)).map V.int))) ⟨Same.upd nG, upd_same⟩ (fun i H' _ s => SqL.of (s.1 _ _ hx)) (fun j y Hp' Hy' hj h1 h2 => ?_) (fun Hs h1 => ?_)⟩
      · obtain ⟨sx, hG⟩ := h1
        obtain ⟨rfl, hy⟩ := h2
        obtain ⟨w, hw'⟩ : ∃ w, qs[j]? = some w := ⟨_, List.getElem?_eq_getElem (by omega)⟩
        obtain ⟨_, ea, a, rfl, ha⟩ := Paired.get hr hw'
        rw [ea] at hy
        cases hy
        have hqw := hqs w (List.mem_of_getElem? hw')
        refine ⟨rfl, ?_⟩
        simp only [tYes, ↓reduceIte]
        refine ⟨_, rfl, a, w, rfl, (ha.same sx).k, by omega, hqw.2, fun H3 s3 => ⟨_, s3 _ _ hG, by rw [List.length_map, List.length_map, List.length_take]; omega, fun b o e => ?_, ?_⟩⟩
        · rw [upd_ne (fun z => by rw [z, nG] at e; cases e)]
          exact s3 _ _ (sx b o e)
        · rw [upd_same, List.take_add_one, hw', List.map_append, List.map_append]
          rfl
      obtain ⟨ss, hG⟩ := h1
      rw [List.take_of_length_le (by omega)] at hG
      refine ⟨_, _, rfl, SqL.of hG, _, _, rfl, rfl, _, rfl, ?_⟩
      rw [sum_sizes]
      have hF2 : PgsAt Hs F qs := PgsAt.same ⟨xs, hx, hr⟩ ss
      have hd2 := ss _ _ hdue
      have sx9 := ex9.trans ss.exs
      have st9 := ss.strm st9'
      refine ite2 (fun c2 => ?_) (fun c2 => ?_)
      · refine ⟨(by show 1 ≤ sizeLine; omega), fun D9 nD9 => ?_⟩
        have s9 := Same.upd (o := .lst [.str "made"]) nD9
        have hd9 : upd Hs D9 (.lst [.str "made"]) D9 = some (.lst [.str "made"]) := upd_same
        refine ⟨_, rfl, _, rfl, k, F, qs, rfl, hF2.same s9, hk, hsh, hqs, fun r H' sr ans => ?_⟩
        refine ⟨_, rfl, _, _, rfl, .inl (SqL.of (sr _ _ hd9)), rfl, rfl, ?_⟩
        have hm : r = "made" := ans.made (hw1) (gd_of hq3 hk hw1 htot (by have := of_decide_eq_true c2; omega) (fun e => absurd e hk2))
        show Q (V.bl (inV (V.str r) [V.str "made"])) H'
        rw [in_m hm]
        exact q _ ((sx9.trans s9.exs).trans sr.exs) (sr.strm (s9.strm st9))
      · refine ⟨_, rfl, _, rfl, k, F, qs, rfl, hF2, hk, hsh, hqs, fun r H' sr ans => ?_⟩
        refine ⟨_, rfl, _, _, rfl, .inl (SqL.of (sr _ _ hd2)), rfl, rfl, ?_⟩
        show Q (V.bl (inV (V.str r) [V.str "made", V.str "large"])) H'
        rw [(in_ml (ans.any (hw1))).1]
        exact q _ (sx9.trans sr.exs) (sr.strm st9)
abbrev s_law : Stmt := topS 70
abbrev nm_law : List Str := ["script", "stream", "which", "rows", "k", "at", "wide", "spot", "one", "due", "other"]
theorem sc_law : FnScope nm_law ["script"] (defScope s_law) := ⟨rfl, rfl, rfl, by decide +kernel, rfl, by decide +kernel, by decide +kernel⟩
def sp_law (K : PySem.W.Frag) (cl : Cn → Addr) : Sp := fun vs H Q _ => ∃ (a : Addr) (ns : List Int), vs = [.ref a] ∧ SqL K H a (ns.map V.int) ∧ ns.length ≤ 63 ∧ ∀ H', Q (.bl true) H'
theorem v_setW (w : Nat) : ([.str "set", .int w, .str "0"] : List V) = (Ins.set w .leaf).vs := by
  show _ = [V.str (Str.ofString "set"), V.int ((w : Nat) : Int), V.str Tr.leaf.str]
  rw [leaf_str]
theorem PgsAt.strm_put {H : Hp} {D st : Addr} {ps : List (List Ins)} (h : PgsAt H D ps) (hl : ps.length = 3) (s : Strm H st) (o : HO) : Strm (upd H D o) st ∧ D ≠ st := by
  obtain ⟨xs, hx, hr⟩ := h
  obtain ⟨l, ns, c, i, m, g1, g2, rest⟩ := s
  match ps, hl, xs, hr with
  | [p, q, r], _, _ :: _ :: _ :: _, .cons ⟨a, ea, _⟩ (.cons ⟨b, eb, _⟩ t) =>
    have n1 : D ≠ st := fun e => by
      rw [e, g1] at hx
      have h := HO.lst.inj (Option.some.inj hx)
      have h := (List.cons.inj (List.cons.inj h).2).1
      rw [eb] at h
      cases h
    have n2 : D ≠ l := fun e => by
      rw [e, g2] at hx
      have h := HO.lst.inj (Option.some.inj hx)
      cases ns with
      | nil => cases h
      | cons n ns =>
        have h := (List.cons.inj h).1
        rw [ea] at h
        cases h
    exact ⟨⟨l, ns, c, i, m, by rw [upd_ne n1.symm]; exact g1, by rw [upd_ne n2.symm]; exact g2, rest⟩, n1⟩
structure OneI (W : Nat) (i : Ins) : Prop where
  below : i.below (W + 1)
  small : i.small
  cs : csz i ≤ 2 * W + 20
  has : W ∈ i.regs
theorem wid_ge {is : List Ins} {i : Ins} {r : Nat} (h : i ∈ is) (hr : r ∈ i.regs) : r + 1 ≤ wid is := wid_bel is i h r hr
theorem ok_law (T : Txt K mg cl w) (H_law_stream : Has P w K mg base CX0 1 "_law_stream" ["script"] (sp_law_stream K cl)) (H_law_draw : Has P w K mg base CX0 1 "_law_draw" ["stream", "many"] (sp_law_draw K cl)) (H_law_short_program : Has P w K mg base CX0 43 "_law_short_program" ["stream"] (sp_law_short_program K cl)) (H_law_told : Has P w K mg base CX0 9 "_law_told" ["which", "rows"] (sp_law_told K cl)) (H_law_great : Has P w K mg base CX0 10 "_law_great" ["stream", "which", "rows"] (sp_law_great K cl)) {f : Addr} {fd : FuncData} (F : Fun K "law" "law" s_law f fd) : FnOk P w K mg base CX0 44 f fd ["script"] (sp_law K cl) := by
  have m_int := T.m_int
  have m_range := T.m_range
  have m_len := T.m_len
  obtain ⟨f_law_stream, d_law_stream, G_law_stream, g_law_stream, k_law_stream, b_law_stream⟩ := H_law_stream.ex
  obtain ⟨f_law_draw, d_law_draw, G_law_draw, g_law_draw, k_law_draw, b_law_draw⟩ := H_law_draw.ex
  obtain ⟨f_law_short_program, d_law_short_program, G_law_short_program, g_law_short_program, k_law_short_program, b_law_short_program⟩ := H_law_short_program.ex
  obtain ⟨f_law_told, d_law_told, G_law_told, g_law_told, k_law_told, b_law_told⟩ := H_law_told.ex
  obtain ⟨f_law_great, d_law_great, G_law_great, g_law_great, k_law_great, b_law_great⟩ := H_law_great.ex
  refine F.ok sc_law (fun vs H Q E h => ?_) (fun cdv A outer s H vs Q E hr h => ?_)
  · obtain ⟨x, i, rfl, _⟩ := h
    rfl
  · obtain ⟨a, ns, rfl, hS, hlen, qfin⟩ := h
    have hz : sizeLine = 16777216 := rfl
    refine ⟨_, (pss_cons (ps_set (i := 1) sc_law.nd rfl (Or.inr rfl) (pe_call G_law_stream (hr.mono (by decide)) (by rfl) g_law_stream k_law_stream b_law_stream .nil pass0 (pa_cons (pv 0) pa_nil)))
      (pss_cons (ps_set (i := 2) sc_law.nd rfl (Or.inl rfl) (pe_call G_law_draw (hr.mono (by decide)) (by rfl) g_law_draw k_law_draw b_law_draw .nil pass0 (pa_cons (pv 1) (pa_cons pe_int pa_nil))))
      (pss_cons (ps_setLc (i := 3) (own := [("k", 4)]) (g := gName 4) (tt := tYes) rfl sc_law.nd rfl rfl (sw_true rfl rfl rfl (by decide +kernel)) (pi_range1 (by rfl) m_range (pa_cons pe_int pa_nil)) (blkOk_by (N := nm_law) (sc := defScope s_law) (by decide +kernel)) (fun _ _ _ _ _ => (pg_name (i := 4) sc_law.nd rfl (Or.inl rfl))) (fun _ _ _ _ _ => pts_nil) (fun _ _ _ _ _ => (pe_call G_law_short_program (hr.mono (by decide)) (by rfl) g_law_short_program k_law_short_program b_law_short_program .nil pass0 (pa_cons (pv 1) pa_nil))))
      (pss_cons (ps_set (i := 5) sc_law.nd rfl (Or.inl rfl) pe_int)
      (Evl.pss_cut (ps_if (PW.pt (pw_or (pt_cmpR op_eq (pv 2) pe_int (nomark _)) (pw_or1 (pt_cmpR op_eq (pv 2) pe_int (nomark _))))) (pss_one (ps_set (i := 5) sc_law.nd rfl (Or.inl rfl) (pe_call G_law_draw (hr.mono (by decide)) (by rfl) g_law_draw k_law_draw b_law_draw .nil pass0 (pa_cons (pv 1) (pa_cons pe_int pa_nil))))) pss_nil)
      (pss_cons (ps_set (i := 6) sc_law.nd rfl (Or.inl rfl) (pe_op op_add pe_int (pe_call G_law_draw (hr.mono (by decide)) (by rfl) g_law_draw k_law_draw b_law_draw .nil pass0 (pa_cons (pv 1) (pa_cons pe_int pa_nil)))))
      (pss_cons (ps_set (i := 7) sc_law.nd rfl (Or.inl rfl) (pe_call G_law_draw (hr.mono (by decide)) (by rfl) g_law_draw k_law_draw b_law_draw .nil pass0 (pa_cons (pv 1) (pa_cons (pe_op op_add (pe_callB (call_lenS : CallR _ _ (rLenS K)) (by rfl) m_len (by decide +kernel) (pa_cons (pe_ix (ix_list : IxR _ (rIxL K)) (pv 3) (pv 5) (fun _ _ => rfl)) pa_nil)) pe_int) pa_nil))))
      (pss_cons (ps_set (i := 8) sc_law.nd rfl (Or.inl rfl) (pe_ix (ix_list : IxR _ (rIxL K)) (pe_lst (pa_cons (pe_tup (pa_cons pe_str (pa_cons (pv 6) (pa_cons pe_int pa_nil)))) (pa_cons (pe_tup (pa_cons pe_str (pa_cons (pv 6) (pa_cons pe_str pa_nil)))) (pa_cons (pe_tup (pa_cons pe_str (pa_cons (pv 6) (pa_cons pe_int pa_nil)))) (pa_cons (pe_tup (pa_cons pe_str (pa_cons pe_int (pa_cons pe_int (pa_cons (pv 6) pa_nil))))) pa_nil))))) (pe_call G_law_draw (hr.mono (by decide)) (by rfl) g_law_draw k_law_draw b_law_draw .nil pass0 (pa_cons (pv 1) (pa_cons pe_int pa_nil))) (fun _ _ => rfl)))
      (pss_cons (ps_asg (pe_op op_cat (pe_op op_cat (pe_op op_rep (pe_lst (pa_cons (pe_tup (pa_cons pe_str (pa_cons pe_int (pa_cons pe_int pa_nil)))) pa_nil)) (pv 7)) (pe_lst (pa_cons (pv 8) pa_nil))) (pe_ix (ix_list : IxR _ (rIxL K)) (pv 3) (pv 5) (fun _ _ => rfl))) (pg_sub (pv 3) (pv 5) set_list))
      (pss_cons (ps_set (i := 9) sc_law.nd rfl (Or.inl rfl) pe_str)
      (Evl.pss_cut (ps_if (pt_cmpR op_gt (pv 6) pe_int (nomark _)) (pss_one (ps_set (i := 9) sc_law.nd rfl (Or.inl rfl) pe_str)) pss_nil)
      (pss_cons (ps_if (pt_cmpR op_ne (pe_call G_law_told (hr.mono (by decide)) (by rfl) g_law_told k_law_told b_law_told .nil pass0 (pa_cons (pv 2) (pa_cons (pv 3) pa_nil))) (pv 9) (nomark _)) (pss_one (ps_ret pe_bl)) pss_nil)
      (pss_cons (ps_if (pt_cmpR op_gt (pe_call G_law_draw (hr.mono (by decide)) (by rfl) g_law_draw k_law_draw b_law_draw .nil pass0 (pa_cons (pv 1) (pa_cons pe_int pa_nil))) pe_int (nomark _)) (pss_one (ps_ret pe_bl)) pss_nil)
      (pss_cons (ps_asg (pe_op op_rep (pe_lst (pa_cons (pe_tup (pa_cons pe_str (pa_cons pe_int (pa_cons pe_int pa_nil)))) pa_nil)) (pe_ix (ix_list : IxR _ (rIxL K)) (pe_lst (pa_cons pe_int (pa_cons pe_int (pa_cons pe_int (pa_cons pe_int (pa_cons pe_int pa_nil)))))) (pv 2) (fun _ _ => rfl))) (pg_sub (pv 3) (pv 5) set_list))
      (pss_cons (ps_if (pt_cmpR op_ne (pe_call G_law_told (hr.mono (by decide)) (by rfl) g_law_told k_law_told b_law_told .nil pass0 (pa_cons (pv 2) (pa_cons (pv 3) pa_nil))) pe_str (nomark _)) (pss_one (ps_ret pe_bl)) pss_nil)
      (pss_cons (ps_asg (pe_op op_rep (pe_lst (pa_cons (pe_tup (pa_cons pe_str (pa_cons pe_int (pa_cons pe_int pa_nil)))) pa_nil)) pe_int) (pg_sub (pv 3) (pv 5) set_list))
      (pss_cons (ps_if (pt_cmpR op_ne (pe_call G_law_told (hr.mono (by decide)) (by rfl) g_law_told k_law_told b_law_told .nil pass0 (pa_cons (pv 2) (pa_cons (pv 3) pa_nil))) pe_str (nomark _)) (pss_one (ps_ret pe_bl)) pss_nil)
      (pss_cons (ps_asg (pe_op op_rep (pe_lst (pa_cons (pe_tup (pa_cons pe_str (pa_cons pe_int (pa_cons pe_int pa_nil)))) pa_nil)) pe_int) (pg_sub (pv 3) (pv 5) set_list))
      (pss_cons (ps_set (i := 10) sc_law.nd rfl (Or.inl rfl) (pe_op op_mod (pe_callTy call_int1 (by rfl) m_int (by decide +kernel) (pa_cons (pe_op op_add (pv 5) pe_int) pa_nil)) pe_int))
      (Evl.pss_cut (ps_if (PW.pt (pw_or (pt_cmpR op_eq (pv 2) pe_int (nomark _)) (pw_or1 (pt_cmpR op_eq (pv 2) pe_int (nomark _))))) (pss_cons (ps_asg (pe_lst (pa_cons (pe_tup (pa_cons pe_str (pa_cons (pe_op op_add pe_int (pe_call G_law_draw (hr.mono (by decide)) (by rfl) g_law_draw k_law_draw b_law_draw .nil pass0 (pa_cons (pv 1) (pa_cons pe_int pa_nil)))) (pa_cons pe_int pa_nil)))) pa_nil)) (pg_sub (pv 3) (pv 10) set_list))
      (pss_cons (ps_if (pt_cmpR op_ne (pe_call G_law_told (hr.mono (by decide)) (by rfl) g_law_told k_law_told b_law_told .nil pass0 (pa_cons (pv 2) (pa_cons (pv 3) pa_nil))) pe_str (nomark _)) (pss_one (ps_ret pe_bl)) pss_nil)
      (pss_one (ps_asg (pe_lst (pa_cons (pe_tup (pa_cons pe_str (pa_cons pe_int (pa_cons pe_int pa_nil)))) pa_nil)) (pg_sub (pv 3) (pv 10) set_list))))) pss_nil)
      (pss_cons (ps_if (pt_not (pt_val (pe_call G_law_great (hr.mono (by decide)) (by rfl) g_law_great k_law_great b_law_great .nil pass0 (pa_cons (pv 1) (pa_cons (pv 2) (pa_cons (pe_op op_cat (pe_op op_cat (pe_slice (sl_list : SlR _ (rSlL K)) (pv 3) po_none (po_some (pv 5))) (pe_lst (pa_cons (pe_lst pa_nil) pa_nil))) (pe_slice (sl_list : SlR _ (rSlL K)) (pv 3) (po_some (pe_op op_add (pv 5) pe_int)) po_none)) pa_nil)))))) (pss_one (ps_ret pe_bl)) pss_nil)
      (pss_cons (ps_asg (pe_op op_rep (pe_lst (pa_cons (pe_tup (pa_cons pe_str (pa_cons pe_int (pa_cons pe_int pa_nil)))) (pa_cons (pe_tup (pa_cons pe_str (pa_cons pe_int (pa_cons pe_int (pa_cons pe_int pa_nil))))) pa_nil))) pe_int) (pg_sub (pv 3) (pv 5) set_list))
      (pss_one (ps_ret (pe_cmpR (op_in_seq : OpR _ _ (rIn K false)) (pe_call G_law_told (hr.mono (by decide)) (by rfl) g_law_told k_law_told b_law_told .nil pass0 (pa_cons (pv 2) (pa_cons (pv 3) pa_nil))) (pe_tup (pa_cons pe_str (pa_cons pe_str pa_nil))) (by rfl)))))))))))))))))))))))))), ?_⟩
    refine ⟨_, rfl, a, ns, rfl, hS, hlen, fun st H1 sm n0 st1 => ?_⟩
    clear sm n0 hS hlen
    refine ⟨_, rfl, st, _, rfl, by decide, by decide, st1, fun k H2 hk ex2 st2 => ?_⟩
    clear st1 ex2
    have hk : k < 5 := by omega
    refine ⟨3, rfl, by decide, by decide, fun D nD => lc_progs (n := 3) (st := st) (fun is => is.length ≤ 8 ∧ PgOk 5 4 is) nD st2 (by omega) (fun _ => rfl) (fun i H' hi s' Qc hq => ?_) (fun ps H3 hn hP ex3 st3 hD3 => ?_)⟩
    · exact ⟨_, rfl, st, rfl, s', fun p Ha is exa sta np hp hl ok => hq p is Ha np hp ⟨hl, ok⟩ exa sta⟩
    clear nD st2 ex3
    -- what is known of the programs
    have hall : ∀ p ∈ ps, p.length ≤ 8 ∧ (∀ i ∈ p, i.small) ∧ wid p ≤ 5 ∧ sumC p ≤ 600 := fun p hp => by
      obtain ⟨hl, ok⟩ := hP p hp
      have hall : ∀ i ∈ p, i.below 5 ∧ i.near 8 ∧ i.big ≤ 9 := fun i hi => ⟨ok_bel ok i hi, Ins.near_le (ok.near i hi) hl, ok.big i hi⟩
      have h1 : sumC p ≤ p.length * (74 + 1) := sumC_le p fun i hi => Nat.le_trans (csz_le (hall i hi).1 (hall i hi).2.1) (by have := (hall i hi).2.2; omega)
      exact ⟨hl, fun i hi => small_of (hall i hi).1 (by decide) (Ins.near_le (hall i hi).2.1 (by decide)) (Nat.le_trans (hall i hi).2.2 (by decide)), ok.wid (by decide), by omega⟩
    have htot : totL ps ≤ 24 := by
      have h1 : totL ps ≤ ps.length * 8 := lens_le fun w hw => (hall w hw).1
      omega
    have hsum : allC ps ≤ 1800 := by
      have h1 : allC ps ≤ (ps.map sumC).length * 600 := sum_le_mul (ps.map sumC) fun n hn => by
        obtain ⟨w, hw, rfl⟩ := List.mem_map.mp hn
        exact (hall w hw).2.2.2
      rw [List.length_map] at h1
      omega
    -- the place
    refine ⟨fun σ H' => ∃ at' : Nat, σ = [some (.ref a), some (.ref st), some (.int k), some (.ref D), none, some (.int at'), none, none, none, none, none] ∧ at' < 3 ∧ (at' ≠ 0 → k = 2 ∨ k = 3) ∧ Strm H' st ∧ PgsAt H' D ps, ?_, ?_⟩
    · refine ⟨_, rfl, rfl, _, rfl, ?_⟩
      by_cases c2 : k = 2
      · refine iteT' (decide_eq_true (by rw [c2]; rfl)) (iteT ?_)
        exact ⟨_, rfl, st, _, rfl, by decide, by decide, st3, fun d Ha hd exa sta => ⟨d, rfl, by omega, fun _ => .inl c2, sta, PgsAt.exs hD3 st3 exa⟩⟩
      refine iteF' (decide_eq_false (fun z => c2 (by have := V.int.inj z; omega))) ⟨_, rfl, rfl, _, rfl, ?_⟩
      by_cases c3 : k = 3
      · refine iteT' (decide_eq_true (by rw [c3]; rfl)) ?_
        exact ⟨_, rfl, st, _, rfl, by decide, by decide, st3, fun d Ha hd exa sta => ⟨d, rfl, by omega, fun _ => .inr c3, sta, PgsAt.exs hD3 st3 exa⟩⟩
      · exact iteF' (decide_eq_false (fun z => c3 (by have := V.int.inj z; omega))) ⟨0, rfl, by decide, fun z => absurd rfl z, st3, hD3⟩
    clear hD3 st3
    rintro σ H4 ⟨at', rfl, ha3, hka, st4, hD4⟩
    refine ⟨_, rfl, st, _, rfl, by decide, by decide, st4, fun dw H5 hdw ex5 st5 => ⟨_, _, rfl, rfl, ?_⟩⟩
    dsimp only
    obtain ⟨wd, hwd⟩ : ∃ wd : Nat, ((13 : Int) + (dw : Int)) = wd := ⟨13 + dw, by omega⟩
    rw [hwd]
    have hw1 : 13 ≤ wd := by omega
    have hw2 : wd ≤ 19 := by omega
    clear hwd hdw
    have hD5 : PgsAt H5 D ps := PgsAt.exs hD4 st4 ex5
    clear st4 hD4 ex5
    obtain ⟨xs, hx, hr⟩ := hD5
    have hxl : xs.length = ps.length := Paired.len hr
    obtain ⟨p0, hp0⟩ : ∃ p, ps[at']? = some p := ⟨_, List.getElem?_eq_getElem (by omega)⟩
    obtain ⟨_, ea, a0, rfl, ha0⟩ := Paired.get hr hp0
    have hat : atI xs (at' : Int) = some (.ref a0) := atI_nat ea
    have hap0 := hall p0 (List.mem_of_getElem? hp0)
    obtain ⟨ys, hy, hyl⟩ := ha0.len
    refine ⟨_, rfl, _, rfl, _, rfl, _, _, _, _, rfl, rfl, SqL.of hx, hat, _, _, rfl, .inl (SqL.of hy), _, _, rfl, rfl, st, _, rfl, by omega, by omega, st5, fun spot H6 hspot ex6 st6 => ?_⟩
    have hs8 : spot ≤ 8 := by omega
    have hD6 : PgsAt H6 D ps := PgsAt.exs ⟨xs, hx, hr⟩ st5 ex6
    clear hx hr hxl ea ha0 hat hy hyl ex6 st5 hspot ys xs
    refine ⟨_, rfl, (by show 3 ≤ sizeLine; omega), fun T1 n1 => ⟨_, rfl, (by show 3 ≤ sizeLine; omega), fun T2 n2 => ⟨_, rfl, (by show 3 ≤ sizeLine; omega), fun T3 n3 => ⟨_, rfl, (by show 4 ≤ sizeLine; omega), fun T4 n4 => ⟨(by show 4 ≤ sizeLine; omega), fun LL nL => ⟨_, rfl, ?_⟩⟩⟩⟩⟩⟩
    have s1 := Same.upd (o := .tup [.str "move", .int wd, .int 0]) n1
    have s2 := Same.upd (o := .tup [.str "set", .int wd, .str "0"]) n2
    have s3 := Same.upd (o := .tup [.str "head", .int wd, .int 0]) n3
    have s4 := Same.upd (o := .tup [.str "cons", .int 0, .int 0, .int wd]) n4
    have s5 := Same.upd (o := .lst [.ref T1, .ref T2, .ref T3, .ref T4]) nL
    have t4 := s4.trans s5
    have t3 := s3.trans t4
    have t2 := s2.trans t3
    have t1 := s1.trans t2
    have r1 : (upd (upd (upd (upd (upd H6 T1 (.tup [V.str (Str.ofString "move"), V.int wd, V.int 0])) T2 (.tup [V.str (Str.ofString "set"), V.int wd, V.str (Str.ofString "0")])) T3 (.tup [V.str (Str.ofString "head"), V.int wd, V.int 0])) T4 (.tup [V.str (Str.ofString "cons"), V.int 0, V.int 0, V.int wd])) LL (.lst [V.ref T1, V.ref T2, V.ref T3, V.ref T4])) T1 = some (.tup (Ins.move wd 0).vs) := t2 _ _ upd_same
    have r2 : (upd (upd (upd (upd (upd H6 T1 (.tup [V.str (Str.ofString "move"), V.int wd, V.int 0])) T2 (.tup [V.str (Str.ofString "set"), V.int wd, V.str (Str.ofString "0")])) T3 (.tup [V.str (Str.ofString "head"), V.int wd, V.int 0])) T4 (.tup [V.str (Str.ofString "cons"), V.int 0, V.int 0, V.int wd])) LL (.lst [V.ref T1, V.ref T2, V.ref T3, V.ref T4])) T2 = some (.tup (Ins.set wd .leaf).vs) := t3 _ _ (by rw [← v_setW]; exact upd_same)
    have r3 : (upd (upd (upd (upd (upd H6 T1 (.tup [V.str (Str.ofString "move"), V.int wd, V.int 0])) T2 (.tup [V.str (Str.ofString "set"), V.int wd, V.str (Str.ofString "0")])) T3 (.tup [V.str (Str.ofString "head"), V.int wd, V.int 0])) T4 (.tup [V.str (Str.ofString "cons"), V.int 0, V.int 0, V.int wd])) LL (.lst [V.ref T1, V.ref T2, V.ref T3, V.ref T4])) T3 = some (.tup (Ins.head wd 0).vs) := t4 _ _ upd_same
    have r4' : (upd (upd (upd (upd (upd H6 T1 (.tup [V.str (Str.ofString "move"), V.int wd, V.int 0])) T2 (.tup [V.str (Str.ofString "set"), V.int wd, V.str (Str.ofString "0")])) T3 (.tup [V.str (Str.ofString "head"), V.int wd, V.int 0])) T4 (.tup [V.str (Str.ofString "cons"), V.int 0, V.int 0, V.int wd])) LL (.lst [V.ref T1, V.ref T2, V.ref T3, V.ref T4])) T4 = some (.tup (Ins.cons 0 0 wd).vs) := s5 _ _ upd_same
    have hLL : (upd (upd (upd (upd (upd H6 T1 (.tup [V.str (Str.ofString "move"), V.int wd, V.int 0])) T2 (.tup [V.str (Str.ofString "set"), V.int wd, V.str (Str.ofString "0")])) T3 (.tup [V.str (Str.ofString "head"), V.int wd, V.int 0])) T4 (.tup [V.str (Str.ofString "cons"), V.int 0, V.int 0, V.int wd])) LL (.lst [V.ref T1, V.ref T2, V.ref T3, V.ref T4])) LL = some (.lst [.ref T1, .ref T2, .ref T3, .ref T4]) := upd_same
    have sA : Same H6 (upd (upd (upd (upd (upd H6 T1 (.tup [V.str (Str.ofString "move"), V.int wd, V.int 0])) T2 (.tup [V.str (Str.ofString "set"), V.int wd, V.str (Str.ofString "0")])) T3 (.tup [V.str (Str.ofString "head"), V.int wd, V.int 0])) T4 (.tup [V.str (Str.ofString "cons"), V.int 0, V.int 0, V.int wd])) LL (.lst [V.ref T1, V.ref T2, V.ref T3, V.ref T4])) := t1
    clear s1 s2 s3 s4 s5 t4 t3 t2 t1
    generalize (upd (upd (upd (upd (upd H6 T1 (.tup [V.str (Str.ofString "move"), V.int wd, V.int 0])) T2 (.tup [V.str (Str.ofString "set"), V.int wd, V.str (Str.ofString "0")])) T3 (.tup [V.str (Str.ofString "head"), V.int wd, V.int 0])) T4 (.tup [V.str (Str.ofString "cons"), V.int 0, V.int 0, V.int wd])) LL (.lst [V.ref T1, V.ref T2, V.ref T3, V.ref T4])) = H7 at r1 r2 r3 r4' hLL sA ⊢
    have st7 := sA.strm st6
    have hD7 := hD6.same sA
    clear hD6 sA st6 n1 n2 n3 n4 nL
    have nLs : LL ≠ st := fun z => by
      obtain ⟨l, ns', c, i', m', g1, _⟩ := st7
      rw [z, g1] at hLL
      cases hLL
    have ntp : ∀ (T : Addr) (i : Ins), H7 T = some (.tup i.vs) → T ≠ st := fun T i h z => by
      obtain ⟨l, ns', c, i', m', g1, _⟩ := st7
      rw [z, g1] at h
      cases h
    refine ⟨st, _, rfl, by decide, by decide, st7, fun d8 H8 hd8 ex8 st8 => ?_⟩
    have hLL8 := ex8 _ _ nLs hLL
    have hD8 : PgsAt H8 D ps := PgsAt.exs hD7 st7 ex8
    obtain ⟨one, To, hat, hTo, hone⟩ : ∃ (one : Ins) (To : Addr), atI [V.ref T1, V.ref T2, V.ref T3, V.ref T4] (d8 : Int) = some (.ref To) ∧ H8 To = some (.tup one.vs) ∧ OneI wd one := by
      have dd : d8 = 0 ∨ d8 = 1 ∨ d8 = 2 ∨ d8 = 3 := by omega
      have two : ∀ (b : Nat), b ∈ [wd, 0] → b < wd + 1 := fun b hb => by
        simp only [List.mem_cons, List.not_mem_nil, or_false] at hb
        omega
      rcases dd with rfl | rfl | rfl | rfl
      · exact ⟨_, T1, atI_nat (j := 0) rfl, ex8 _ _ (ntp _ _ r1) r1, fun r hr => two r hr, ⟨by omega, by decide⟩, by rw [csz_move]; omega, by simp [Ins.regs]⟩
      · exact ⟨_, T2, atI_nat (j := 1) rfl, ex8 _ _ (ntp _ _ r2) r2, fun r hr => by rw [List.mem_singleton.mp hr]; omega, ⟨by omega, by decide⟩, by rw [csz_set]; show _ + 1 + 4 ≤ _; omega, by simp [Ins.regs]⟩
      · exact ⟨_, T3, atI_nat (j := 2) rfl, ex8 _ _ (ntp _ _ r3) r3, fun r hr => two r hr, ⟨by omega, by decide⟩, by rw [csz_head]; omega, by simp [Ins.regs]⟩
      · exact ⟨_, T4, atI_nat (j := 3) rfl, ex8 _ _ (ntp _ _ r4') r4', fun r hr => two r (by
          have hr : r ∈ [0, 0, wd] := hr
          simp only [List.mem_cons, List.not_mem_nil, or_false] at hr ⊢
          omega), ⟨by decide, by decide, by omega⟩, by rw [csz_cons]; omega, by simp [Ins.regs]⟩
    clear r1 r2 r3 r4' hLL st7 hD7 ntp nLs ex8 hd8
    refine ⟨_, _, _, _, rfl, rfl, SqL.of hLL8, hat, ?_⟩
    clear hLL8 hat
    -- the new row
    refine ⟨(by show 3 ≤ sizeLine; omega), fun T n1 => ⟨(by show 1 ≤ sizeLine; omega), fun E1 n2 => ?_⟩⟩
    have sB := (Same.upd (o := .tup [.str "move", .int 0, .int 0]) n1).trans (Same.upd (o := .lst [.ref T]) n2)
    have hE : PgAt (upd (upd H8 T (.tup [.str "move", .int 0, .int 0])) E1 (.lst [.ref T])) E1 [.move 0 0] := PgAt.one (i := .move 0 0) n2
    have st9 := sB.strm st8
    have hD9 := hD8.same sB
    have hTo := sB _ _ hTo
    generalize upd (upd H8 T (.tup [V.str "move", V.int 0, V.int 0])) E1 (.lst [V.ref T]) = H9 at hE st9 hD9 hTo ⊢
    clear hD8 sB n1 n2 st8
    obtain ⟨es, he, hel, hrep⟩ := pg_repl hE
    have hel : es.length = 1 := hel
    refine ⟨_, rfl, _, _, _, rfl, rfl, he, (by omega), (by omega), (by rw [hel]; omega), fun E2 n3 => ?_⟩
    have hE2 := hrep spot E2 n3
    rw [flat_one] at hE2
    rw [show ((spot : Int)).toNat = spot by omega]
    have s3 := Same.upd (o := .lst (List.replicate spot es).flatten) n3
    have sta := s3.strm st9
    have hDa := hD9.same s3
    have hTo := s3 _ _ hTo
    generalize upd H9 E2 (.lst (List.replicate spot es).flatten) = Ha at hE2 sta hDa hTo ⊢
    clear hE he hel hrep s3 n3 st9 hD9
    refine ⟨_, rfl, (by show 1 ≤ sizeLine; omega), fun E3 n4 => ?_⟩
    have s4 := Same.upd (o := .lst [.ref To]) n4
    have hE3 : PgAt (upd Ha E3 (.lst [.ref To])) E3 [one] := ⟨[To], upd_same, .cons (s4 _ _ hTo) .nil⟩
    have hE2 := hE2.same s4
    have stb := s4.strm sta
    have hDb := hDa.same s4
    generalize upd Ha E3 (.lst [V.ref To]) = Hb at hE2 hE3 stb hDb ⊢
    clear s4 n4 sta hDa hTo
    obtain ⟨as1, bs1, h1, h2, l1, l2, hcat⟩ := hE2.cat hE3
    rw [List.length_replicate] at l1
    have l2 : bs1.length = 1 := l2
    refine ⟨_, _, _, _, rfl, rfl, h1, h2, (by omega), fun E4 n5 => ?_⟩
    have hE4 := hcat E4 n5
    have s5 := Same.upd (o := .lst (as1 ++ bs1)) n5
    have stc := s5.strm stb
    have hDc := hDb.same s5
    generalize upd Hb E4 (.lst (as1 ++ bs1)) = Hc at hE4 stc hDc ⊢
    clear hE2 hE3 stb hDb h1 h2 l1 l2 hcat s5 n5
    obtain ⟨xs, hx, hr⟩ := hDc
    obtain ⟨_, ea, a0, rfl, ha0⟩ := Paired.get hr hp0
    have hat : atI xs (at' : Int) = some (.ref a0) := atI_nat ea
    obtain ⟨as1, bs1, h1, h2, l1, l2, hcat⟩ := hE4.cat ha0
    rw [List.length_append, List.length_replicate] at l1
    have l1 : as1.length = spot + 1 := l1
    refine ⟨_, rfl, _, rfl, _, _, _, _, rfl, rfl, SqL.of hx, hat, _, _, _, _, rfl, rfl, h1, h2, (by omega), fun N nN => ?_⟩
    obtain ⟨new, hnew⟩ : ∃ new, new = (List.replicate spot (.move 0 0) ++ [one]) ++ p0 := ⟨_, rfl⟩
    have hN := hcat N nN
    rw [← hnew] at hN
    have s6 := Same.upd (o := .lst (as1 ++ bs1)) nN
    have std := s6.strm stc
    have hDd : PgsAt (upd Hc N (.lst (as1 ++ bs1))) D ps := PgsAt.same ⟨xs, hx, hr⟩ s6
    have nND : N ≠ D := fun z => by rw [z, hx] at nN; cases nN
    generalize upd Hc N (.lst (as1 ++ bs1)) = Hd at hN std hDd ⊢
    clear hE4 stc hx hr ea ha0 hat h1 h2 l1 l2 hcat s6 nN xs
    -- what is known of the new row
    have nwl : new.length ≤ 17 := by
      rw [hnew, List.length_append, List.length_append, List.length_replicate]
      show _ + 1 + _ ≤ _
      omega
    have mv : ∀ i ∈ List.replicate spot (Ins.move 0 0), i = .move 0 0 := fun i hi => (List.mem_replicate.mp hi).2
    have nws : ∀ i ∈ new, i.small := fun i hi => by
      rw [hnew] at hi
      rcases List.mem_append.mp hi with hi | hi
      · rcases List.mem_append.mp hi with hi | hi
        · rw [mv i hi]
          exact ⟨by decide, by decide⟩
        · rw [List.mem_singleton.mp hi]
          exact hone.small
      · exact hap0.2.1 i hi
    have nww : wid new = wd + 1 := by
      have h1 : wid new ≤ wd + 1 := (wid_below (by omega)).mpr fun i hi => by
        rw [hnew] at hi
        rcases List.mem_append.mp hi with hi | hi
        · rcases List.mem_append.mp hi with hi | hi
          · rw [mv i hi]
            intro r hr
            have : r = 0 ∨ r = 0 := by simpa [Ins.regs] using hr
            omega
          · rw [List.mem_singleton.mp hi]
            exact hone.below
        · exact below_up (wid_bel p0 i hi) (by omega)
      have h2 := wid_ge (is := new) (i := one) (r := wd) (by rw [hnew]; simp) hone.has
      omega
    have nwc : sumC new ≤ 1000 := by
      rw [hnew, sumC_app, sumC_app]
      have h1 : sumC (List.replicate spot (Ins.move 0 0)) ≤ (List.replicate spot (Ins.move 0 0)).length * (7 + 1) := sumC_le _ fun i hi => by
        rw [mv i hi, csz_move]
        exact Nat.le_refl _
      rw [List.length_replicate] at h1
      have h2 : sumC [one] = 1 + csz one + 0 := rfl
      have := hone.cs
      omega
    obtain ⟨ys, hy, hyl, hput⟩ := PgsAt.put hDd
    refine ⟨_, rfl, _, rfl, D, _, _, at', rfl, rfl, hy, ixN_nat (by omega), ?_⟩
    have hDe := hput at' N new hN nND
    have stF := (PgsAt.strm_put hDd hn std (.lst (ys.set at' (.ref N)))).1
    have hDe : PgsAt (upd Hd D (.lst (ys.set at' (.ref N)))) D (ps.set at' new) := hDe
    generalize upd Hd D (.lst (ys.set at' (V.ref N))) = He at hDe stF ⊢
    clear hN std hDd nND hy hyl hput
    have setl : ∀ X : List Ins, (ps.set at' X).length = 3 := fun X => by rw [List.length_set, hn]
    have sh3 : ∀ {qs : List (List Ins)}, qs.length = 3 → k = 2 ∧ qs.length ≤ 8 ∧ qs ≠ [] ∨ ∃ p q r, qs = [p, q, r] := fun {qs} h => .inr (by
      match qs, h with
      | [p, q, r], _ => exact ⟨p, q, r, rfl⟩)
    have mem : ∀ {X p : List Ins}, p ∈ ps.set at' X → p = X ∨ p ∈ ps := fun h => (List.mem_or_eq_of_mem_set h).symm
    have smX : ∀ {X : List Ins}, X.length ≤ 600 → (∀ i ∈ X, i.small) → ∀ p ∈ ps.set at' X, p.length ≤ 600 ∧ ∀ i ∈ p, i.small := fun h1 h2 p hp => by
      rcases mem hp with rfl | h
      · exact ⟨h1, h2⟩
      · exact ⟨by have := (hall p h).1; omega, (hall p h).2.1⟩
    have wdX : ∀ {X : List Ins}, wid X ≤ 16 → WdK k (ps.set at' X) ≤ 16 := fun h1 => wd_le (setl _) (by decide) fun p hp => by
      rcases mem hp with rfl | h
      · exact h1
      · have := (hall p h).2.2.1
        omega
    have wgX : ∀ {X : List Ins}, wid X ≤ WdK k (ps.set at' X) := wd_ge (setl _) (by rw [List.getElem?_set_self (by omega)]) hka
    have gdX : ∀ {X : List Ins}, wid X ≤ 16 → X.length ≤ 390 → sumC X ≤ 8000 → GdK k (ps.set at' X) := fun {X} h1 h2 h3 => by
      have g1 := totL_set ps at' X
      have g2 := allC_set ps at' X
      exact gd_of (setl X) hk (wdX h1) (by omega) (by omega) (fun _ => by omega)
    have mvs : ∀ n : Nat, (∀ i ∈ List.replicate n (Ins.move 0 0), i.small) ∧ wid (List.replicate n (Ins.move 0 0)) ≤ 1 ∧ sumC (List.replicate n (Ins.move 0 0)) ≤ n * 8 ∧ (List.replicate n (Ins.move 0 0)).length = n := fun n => by
      refine ⟨fun i hi => ?_, (wid_below (by decide)).mpr fun i hi => ?_, ?_, List.length_replicate⟩
      · rw [(List.mem_replicate.mp hi).2]
        exact ⟨by decide, by decide⟩
      · rw [(List.mem_replicate.mp hi).2]
        intro r hr
        have : r = 0 ∨ r = 0 := by simpa [Ins.regs] using hr
        omega
      · have h1 : sumC (List.replicate n (Ins.move 0 0)) ≤ (List.replicate n (Ins.move 0 0)).length * (7 + 1) := sumC_le _ fun i hi => by
          rw [(List.mem_replicate.mp hi).2, csz_move]
          exact Nat.le_refl _
        rw [List.length_replicate] at h1
        exact h1
    -- what is due
    refine ⟨fun σ H' => ∃ due : Str, σ = [some (.ref a), some (.ref st), some (.int k), some (.ref D), none, some (.int at'), some (.int wd), some (.int spot), some (.ref To), some (.str due), none] ∧ (due = "wide" ∧ 15 < wd ∨ due = "made" ∧ wd ≤ 15) ∧ H' = He, ?_, ?_⟩
    · refine ⟨_, rfl, _, _, rfl, rfl, _, rfl, ?_⟩
      by_cases c : (15 : Int) < (wd : Int)
      · exact iteT' (decide_eq_true c) ⟨_, rfl, .inl ⟨rfl, by omega⟩, rfl⟩
      · exact iteF' (decide_eq_false c) ⟨_, rfl, .inr ⟨rfl, by omega⟩, rfl⟩
    rintro σ H' ⟨due, rfl, hdue, rfl⟩
    refine ⟨_, rfl, _, rfl, k, D, ps.set at' new, rfl, hDe, hk, sh3 (setl _), smX (by omega) nws, fun r Hf sf ans => ⟨_, rfl, rfl, _, rfl, ?_⟩⟩
    have hrd : r = due := by
      rcases hdue with ⟨rfl, h⟩ | ⟨rfl, h⟩
      · have := wgX (X := new)
        exact ans.wide (by omega)
      · exact ans.made (wdX (by omega)) (gdX (by omega) (by omega) (by omega))
    rw [hrd]
    refine iteF' (by rw [decide_eq_true rfl]; rfl) ?_
    have hDf := hDe.same sf
    have stf := sf.strm stF
    clear hDe stF sf ans hrd hdue
    refine ⟨_, rfl, st, _, rfl, by decide, by decide, stf, fun d6 Hg hd6 ex6 stg => ⟨_, _, rfl, rfl, _, rfl, ?_⟩⟩
    have hDg : PgsAt Hg D (ps.set at' new) := PgsAt.exs hDf stf ex6
    clear hDf stf ex6 hd6
    refine ite2 (fun _ => qfin _) (fun _ => ?_)
    -- as long as it may be
    obtain ⟨Lk, hLk, hLb⟩ : ∃ Lk : Nat, atI [V.int 380, V.int 130, V.int 60, V.int 380, V.int 380] (k : Int) = some (.int Lk) ∧ Lk ≤ 380 := by
      rcases (show k = 0 ∨ k = 1 ∨ k = 2 ∨ k = 3 ∨ k = 4 by omega) with rfl | rfl | rfl | rfl | rfl
      · exact ⟨380, atI_nat (j := 0) rfl, by decide⟩
      · exact ⟨130, atI_nat (j := 1) rfl, by decide⟩
      · exact ⟨60, atI_nat (j := 2) rfl, by decide⟩
      · exact ⟨380, atI_nat (j := 3) rfl, by decide⟩
      · exact ⟨380, atI_nat (j := 4) rfl, by decide⟩
    refine ⟨(by show 3 ≤ sizeLine; omega), fun T n1 => ⟨(by show 1 ≤ sizeLine; omega), fun E1 n2 => ?_⟩⟩
    have sB := (Same.upd (o := .tup [.str "move", .int 0, .int 0]) n1).trans (Same.upd (o := .lst [.ref T]) n2)
    have hE : PgAt (upd (upd Hg T (.tup [.str "move", .int 0, .int 0])) E1 (.lst [.ref T])) E1 [.move 0 0] := PgAt.one (i := .move 0 0) n2
    have sth := sB.strm stg
    have hDh := hDg.same sB
    generalize upd (upd Hg T (.tup [V.str "move", V.int 0, V.int 0])) E1 (.lst [V.ref T]) = Hh at hE sth hDh ⊢
    clear hDg sB n1 n2 stg
    refine ⟨(by show 5 ≤ sizeLine; omega), fun LL nL => ?_⟩
    have sL := Same.upd (o := .lst [.int 380, .int 130, .int 60, .int 380, .int 380]) nL
    have hL : upd Hh LL (.lst [.int 380, .int 130, .int 60, .int 380, .int 380]) LL = some (.lst [.int 380, .int 130, .int 60, .int 380, .int 380]) := upd_same
    have hE := hE.same sL
    have sth := sL.strm sth
    have hDh := hDh.same sL
    generalize upd Hh LL (.lst [V.int 380, V.int 130, V.int 60, V.int 380, V.int 380]) = Hi at hE sth hDh hL ⊢
    clear sL nL
    obtain ⟨es, he, hel, hrep⟩ := pg_repl hE
    have hel : es.length = 1 := hel
    refine ⟨_, rfl, _, _, _, _, rfl, rfl, SqL.of hL, hLk, _, _, _, rfl, rfl, he, (by omega), (by omega), (by rw [hel]; omega), fun N nN => ?_⟩
    have hN := hrep Lk N nN
    rw [flat_one] at hN
    rw [show ((Lk : Int)).toNat = Lk by omega]
    have s3 := Same.upd (o := .lst (List.replicate Lk es).flatten) nN
    have sti := s3.strm sth
    have nND : N ≠ D := fun z => by
      obtain ⟨_, hx, _⟩ := hDh
      rw [z, hx] at nN
      cases nN
    have hDi := hDh.same s3
    generalize upd Hi N (.lst (List.replicate Lk es).flatten) = Hj at hN sti hDi ⊢
    clear hE he hel hrep s3 nN hDh hL sth hLk
    obtain ⟨ys, hy, hyl, hput⟩ := PgsAt.put hDi
    rw [setl] at hyl
    refine ⟨_, rfl, _, rfl, D, _, _, at', rfl, rfl, hy, ixN_nat (by omega), ?_⟩
    have hDj := hput at' N _ hN nND
    rw [List.set_set] at hDj
    have stj := (PgsAt.strm_put hDi (setl _) sti (.lst (ys.set at' (.ref N)))).1
    generalize upd Hj D (.lst (ys.set at' (V.ref N))) = Hk at hDj stj ⊢
    clear hN sti hDi nND hy hyl hput
    obtain ⟨g1, g2, g3, g4⟩ := mvs Lk
    refine ⟨_, rfl, _, rfl, k, D, _, rfl, hDj, hk, sh3 (setl _), smX (by omega) g1, fun r Hf sf ans => ⟨rfl, _, rfl, ?_⟩⟩
    rw [ans.made (wdX (by omega)) (gdX (by omega) (by omega) (by omega))]
    refine iteF' (by rw [decide_eq_true rfl]; rfl) ?_
    have hDk := hDj.same sf
    have stk := sf.strm stj
    clear hDj stj sf ans g1 g2 g3 g4 hLb
    refine ⟨(by show 3 ≤ sizeLine; omega), fun T n1 => ⟨(by show 1 ≤ sizeLine; omega), fun E1 n2 => ?_⟩⟩
    have sB := (Same.upd (o := .tup [V.str (Str.ofString "move"), V.int 0, V.int 16]) n1).trans (Same.upd (o := .lst [.ref T]) n2)
    have hE : PgAt (upd (upd Hf T (.tup [V.str (Str.ofString "move"), V.int 0, V.int 16])) E1 (.lst [.ref T])) E1 [.move 0 16] := PgAt.one (i := .move 0 16) n2
    have sth := sB.strm stk
    have hDh := hDk.same sB
    generalize upd (upd Hf T (.tup [V.str (Str.ofString "move"), V.int 0, V.int 16])) E1 (.lst [V.ref T]) = Ha1 at hE sth hDh ⊢
    clear sB n1 n2
    obtain ⟨es, he, hel, hrep⟩ := pg_repl hE
    have hel : es.length = 1 := hel
    refine ⟨_, _, _, rfl, rfl, he, (by omega), (by omega), (by rw [hel]; show 1 * 600 ≤ _; omega), fun N nN => ?_⟩
    have hN := hrep 600 N nN
    rw [flat_one] at hN
    rw [show ((600 : Int)).toNat = 600 from rfl]
    have s3 := Same.upd (o := .lst (List.replicate 600 es).flatten) nN
    have sti := s3.strm sth
    have nND : N ≠ D := fun z => by
      obtain ⟨_, hx, _⟩ := hDh
      rw [z, hx] at nN
      cases nN
    have hDi := hDh.same s3
    generalize upd Ha1 N (.lst (List.replicate 600 es).flatten) = Ha2 at hN sti hDi ⊢
    clear hE he hel hrep s3 nN hDh sth
    obtain ⟨ys, hy, hyl, hput⟩ := PgsAt.put hDi
    have hyl : ys.length = 3 := hyl.trans (setl _)
    refine ⟨_, rfl, _, rfl, D, _, _, at', rfl, rfl, hy, ixN_nat (by omega), ?_⟩
    have hDj := hput at' N _ hN nND
    rw [List.set_set] at hDj
    have stj := (PgsAt.strm_put hDi (setl _) sti (.lst (ys.set at' (.ref N)))).1
    generalize upd Ha2 D (.lst (ys.set at' (V.ref N))) = Ha3 at hDj stj ⊢
    clear hN sti hDi nND hy hyl hput
    have w16 : 16 < wid (List.replicate 600 (Ins.move 0 16)) := wid_ge (i := .move 0 16) (r := 16) (List.mem_replicate.mpr ⟨by decide, rfl⟩) (by simp [Ins.regs])
    refine ⟨_, rfl, _, rfl, k, D, _, rfl, hDj, hk, sh3 (setl _), smX (Nat.le_of_eq List.length_replicate) (fun i hi => by rw [(List.mem_replicate.mp hi).2]; exact ⟨by decide, by decide⟩), fun r Hf2 sf ans => ⟨rfl, _, rfl, ?_⟩⟩
    rw [ans.wide (Nat.lt_of_lt_of_le w16 wgX)]
    refine iteF' (by rw [decide_eq_true rfl]; rfl) ?_
    have hDl := hDj.same sf
    have stl := sf.strm stj
    clear hDj stj sf ans w16 hDk stk
    refine ⟨(by show 3 ≤ sizeLine; omega), fun T n1 => ⟨(by show 1 ≤ sizeLine; omega), fun E1 n2 => ?_⟩⟩
    have sB := (Same.upd (o := .tup [V.str (Str.ofString "move"), V.int 0, V.int 0]) n1).trans (Same.upd (o := .lst [.ref T]) n2)
    have hE : PgAt (upd (upd Hf2 T (.tup [V.str (Str.ofString "move"), V.int 0, V.int 0])) E1 (.lst [.ref T])) E1 [.move 0 0] := PgAt.one (i := .move 0 0) n2
    have sth := sB.strm stl
    have hDh := hDl.same sB
    generalize upd (upd Hf2 T (.tup [V.str (Str.ofString "move"), V.int 0, V.int 0])) E1 (.lst [V.ref T]) = Hb1 at hE sth hDh ⊢
    clear sB n1 n2
    obtain ⟨es, he, hel, hrep⟩ := pg_repl hE
    have hel : es.length = 1 := hel
    refine ⟨_, _, _, rfl, rfl, he, (by omega), (by omega), (by rw [hel]; show 1 * 600 ≤ _; omega), fun N nN => ?_⟩
    have hN := hrep 600 N nN
    rw [flat_one] at hN
    rw [show ((600 : Int)).toNat = 600 from rfl]
    have s3 := Same.upd (o := .lst (List.replicate 600 es).flatten) nN
    have sti := s3.strm sth
    have nND : N ≠ D := fun z => by
      obtain ⟨_, hx, _⟩ := hDh
      rw [z, hx] at nN
      cases nN
    have hDi := hDh.same s3
    generalize upd Hb1 N (.lst (List.replicate 600 es).flatten) = Hb2 at hN sti hDi ⊢
    clear hE he hel hrep s3 nN hDh sth
    obtain ⟨ys, hy, hyl, hput⟩ := PgsAt.put hDi
    have hyl : ys.length = 3 := hyl.trans (setl _)
    refine ⟨_, rfl, _, rfl, D, _, _, at', rfl, rfl, hy, ixN_nat (by omega), ?_⟩
    have hDj := hput at' N _ hN nND
    rw [List.set_set] at hDj
    have stj := (PgsAt.strm_put hDi (setl _) sti (.lst (ys.set at' (.ref N)))).1
    generalize upd Hb2 D (.lst (ys.set at' (V.ref N))) = Hb3 at hDj stj ⊢
    clear hN sti hDi nND hy hyl hput
    clear hDl stl
    obtain ⟨m1, m2, m3, m4⟩ := mvs 600
    refine ⟨_, rfl, _, _, rfl, rfl, .inl ⟨_, rfl, _, _, rfl, rfl, (by show (0 : Int) < 3; decide), ?_⟩⟩
    dsimp only
    obtain ⟨other, hot⟩ : ∃ other : Nat, (((at' : Int) + 1) % 3) = (other : Int) := ⟨(at' + 1) % 3, by omega⟩
    rw [hot]
    have ho3 : other < 3 := by omega
    have hoa : other ≠ at' := by omega
    have hoz : other ≠ 0 ∨ at' ≠ 0 := by omega
    -- the other place
    refine ⟨fun σ H' => ∃ psF : List (List Ins), σ = [some (.ref a), some (.ref st), some (.int k), some (.ref D), none, some (.int at'), some (.int wd), some (.int spot), some (.ref To), some (.str due), some (.int other)] ∧ Strm H' st ∧ PgsAt H' D psF ∧ psF.length = 3 ∧ ∀ j p, psF[j]? = some p → j ≠ at' → p.length ≤ 10 ∧ (∀ i ∈ p, i.small) ∧ wid p ≤ 16, ?_, ?_⟩
    · have plain : ∀ j p, (ps.set at' (List.replicate 600 (Ins.move 0 0)))[j]? = some p → j ≠ at' → p.length ≤ 10 ∧ (∀ i ∈ p, i.small) ∧ wid p ≤ 16 := fun j p hj hne => by
        rw [List.getElem?_set_ne (fun z => hne z.symm)] at hj
        have := hall p (List.mem_of_getElem? hj)
        exact ⟨by omega, this.2.1, by omega⟩
      refine ⟨_, rfl, rfl, _, rfl, ?_⟩
      by_cases c23 : k = 2 ∨ k = 3
      · by_cases c2 : k = 2
        · refine iteT' (decide_eq_true (by rw [c2]; rfl)) (iteT ?_)
          have hDm : PgsAt Hb3 D (ps.set at' (List.replicate 600 (Ins.move 0 0))) := hDj
          refine ⟨_, rfl, st, _, rfl, by decide, by decide, stj, fun d5 Hc hd5 ex5 stc => ⟨_, _, rfl, rfl, ?_⟩⟩
          have hDn : PgsAt Hc D (ps.set at' (List.replicate 600 (Ins.move 0 0))) := PgsAt.exs hDm stj ex5
          dsimp only
          obtain ⟨wn, hwn⟩ : ∃ wn : Nat, ((16 : Int) + (d5 : Int)) = (wn : Int) := ⟨16 + d5, by omega⟩
          rw [hwn]
          refine ⟨(by show 3 ≤ sizeLine; omega), fun T n1 => ⟨(by show 1 ≤ sizeLine; omega), fun N n2 => ?_⟩⟩
          have sB := (Same.upd (o := .tup [.str "head", .int wn, .int 0]) n1).trans (Same.upd (o := .lst [.ref T]) n2)
          have hN : PgAt (upd (upd Hc T (.tup [.str "head", .int wn, .int 0])) N (.lst [.ref T])) N [.head wn 0] := PgAt.one (i := .head wn 0) n2
          have std := sB.strm stc
          have hDo := hDn.same sB
          have nND : N ≠ D := fun z => by
            obtain ⟨_, hx, _⟩ := PgsAt.same hDn (Same.upd (o := .tup [.str "head", .int wn, .int 0]) n1)
            rw [z, hx] at n2
            cases n2
          generalize upd (upd Hc T (.tup [V.str "head", V.int wn, V.int 0])) N (.lst [V.ref T]) = Hd2 at hN std hDo ⊢
          clear sB n1 n2 hDn stc
          obtain ⟨ys, hy, hyl, hput⟩ := PgsAt.put hDo
          have hyl : ys.length = 3 := hyl.trans (setl _)
          refine ⟨_, rfl, _, rfl, D, _, _, other, rfl, rfl, hy, ixN_nat (by omega), ?_⟩
          have hDp := hput other N _ hN nND
          have stp := (PgsAt.strm_put hDo (setl _) std (.lst (ys.set other (.ref N)))).1
          generalize upd Hd2 D (.lst (ys.set other (V.ref N))) = He2 at hDp stp ⊢
          clear hN std hDo nND hy hyl hput
          have l3 : ((ps.set at' (List.replicate 600 (Ins.move 0 0))).set other [.head wn 0]).length = 3 := by rw [List.length_set]; exact setl _
          have sm2 : ∀ p ∈ (ps.set at' (List.replicate 600 (Ins.move 0 0))).set other [.head wn 0], p.length ≤ 600 ∧ ∀ i ∈ p, i.small := fun p hp => by
            rcases List.mem_or_eq_of_mem_set hp with h | rfl
            · exact smX (Nat.le_of_eq m4) m1 p h
            · exact ⟨by show 1 ≤ 600; decide, fun i hi => by rw [List.mem_singleton.mp hi]; exact ⟨by omega, by decide⟩⟩
          have ww : 16 < WdK k ((ps.set at' (List.replicate 600 (Ins.move 0 0))).set other [.head wn 0]) := by
            have h1 : wn + 1 ≤ wid [.head wn 0] := wid_ge (i := .head wn 0) (.head _) (by simp [Ins.regs])
            have h2 := wd_ge (k := k) (at' := other) (p := [.head wn 0]) l3 (by rw [List.getElem?_set_self (by rw [setl]; exact ho3)]) (fun _ => c23)
            omega
          refine ⟨_, rfl, _, rfl, k, D, _, rfl, hDp, hk, sh3 l3, sm2, fun r Hf3 sf ans => ⟨rfl, _, rfl, ?_⟩⟩
          rw [ans.wide ww]
          refine iteF' (by rw [decide_eq_true rfl]; rfl) ?_
          have hDq := hDp.same sf
          have stq := sf.strm stp
          clear hDp stp sf ans ww sm2
          refine ⟨(by show 3 ≤ sizeLine; omega), fun T n1 => ⟨(by show 1 ≤ sizeLine; omega), fun N n2 => ?_⟩⟩
          have sB := (Same.upd (o := .tup [.str "tail", .int 0, .int 0]) n1).trans (Same.upd (o := .lst [.ref T]) n2)
          have hN : PgAt (upd (upd Hf3 T (.tup [.str "tail", .int 0, .int 0])) N (.lst [.ref T])) N [.tail 0 0] := PgAt.one (i := .tail 0 0) n2
          have std := sB.strm stq
          have hDo := hDq.same sB
          have nND : N ≠ D := fun z => by
            obtain ⟨_, hx, _⟩ := PgsAt.same hDq (Same.upd (o := .tup [.str "tail", .int 0, .int 0]) n1)
            rw [z, hx] at n2
            cases n2
          generalize upd (upd Hf3 T (.tup [V.str "tail", V.int 0, V.int 0])) N (.lst [V.ref T]) = Hg3 at hN std hDo ⊢
          clear sB n1 n2 stq
          obtain ⟨ys, hy, hyl, hput⟩ := PgsAt.put hDo
          have hyl : ys.length = 3 := hyl.trans l3
          refine ⟨_, rfl, _, rfl, D, _, _, other, rfl, rfl, hy, ixN_nat (by omega), ?_⟩
          have hDp := hput other N _ hN nND
          rw [List.set_set] at hDp
          have stp := (PgsAt.strm_put hDo l3 std (.lst (ys.set other (.ref N)))).1
          refine ⟨_, rfl, stp, hDp, by rw [List.length_set]; exact setl _, fun j p hj hne => ?_⟩
          by_cases ej : j = other
          · subst ej
            rw [List.getElem?_set_self (by rw [setl]; exact ho3)] at hj
            cases hj
            exact ⟨by decide, fun i hi => by rw [List.mem_singleton.mp hi]; exact ⟨by decide, by decide⟩, by decide⟩
          · rw [List.getElem?_set_ne (fun z => ej z.symm)] at hj
            exact plain j p hj hne
        · refine iteF' (decide_eq_false (fun z => c2 (by have := V.int.inj z; omega))) ⟨_, rfl, rfl, _, rfl, ?_⟩
          refine iteT' (decide_eq_true (by rw [show k = 3 by omega]; rfl)) ?_
          have hDm : PgsAt Hb3 D (ps.set at' (List.replicate 600 (Ins.move 0 0))) := hDj
          refine ⟨_, rfl, st, _, rfl, by decide, by decide, stj, fun d5 Hc hd5 ex5 stc => ⟨_, _, rfl, rfl, ?_⟩⟩
          have hDn : PgsAt Hc D (ps.set at' (List.replicate 600 (Ins.move 0 0))) := PgsAt.exs hDm stj ex5
          dsimp only
          obtain ⟨wn, hwn⟩ : ∃ wn : Nat, ((16 : Int) + (d5 : Int)) = (wn : Int) := ⟨16 + d5, by omega⟩
          rw [hwn]
          refine ⟨(by show 3 ≤ sizeLine; omega), fun T n1 => ⟨(by show 1 ≤ sizeLine; omega), fun N n2 => ?_⟩⟩
          have sB := (Same.upd (o := .tup [.str "head", .int wn, .int 0]) n1).trans (Same.upd (o := .lst [.ref T]) n2)
          have hN : PgAt (upd (upd Hc T (.tup [.str "head", .int wn, .int 0])) N (.lst [.ref T])) N [.head wn 0] := PgAt.one (i := .head wn 0) n2
          have std := sB.strm stc
          have hDo := hDn.same sB
          have nND : N ≠ D := fun z => by
            obtain ⟨_, hx, _⟩ := PgsAt.same hDn (Same.upd (o := .tup [.str "head", .int wn, .int 0]) n1)
            rw [z, hx] at n2
            cases n2
          generalize upd (upd Hc T (.tup [V.str "head", V.int wn, V.int 0])) N (.lst [V.ref T]) = Hd2 at hN std hDo ⊢
          clear sB n1 n2 hDn stc
          obtain ⟨ys, hy, hyl, hput⟩ := PgsAt.put hDo
          have hyl : ys.length = 3 := hyl.trans (setl _)
          refine ⟨_, rfl, _, rfl, D, _, _, other, rfl, rfl, hy, ixN_nat (by omega), ?_⟩
          have hDp := hput other N _ hN nND
          have stp := (PgsAt.strm_put hDo (setl _) std (.lst (ys.set other (.ref N)))).1
          generalize upd Hd2 D (.lst (ys.set other (V.ref N))) = He2 at hDp stp ⊢
          clear hN std hDo nND hy hyl hput
          have l3 : ((ps.set at' (List.replicate 600 (Ins.move 0 0))).set other [.head wn 0]).length = 3 := by rw [List.length_set]; exact setl _
          have sm2 : ∀ p ∈ (ps.set at' (List.replicate 600 (Ins.move 0 0))).set other [.head wn 0], p.length ≤ 600 ∧ ∀ i ∈ p, i.small := fun p hp => by
            rcases List.mem_or_eq_of_mem_set hp with h | rfl
            · exact smX (Nat.le_of_eq m4) m1 p h
            · exact ⟨by show 1 ≤ 600; decide, fun i hi => by rw [List.mem_singleton.mp hi]; exact ⟨by omega, by decide⟩⟩
          have ww : 16 < WdK k ((ps.set at' (List.replicate 600 (Ins.move 0 0))).set other [.head wn 0]) := by
            have h1 : wn + 1 ≤ wid [.head wn 0] := wid_ge (i := .head wn 0) (.head _) (by simp [Ins.regs])
            have h2 := wd_ge (k := k) (at' := other) (p := [.head wn 0]) l3 (by rw [List.getElem?_set_self (by rw [setl]; exact ho3)]) (fun _ => c23)
            omega
          refine ⟨_, rfl, _, rfl, k, D, _, rfl, hDp, hk, sh3 l3, sm2, fun r Hf3 sf ans => ⟨rfl, _, rfl, ?_⟩⟩
          rw [ans.wide ww]
          refine iteF' (by rw [decide_eq_true rfl]; rfl) ?_
          have hDq := hDp.same sf
          have stq := sf.strm stp
          clear hDp stp sf ans ww sm2
          refine ⟨(by show 3 ≤ sizeLine; omega), fun T n1 => ⟨(by show 1 ≤ sizeLine; omega), fun N n2 => ?_⟩⟩
          have sB := (Same.upd (o := .tup [.str "tail", .int 0, .int 0]) n1).trans (Same.upd (o := .lst [.ref T]) n2)
          have hN : PgAt (upd (upd Hf3 T (.tup [.str "tail", .int 0, .int 0])) N (.lst [.ref T])) N [.tail 0 0] := PgAt.one (i := .tail 0 0) n2
          have std := sB.strm stq
          have hDo := hDq.same sB
          have nND : N ≠ D := fun z => by
            obtain ⟨_, hx, _⟩ := PgsAt.same hDq (Same.upd (o := .tup [.str "tail", .int 0, .int 0]) n1)
            rw [z, hx] at n2
            cases n2
          generalize upd (upd Hf3 T (.tup [V.str "tail", V.int 0, V.int 0])) N (.lst [V.ref T]) = Hg3 at hN std hDo ⊢
          clear sB n1 n2 stq
          obtain ⟨ys, hy, hyl, hput⟩ := PgsAt.put hDo
          have hyl : ys.length = 3 := hyl.trans l3
          refine ⟨_, rfl, _, rfl, D, _, _, other, rfl, rfl, hy, ixN_nat (by omega), ?_⟩
          have hDp := hput other N _ hN nND
          rw [List.set_set] at hDp
          have stp := (PgsAt.strm_put hDo l3 std (.lst (ys.set other (.ref N)))).1
          refine ⟨_, rfl, stp, hDp, by rw [List.length_set]; exact setl _, fun j p hj hne => ?_⟩
          by_cases ej : j = other
          · subst ej
            rw [List.getElem?_set_self (by rw [setl]; exact ho3)] at hj
            cases hj
            exact ⟨by decide, fun i hi => by rw [List.mem_singleton.mp hi]; exact ⟨by decide, by decide⟩, by decide⟩
          · rw [List.getElem?_set_ne (fun z => ej z.symm)] at hj
            exact plain j p hj hne
      · refine iteF' (decide_eq_false (fun z => c23 (.inl (by have := V.int.inj z; omega)))) ⟨_, rfl, rfl, _, rfl, ?_⟩
        exact iteF' (decide_eq_false (fun z => c23 (.inr (by have := V.int.inj z; omega)))) ⟨_, rfl, stj, hDj, setl _, plain⟩
    clear hDj stj
    rintro σ Hc ⟨psF, rfl, stc, hDc, hF3, hFp⟩
    -- the great ones
    obtain ⟨xs, hx, hr⟩ := hDc
    have hxl : xs.length = 3 := (Paired.len hr).trans hF3
    refine ⟨_, rfl, _, rfl, _, rfl, _, rfl, _, rfl, _, _, rfl, SqL.of hx, fun S1 n1 => ?_⟩
    have e1 : cutV xs none (some (at' : Int)) = xs.take at' := cutV_to xs at'
    dsimp only
    rw [e1]
    have s1 := Same.upd (o := .lst (xs.take at')) n1
    have hS1 : upd Hc S1 (.lst (xs.take at')) S1 = some (.lst (xs.take at')) := upd_same
    have hx1 := s1 _ _ hx
    generalize upd Hc S1 (.lst (xs.take at')) = Hd1 at s1 hS1 hx1 ⊢
    refine ⟨(by show 0 ≤ sizeLine; omega), fun S2 n2 => ⟨(by show 1 ≤ sizeLine; omega), fun S3 n3 => ?_⟩⟩
    have s2 := Same.upd (o := .lst []) n2
    have s3 := Same.upd (o := .lst [.ref S2]) n3
    have hS2 : PgAt (upd (upd Hd1 S2 (.lst [])) S3 (.lst [.ref S2])) S2 [] := ⟨[], s3 _ _ upd_same, .nil⟩
    have hS3 : upd (upd Hd1 S2 (.lst [])) S3 (.lst [.ref S2]) S3 = some (.lst [.ref S2]) := upd_same
    have s23 := s2.trans s3
    have hS1 := s23 _ _ hS1
    have hx1 := s23 _ _ hx1
    have s13 := s1.trans s23
    generalize upd (upd Hd1 S2 (.lst [])) S3 (.lst [V.ref S2]) = He1 at s13 hS1 hS2 hS3 hx1 ⊢
    refine ⟨_, _, _, _, rfl, rfl, hS1, hS3, (by rw [List.length_take]; show _ + 1 ≤ _; omega), fun S4 n4 => ?_⟩
    have s4 := Same.upd (o := .lst (xs.take at' ++ [.ref S2])) n4
    have hS4 : upd He1 S4 (.lst (xs.take at' ++ [.ref S2])) S4 = some (.lst (xs.take at' ++ [.ref S2])) := upd_same
    have hx1 := s4 _ _ hx1
    have hS2 := hS2.same s4
    have s14 := s13.trans s4
    generalize upd He1 S4 (.lst (xs.take at' ++ [V.ref S2])) = Hf1 at s14 hS4 hS2 hx1 ⊢
    refine ⟨_, rfl, _, rfl, _, _, rfl, rfl, _, rfl, _, _, rfl, SqL.of hx1, fun S5 n5 => ?_⟩
    have e2 : cutV xs (some ((at' : Int) + 1)) none = xs.drop (at' + 1) := cutV_from xs (at' + 1)
    dsimp only
    rw [e2]
    have s5 := Same.upd (o := .lst (xs.drop (at' + 1))) n5
    have hS5 : upd Hf1 S5 (.lst (xs.drop (at' + 1))) S5 = some (.lst (xs.drop (at' + 1))) := upd_same
    have hS4 := s5 _ _ hS4
    have hS2 := hS2.same s5
    have s15 := s14.trans s5
    generalize upd Hf1 S5 (.lst (xs.drop (at' + 1))) = Hg1 at s15 hS4 hS5 hS2 ⊢
    refine ⟨_, _, _, _, rfl, rfl, hS4, hS5, (by rw [List.length_append, List.length_take, List.length_drop]; show _ + 1 + _ ≤ _; omega), fun S6 n6 => ?_⟩
    have s6 := Same.upd (o := .lst (xs.take at' ++ [.ref S2] ++ xs.drop (at' + 1))) n6
    have s16 := s15.trans s6
    have lift : ∀ {l : List V} {m : List (List Ins)}, Paired (fun (y : V) q => ∃ a, y = .ref a ∧ PgAt Hc a q) l m → Paired (fun (y : V) q => ∃ a, y = .ref a ∧ PgAt (upd Hg1 S6 (.lst (xs.take at' ++ [.ref S2] ++ xs.drop (at' + 1)))) a q) l m := fun h => Paired.imp (fun y q ⟨a, ha, hp⟩ => ⟨a, ha, PgAt.same hp s16⟩) h
    have hG : PgsAt (upd Hg1 S6 (.lst (xs.take at' ++ [.ref S2] ++ xs.drop (at' + 1)))) S6 (psF.take at' ++ [[]] ++ psF.drop (at' + 1)) := ⟨_, upd_same, Paired.app (Paired.app (lift (Paired.take at' hr)) (.cons ⟨S2, rfl, hS2.same s6⟩ .nil)) (lift (Paired.drop (at' + 1) hr))⟩
    have hDg := PgsAt.same (D := D) (iss := psF) ⟨xs, hx, hr⟩ s16
    have stg := s16.strm stc
    generalize upd Hg1 S6 (.lst (xs.take at' ++ [V.ref S2] ++ xs.drop (at' + 1))) = Hh1 at hG hDg stg ⊢
    clear s1 s2 s3 s4 s5 s6 s13 s14 s15 s16 s23 lift hS1 hS2 hS3 hS4 hS5 hx hx1 hr n1 n2 n3 n4 n5 n6 e1 e2 stc hxl
    refine ⟨st, k, S6, _, rfl, stg, hG, by rw [List.length_append, List.length_append, List.length_take, List.length_drop]; show _ + 1 + _ = _; omega, hk, fun p hp => ?_, fun Hi1 exi sti => ⟨_, rfl, iteF ?_⟩⟩
    · rcases List.mem_append.mp hp with hp | hp
      · rcases List.mem_append.mp hp with hp | hp
        · obtain ⟨j, hj⟩ := List.getElem?_of_mem hp
          have hjl := (List.getElem?_eq_some_iff.mp hj).1
          rw [List.length_take] at hjl
          rw [List.getElem?_take_of_lt (by omega)] at hj
          exact hFp j p hj (by omega)
        · rw [List.mem_singleton.mp hp]
          exact ⟨by decide, fun i hi => (by cases hi), by decide⟩
      · obtain ⟨j, hj⟩ := List.getElem?_of_mem hp
        rw [List.getElem?_drop] at hj
        exact hFp _ p hj (by omega)
    have hDi := PgsAt.exs hDg stg exi
    clear hG hDg stg exi
    -- the last one
    refine ⟨(by show 3 ≤ sizeLine; omega), fun T1 n1 => ⟨(by show 4 ≤ sizeLine; omega), fun T2 n2 => ⟨(by show 2 ≤ sizeLine; omega), fun E1 n3 => ?_⟩⟩⟩
    have s1 := Same.upd (o := .tup [.str "move", .int 0, .int 0]) n1
    have s2 := Same.upd (o := .tup [.str "cons", .int 0, .int 0, .int 1]) n2
    have s3 := Same.upd (o := .lst [.ref T1, .ref T2]) n3
    have s13 := (s1.trans s2).trans s3
    have hE : PgAt (upd (upd (upd Hi1 T1 (.tup [.str "move", .int 0, .int 0])) T2 (.tup [.str "cons", .int 0, .int 0, .int 1])) E1 (.lst [.ref T1, .ref T2])) E1 [.move 0 0, .cons 0 0 1] := ⟨[T1, T2], upd_same, .cons ((s2.trans s3) _ _ upd_same) (.cons (s3 _ _ upd_same) .nil)⟩
    have stj := s13.strm sti
    have hDj := hDi.same s13
    generalize upd (upd (upd Hi1 T1 (.tup [V.str "move", V.int 0, V.int 0])) T2 (.tup [V.str "cons", V.int 0, V.int 0, V.int 1])) E1 (.lst [V.ref T1, V.ref T2]) = Hj1 at hE stj hDj ⊢
    clear s1 s2 s3 s13 n1 n2 n3 hDi sti
    obtain ⟨es, he, hel, hrep⟩ := pg_repl hE
    have hel : es.length = 2 := hel
    refine ⟨_, _, _, rfl, rfl, he, (by omega), (by omega), (by rw [hel]; show 2 * 300 ≤ _; omega), fun N nN => ?_⟩
    have hN := hrep 300 N nN
    rw [show ((300 : Int)).toNat = 300 from rfl]
    have s4 := Same.upd (o := .lst (List.replicate 300 es).flatten) nN
    have stk := s4.strm stj
    have nND : N ≠ D := fun z => by
      obtain ⟨_, hx, _⟩ := hDj
      rw [z, hx] at nN
      cases nN
    have hDk := hDj.same s4
    obtain ⟨X, hX⟩ : ∃ X, X = (List.replicate 300 [Ins.move 0 0, Ins.cons 0 0 1]).flatten := ⟨_, rfl⟩
    rw [← hX] at hN
    generalize upd Hj1 N (.lst (List.replicate 300 es).flatten) = Hk1 at hN stk hDk ⊢
    clear hE he hel hrep s4 nN hDj stj
    obtain ⟨ys, hy, hyl, hput⟩ := PgsAt.put hDk
    have hyl : ys.length = 3 := hyl.trans hF3
    refine ⟨_, rfl, _, rfl, D, _, _, at', rfl, rfl, hy, ixN_nat (by omega), ?_⟩
    have hDl := hput at' N _ hN nND
    generalize upd Hk1 D (.lst (ys.set at' (V.ref N))) = Hl1 at hDl ⊢
    have Xm : ∀ i ∈ X, i = .move 0 0 ∨ i = .cons 0 0 1 := fun i hi => by
      rw [hX] at hi
      obtain ⟨l, hl, hil⟩ := List.mem_flatten.mp hi
      rw [(List.mem_replicate.mp hl).2] at hil
      simpa using hil
    have Xl : X.length = 600 := by
      rw [hX, flat_len]
      rfl
    have Xw : wid X ≤ 2 := (wid_below (by decide)).mpr fun i hi => by
      rcases Xm i hi with rfl | rfl
      · intro r hr
        have : r = 0 ∨ r = 0 := by simpa [Ins.regs] using hr
        omega
      · intro r hr
        have : r ∈ [0, 0, 1] := hr
        simp only [List.mem_cons, List.not_mem_nil, or_false] at this
        omega
    have memF : ∀ p ∈ psF.set at' X, p = X ∨ p.length ≤ 10 ∧ (∀ i ∈ p, i.small) ∧ wid p ≤ 16 := fun p hp => by
      obtain ⟨j, hj⟩ := List.getElem?_of_mem hp
      by_cases e : j = at'
      · subst e
        rw [List.getElem?_set_self (by rw [hF3]; exact ha3)] at hj
        exact .inl (Option.some.inj hj).symm
      · rw [List.getElem?_set_ne (fun z => e z.symm)] at hj
        exact .inr (hFp j p hj e)
    have lF : (psF.set at' X).length = 3 := by rw [List.length_set]; exact hF3
    refine ⟨_, rfl, _, rfl, k, D, _, rfl, hDl, hk, sh3 lF, fun p hp => ?_, fun r Hm sm9 ans => ?_⟩
    · rcases memF p hp with rfl | h
      · refine ⟨by omega, fun i hi => ?_⟩
        rcases Xm i hi with rfl | rfl
        · exact ⟨by decide, by decide⟩
        · exact ⟨by decide, by decide, by decide⟩
      · exact ⟨by omega, h.2.1⟩
    have hany := ans.any (wd_le lF (by decide) fun p hp => by
      rcases memF p hp with rfl | h
      · omega
      · exact h.2.2)
    refine ⟨(by show 2 ≤ sizeLine; omega), fun A9 nA => ⟨_, _, rfl, .inr (SqT.of upd_same), rfl, rfl, ?_⟩⟩
    show Q (V.bl (inV (V.str r) [V.str "large", V.str "made"])) _
    rw [(in_ml hany).2]
    exact qfin _
end
theorem all_mk {l : PySem.W.OpenLaw} {w : World} {K : PySem.W.Frag} {h : Heap} {mg : Str → Option Value} {fa f0 f1 f2 f3 f4 f5 f6 f7 f8 f9 f10 f11 f12 f13 f14 f15 f16 f17 f18 f19 f20 f21 f22 f23 f24 f25 f26 f27 f28 f29 f30 f31 f32 f33 f34 f35 f36 f37 f38 f39 A_TooLarge A_TooWide A_WORDS A_SHAPES A_CODE_OF_FIRST : Addr} (X : K.In h) (G : h.Ns mainGlobals mg) (hfa : mg "law" = some (.ref fa))
    {od0 an0 od1 an1 od2 an2 od3 an3 od4 an4 od5 an5 od6 an6 od7 an7 od8 an8 od9 an9 od10 an10 od11 an11 od12 an12 od13 an13 od14 an14 od15 an15 od16 an16 od17 an17 od18 an18 od19 an19 od20 an20 od21 an21 od22 an22 od23 an23 od24 an24 od25 an25 od26 an26 od27 an27 od28 an28 od29 an29 od30 an30 od31 an31 od32 an32 od33 an33 od34 an34 od35 an35 od36 an36 od37 an37 od38 an38 od39 an39 : Option Addr} {sl0 sl1 sl2 sl3 sl4 sl5 sl6 sl7 sl8 sl9 sl10 sl11 sl12 sl13 sl14 sl15 sl16 sl17 sl18 sl19 sl20 sl21 sl22 sl23 sl24 sl25 sl26 sl27 sl28 sl29 sl30 sl31 sl32 sl33 sl34 sl35 sl36 sl37 sl38 sl39 : Array (Option Value)} {oc0 kV0 dc0 pm0 cd0 ct0 oc1 kV1 dc1 pm1 cd1 ct1 oc2 kV2 dc2 pm2 cd2 ct2 oc3 kV3 dc3 pm3 cd3 ct3 oc4 kV4 dc4 pm4 cd4 ct4 oc5 kV5 dc5 pm5 cd5 ct5 oc6 kV6 dc6 pm6 cd6 ct6 oc7 kV7 dc7 pm7 cd7 ct7 oc8 kV8 dc8 pm8 cd8 ct8 oc9 kV9 dc9 pm9 cd9 ct9 oc10 kV10 dc10 pm10 cd10 ct10 oc11 kV11 dc11 pm11 cd11 ct11 oc12 kV12 dc12 pm12 cd12 ct12 oc13 kV13 dc13 pm13 cd13 ct13 oc14 kV14 dc14 pm14 cd14 ct14 oc15 kV15 dc15 pm15 cd15 ct15 oc16 kV16 dc16 pm16 cd16 ct16 oc17 kV17 dc17 pm17 cd17 ct17 oc18 kV18 dc18 pm18 cd18 ct18 oc19 kV19 dc19 pm19 cd19 ct19 oc20 kV20 dc20 pm20 cd20 ct20 oc21 kV21 dc21 pm21 cd21 ct21 oc22 kV22 dc22 pm22 cd22 ct22 oc23 kV23 dc23 pm23 cd23 ct23 oc24 kV24 dc24 pm24 cd24 ct24 oc25 kV25 dc25 pm25 cd25 ct25 oc26 kV26 dc26 pm26 cd26 ct26 oc27 kV27 dc27 pm27 cd27 ct27 oc28 kV28 dc28 pm28 cd28 ct28 oc29 kV29 dc29 pm29 cd29 ct29 oc30 kV30 dc30 pm30 cd30 ct30 oc31 kV31 dc31 pm31 cd31 ct31 oc32 kV32 dc32 pm32 cd32 ct32 oc33 kV33 dc33 pm33 cd33 ct33 oc34 kV34 dc34 pm34 cd34 ct34 oc35 kV35 dc35 pm35 cd35 ct35 oc36 kV36 dc36 pm36 cd36 ct36 oc37 kV37 dc37 pm37 cd37 ct37 oc38 kV38 dc38 pm38 cd38 ct38 oc39 kV39 dc39 pm39 cd39 ct39 : Value} {tk_MOST_TREE tk_LEAF tk_MOST_CODE tk_BACK tk_MOST_WIDTH tk_STATE tk_WALK tk_PASSED tk_TARGET tk_VALUE tk_WORD tk_AHEAD tk_BEHIND tk_WAY tk_PAIR : Tok}
    (a0 : PySem.W.nsIn K mainGlobals "_law_stream" = some (some (.ref f0))) (l0 : K.lookup f0 = some ⟨oc0, od0, .func (PySem.W.fnOf "_law_stream" "_law_stream" (defArgs s_law_stream) (defBody s_law_stream) (defScope s_law_stream) .none kV0 dc0 pm0 an0 cd0 ct0), sl0⟩) (c0 : PySem.W.codeIn K cd0 "_law_stream" = true) (k0 : PySem.W.keepIn K (.ref f0) = true)
    (a1 : PySem.W.nsIn K mainGlobals "_law_draw" = some (some (.ref f1))) (l1 : K.lookup f1 = some ⟨oc1, od1, .func (PySem.W.fnOf "_law_draw" "_law_draw" (defArgs s_law_draw) (defBody s_law_draw) (defScope s_law_draw) .none kV1 dc1 pm1 an1 cd1 ct1), sl1⟩) (c1 : PySem.W.codeIn K cd1 "_law_draw" = true) (k1 : PySem.W.keepIn K (.ref f1) = true)
    (a2 : PySem.W.nsIn K mainGlobals "_law_tree" = some (some (.ref f2))) (l2 : K.lookup f2 = some ⟨oc2, od2, .func (PySem.W.fnOf "_law_tree" "_law_tree" (defArgs s_law_tree) (defBody s_law_tree) (defScope s_law_tree) .none kV2 dc2 pm2 an2 cd2 ct2), sl2⟩) (c2 : PySem.W.codeIn K cd2 "_law_tree" = true) (k2 : PySem.W.keepIn K (.ref f2) = true)
    (a3 : PySem.W.nsIn K mainGlobals "_law_short_program" = some (some (.ref f3))) (l3 : K.lookup f3 = some ⟨oc3, od3, .func (PySem.W.fnOf "_law_short_program" "_law_short_program" (defArgs s_law_short_program) (defBody s_law_short_program) (defScope s_law_short_program) .none kV3 dc3 pm3 an3 cd3 ct3), sl3⟩) (c3 : PySem.W.codeIn K cd3 "_law_short_program" = true) (k3 : PySem.W.keepIn K (.ref f3) = true)
    (a4 : PySem.W.nsIn K mainGlobals "_law_size" = some (some (.ref f4))) (l4 : K.lookup f4 = some ⟨oc4, od4, .func (PySem.W.fnOf "_law_size" "_law_size" (defArgs s_law_size) (defBody s_law_size) (defScope s_law_size) .none kV4 dc4 pm4 an4 cd4 ct4), sl4⟩) (c4 : PySem.W.codeIn K cd4 "_law_size" = true) (k4 : PySem.W.keepIn K (.ref f4) = true)
    (a5 : PySem.W.nsIn K mainGlobals "trees_of" = some (some (.ref f5))) (l5 : K.lookup f5 = some ⟨oc5, od5, .func (PySem.W.fnOf "trees_of" "trees_of" (defArgs s_trees_of) (defBody s_trees_of) (defScope s_trees_of) .none kV5 dc5 pm5 an5 cd5 ct5), sl5⟩) (c5 : PySem.W.codeIn K cd5 "trees_of" = true) (k5 : PySem.W.keepIn K (.ref f5) = true)
    (a6 : PySem.W.nsIn K mainGlobals "within_limits" = some (some (.ref f6))) (l6 : K.lookup f6 = some ⟨oc6, od6, .func (PySem.W.fnOf "within_limits" "within_limits" (defArgs s_within_limits) (defBody s_within_limits) (defScope s_within_limits) .none kV6 dc6 pm6 an6 cd6 ct6), sl6⟩) (c6 : PySem.W.codeIn K cd6 "within_limits" = true) (k6 : PySem.W.keepIn K (.ref f6) = true)
    (a7 : PySem.W.nsIn K mainGlobals "list_of" = some (some (.ref f7))) (l7 : K.lookup f7 = some ⟨oc7, od7, .func (PySem.W.fnOf "list_of" "list_of" (defArgs s_list_of) (defBody s_list_of) (defScope s_list_of) .none kV7 dc7 pm7 an7 cd7 ct7), sl7⟩) (c7 : PySem.W.codeIn K cd7 "list_of" = true) (k7 : PySem.W.keepIn K (.ref f7) = true)
    (a8 : PySem.W.nsIn K mainGlobals "cons" = some (some (.ref f8))) (l8 : K.lookup f8 = some ⟨oc8, od8, .func (PySem.W.fnOf "cons" "cons" (defArgs s_cons) (defBody s_cons) (defScope s_cons) .none kV8 dc8 pm8 an8 cd8 ct8), sl8⟩) (c8 : PySem.W.codeIn K cd8 "cons" = true) (k8 : PySem.W.keepIn K (.ref f8) = true)
    (a9 : PySem.W.nsIn K mainGlobals "number" = some (some (.ref f9))) (l9 : K.lookup f9 = some ⟨oc9, od9, .func (PySem.W.fnOf "number" "number" (defArgs s_number) (defBody s_number) (defScope s_number) .none kV9 dc9 pm9 an9 cd9 ct9), sl9⟩) (c9 : PySem.W.codeIn K cd9 "number" = true) (k9 : PySem.W.keepIn K (.ref f9) = true)
    (a10 : PySem.W.nsIn K mainGlobals "_part_code" = some (some (.ref f10))) (l10 : K.lookup f10 = some ⟨oc10, od10, .func (PySem.W.fnOf "_part_code" "_part_code" (defArgs s_part_code) (defBody s_part_code) (defScope s_part_code) .none kV10 dc10 pm10 an10 cd10 ct10), sl10⟩) (c10 : PySem.W.codeIn K cd10 "_part_code" = true) (k10 : PySem.W.keepIn K (.ref f10) = true)
    (a11 : PySem.W.nsIn K mainGlobals "_instruction_code" = some (some (.ref f11))) (l11 : K.lookup f11 = some ⟨oc11, od11, .func (PySem.W.fnOf "_instruction_code" "_instruction_code" (defArgs s_instruction_code) (defBody s_instruction_code) (defScope s_instruction_code) .none kV11 dc11 pm11 an11 cd11 ct11), sl11⟩) (c11 : PySem.W.codeIn K cd11 "_instruction_code" = true) (k11 : PySem.W.keepIn K (.ref f11) = true)
    (a12 : PySem.W.nsIn K mainGlobals "code" = some (some (.ref f12))) (l12 : K.lookup f12 = some ⟨oc12, od12, .func (PySem.W.fnOf "code" "code" (defArgs s_code) (defBody s_code) (defScope s_code) .none kV12 dc12 pm12 an12 cd12 ct12), sl12⟩) (c12 : PySem.W.codeIn K cd12 "code" = true) (k12 : PySem.W.keepIn K (.ref f12) = true)
    (a13 : PySem.W.nsIn K mainGlobals "with_own_code" = some (some (.ref f13))) (l13 : K.lookup f13 = some ⟨oc13, od13, .func (PySem.W.fnOf "with_own_code" "with_own_code" (defArgs s_with_own_code) (defBody s_with_own_code) (defScope s_with_own_code) .none kV13 dc13 pm13 an13 cd13 ct13), sl13⟩) (c13 : PySem.W.codeIn K cd13 "with_own_code" = true) (k13 : PySem.W.keepIn K (.ref f13) = true)
    (a14 : PySem.W.nsIn K mainGlobals "width" = some (some (.ref f14))) (l14 : K.lookup f14 = some ⟨oc14, od14, .func (PySem.W.fnOf "width" "width" (defArgs s_width) (defBody s_width) (defScope s_width) .none kV14 dc14 pm14 an14 cd14 ct14), sl14⟩) (c14 : PySem.W.codeIn K cd14 "width" = true) (k14 : PySem.W.keepIn K (.ref f14) = true)
    (a15 : PySem.W.nsIn K mainGlobals "greatest_width" = some (some (.ref f15))) (l15 : K.lookup f15 = some ⟨oc15, od15, .func (PySem.W.fnOf "greatest_width" "greatest_width" (defArgs s_greatest_width) (defBody s_greatest_width) (defScope s_greatest_width) .none kV15 dc15 pm15 an15 cd15 ct15), sl15⟩) (c15 : PySem.W.codeIn K cd15 "greatest_width" = true) (k15 : PySem.W.keepIn K (.ref f15) = true)
    (a16 : PySem.W.nsIn K mainGlobals "bearer" = some (some (.ref f16))) (l16 : K.lookup f16 = some ⟨oc16, od16, .func (PySem.W.fnOf "bearer" "bearer" (defArgs s_bearer) (defBody s_bearer) (defScope s_bearer) .none kV16 dc16 pm16 an16 cd16 ct16), sl16⟩) (c16 : PySem.W.codeIn K cd16 "bearer" = true) (k16 : PySem.W.keepIn K (.ref f16) = true)
    (a17 : PySem.W.nsIn K mainGlobals "placed" = some (some (.ref f17))) (l17 : K.lookup f17 = some ⟨oc17, od17, .func (PySem.W.fnOf "placed" "placed" (defArgs s_placed) (defBody s_placed) (defScope s_placed) .none kV17 dc17 pm17 an17 cd17 ct17), sl17⟩) (c17 : PySem.W.codeIn K cd17 "placed" = true) (k17 : PySem.W.keepIn K (.ref f17) = true)
    (a18 : PySem.W.nsIn K mainGlobals "_go_on" = some (some (.ref f18))) (l18 : K.lookup f18 = some ⟨oc18, od18, .func (PySem.W.fnOf "_go_on" "_go_on" (defArgs s_go_on) (defBody s_go_on) (defScope s_go_on) .none kV18 dc18 pm18 an18 cd18 ct18), sl18⟩) (c18 : PySem.W.codeIn K cd18 "_go_on" = true) (k18 : PySem.W.keepIn K (.ref f18) = true)
    (a19 : PySem.W.nsIn K mainGlobals "_change_register" = some (some (.ref f19))) (l19 : K.lookup f19 = some ⟨oc19, od19, .func (PySem.W.fnOf "_change_register" "_change_register" (defArgs s_change_register) (defBody s_change_register) (defScope s_change_register) .none kV19 dc19 pm19 an19 cd19 ct19), sl19⟩) (c19 : PySem.W.codeIn K cd19 "_change_register" = true) (k19 : PySem.W.keepIn K (.ref f19) = true)
    (a20 : PySem.W.nsIn K mainGlobals "_look_up" = some (some (.ref f20))) (l20 : K.lookup f20 = some ⟨oc20, od20, .func (PySem.W.fnOf "_look_up" "_look_up" (defArgs s_look_up) (defBody s_look_up) (defScope s_look_up) .none kV20 dc20 pm20 an20 cd20 ct20), sl20⟩) (c20 : PySem.W.codeIn K cd20 "_look_up" = true) (k20 : PySem.W.keepIn K (.ref f20) = true)
    (a21 : PySem.W.nsIn K mainGlobals "_make_jump" = some (some (.ref f21))) (l21 : K.lookup f21 = some ⟨oc21, od21, .func (PySem.W.fnOf "_make_jump" "_make_jump" (defArgs s_make_jump) (defBody s_make_jump) (defScope s_make_jump) .none kV21 dc21 pm21 an21 cd21 ct21), sl21⟩) (c21 : PySem.W.codeIn K cd21 "_make_jump" = true) (k21 : PySem.W.keepIn K (.ref f21) = true)
    (a22 : PySem.W.nsIn K mainGlobals "_case" = some (some (.ref f22))) (l22 : K.lookup f22 = some ⟨oc22, od22, .func (PySem.W.fnOf "_case" "_case" (defArgs s_case) (defBody s_case) (defScope s_case) .none kV22 dc22 pm22 an22 cd22 ct22), sl22⟩) (c22 : PySem.W.codeIn K cd22 "_case" = true) (k22 : PySem.W.keepIn K (.ref f22) = true)
    (a23 : PySem.W.nsIn K mainGlobals "_make_tree" = some (some (.ref f23))) (l23 : K.lookup f23 = some ⟨oc23, od23, .func (PySem.W.fnOf "_make_tree" "_make_tree" (defArgs s_make_tree) (defBody s_make_tree) (defScope s_make_tree) .none kV23 dc23 pm23 an23 cd23 ct23), sl23⟩) (c23 : PySem.W.codeIn K cd23 "_make_tree" = true) (k23 : PySem.W.keepIn K (.ref f23) = true)
    (a24 : PySem.W.nsIn K mainGlobals "_begin" = some (some (.ref f24))) (l24 : K.lookup f24 = some ⟨oc24, od24, .func (PySem.W.fnOf "_begin" "_begin" (defArgs s_begin) (defBody s_begin) (defScope s_begin) .none kV24 dc24 pm24 an24 cd24 ct24), sl24⟩) (c24 : PySem.W.codeIn K cd24 "_begin" = true) (k24 : PySem.W.keepIn K (.ref f24) = true)
    (a25 : PySem.W.nsIn K mainGlobals "_decode" = some (some (.ref f25))) (l25 : K.lookup f25 = some ⟨oc25, od25, .func (PySem.W.fnOf "_decode" "_decode" (defArgs s_decodeU) (defBody s_decodeU) (defScope s_decodeU) .none kV25 dc25 pm25 an25 cd25 ct25), sl25⟩) (c25 : PySem.W.codeIn K cd25 "_decode" = true) (k25 : PySem.W.keepIn K (.ref f25) = true)
    (a26 : PySem.W.nsIn K mainGlobals "universal" = some (some (.ref f26))) (l26 : K.lookup f26 = some ⟨oc26, od26, .func (PySem.W.fnOf "universal" "universal" (defArgs s_universal) (defBody s_universal) (defScope s_universal) .none kV26 dc26 pm26 an26 cd26 ct26), sl26⟩) (c26 : PySem.W.codeIn K cd26 "universal" = true) (k26 : PySem.W.keepIn K (.ref f26) = true)
    (a27 : PySem.W.nsIn K mainGlobals "cleaning" = some (some (.ref f27))) (l27 : K.lookup f27 = some ⟨oc27, od27, .func (PySem.W.fnOf "cleaning" "cleaning" (defArgs s_cleaning) (defBody s_cleaning) (defScope s_cleaning) .none kV27 dc27 pm27 an27 cd27 ct27), sl27⟩) (c27 : PySem.W.codeIn K cd27 "cleaning" = true) (k27 : PySem.W.keepIn K (.ref f27) = true)
    (a28 : PySem.W.nsIn K mainGlobals "fixed_point" = some (some (.ref f28))) (l28 : K.lookup f28 = some ⟨oc28, od28, .func (PySem.W.fnOf "fixed_point" "fixed_point" (defArgs s_fixed_point) (defBody s_fixed_point) (defScope s_fixed_point) .none kV28 dc28 pm28 an28 cd28 ct28), sl28⟩) (c28 : PySem.W.codeIn K cd28 "fixed_point" = true) (k28 : PySem.W.keepIn K (.ref f28) = true)
    (a29 : PySem.W.nsIn K mainGlobals "_listing" = some (some (.ref f29))) (l29 : K.lookup f29 = some ⟨oc29, od29, .func (PySem.W.fnOf "_listing" "_listing" (defArgs s_listing) (defBody s_listing) (defScope s_listing) .none kV29 dc29 pm29 an29 cd29 ct29), sl29⟩) (c29 : PySem.W.codeIn K cd29 "_listing" = true) (k29 : PySem.W.keepIn K (.ref f29) = true)
    (a30 : PySem.W.nsIn K mainGlobals "together" = some (some (.ref f30))) (l30 : K.lookup f30 = some ⟨oc30, od30, .func (PySem.W.fnOf "together" "together" (defArgs s_together) (defBody s_together) (defScope s_together) .none kV30 dc30 pm30 an30 cd30 ct30), sl30⟩) (c30 : PySem.W.codeIn K cd30 "together" = true) (k30 : PySem.W.keepIn K (.ref f30) = true)
    (a31 : PySem.W.nsIn K mainGlobals "_law_is_good" = some (some (.ref f31))) (l31 : K.lookup f31 = some ⟨oc31, od31, .func (PySem.W.fnOf "_law_is_good" "_law_is_good" (defArgs s_law_is_good) (defBody s_law_is_good) (defScope s_law_is_good) .none kV31 dc31 pm31 an31 cd31 ct31), sl31⟩) (c31 : PySem.W.codeIn K cd31 "_law_is_good" = true) (k31 : PySem.W.keepIn K (.ref f31) = true)
    (a32 : PySem.W.nsIn K mainGlobals "beside_own_code" = some (some (.ref f32))) (l32 : K.lookup f32 = some ⟨oc32, od32, .func (PySem.W.fnOf "beside_own_code" "beside_own_code" (defArgs s_beside_own_code) (defBody s_beside_own_code) (defScope s_beside_own_code) .none kV32 dc32 pm32 an32 cd32 ct32), sl32⟩) (c32 : PySem.W.codeIn K cd32 "beside_own_code" = true) (k32 : PySem.W.keepIn K (.ref f32) = true)
    (a33 : PySem.W.nsIn K mainGlobals "choice" = some (some (.ref f33))) (l33 : K.lookup f33 = some ⟨oc33, od33, .func (PySem.W.fnOf "choice" "choice" (defArgs s_choice) (defBody s_choice) (defScope s_choice) .none kV33 dc33 pm33 an33 cd33 ct33), sl33⟩) (c33 : PySem.W.codeIn K cd33 "choice" = true) (k33 : PySem.W.keepIn K (.ref f33) = true)
    (a34 : PySem.W.nsIn K mainGlobals "defeat" = some (some (.ref f34))) (l34 : K.lookup f34 = some ⟨oc34, od34, .func (PySem.W.fnOf "defeat" "defeat" (defArgs s_defeat) (defBody s_defeat) (defScope s_defeat) .none kV34 dc34 pm34 an34 cd34 ct34), sl34⟩) (c34 : PySem.W.codeIn K cd34 "defeat" = true) (k34 : PySem.W.keepIn K (.ref f34) = true)
    (a35 : PySem.W.nsIn K mainGlobals "knowing" = some (some (.ref f35))) (l35 : K.lookup f35 = some ⟨oc35, od35, .func (PySem.W.fnOf "knowing" "knowing" (defArgs s_knowing) (defBody s_knowing) (defScope s_knowing) .none kV35 dc35 pm35 an35 cd35 ct35), sl35⟩) (c35 : PySem.W.codeIn K cd35 "knowing" = true) (k35 : PySem.W.keepIn K (.ref f35) = true)
    (a36 : PySem.W.nsIn K mainGlobals "liar" = some (some (.ref f36))) (l36 : K.lookup f36 = some ⟨oc36, od36, .func (PySem.W.fnOf "liar" "liar" (defArgs s_liar) (defBody s_liar) (defScope s_liar) .none kV36 dc36 pm36 an36 cd36 ct36), sl36⟩) (c36 : PySem.W.codeIn K cd36 "liar" = true) (k36 : PySem.W.keepIn K (.ref f36) = true)
    (a37 : PySem.W.nsIn K mainGlobals "_law_told" = some (some (.ref f37))) (l37 : K.lookup f37 = some ⟨oc37, od37, .func (PySem.W.fnOf "_law_told" "_law_told" (defArgs s_law_told) (defBody s_law_told) (defScope s_law_told) .none kV37 dc37 pm37 an37 cd37 ct37), sl37⟩) (c37 : PySem.W.codeIn K cd37 "_law_told" = true) (k37 : PySem.W.keepIn K (.ref f37) = true)
    (a38 : PySem.W.nsIn K mainGlobals "_law_great" = some (some (.ref f38))) (l38 : K.lookup f38 = some ⟨oc38, od38, .func (PySem.W.fnOf "_law_great" "_law_great" (defArgs s_law_great) (defBody s_law_great) (defScope s_law_great) .none kV38 dc38 pm38 an38 cd38 ct38), sl38⟩) (c38 : PySem.W.codeIn K cd38 "_law_great" = true) (k38 : PySem.W.keepIn K (.ref f38) = true)
    (a39 : PySem.W.nsIn K mainGlobals "law" = some (some (.ref f39))) (l39 : K.lookup f39 = some ⟨oc39, od39, .func (PySem.W.fnOf "law" "law" (defArgs s_law) (defBody s_law) (defScope s_law) .none kV39 dc39 pm39 an39 cd39 ct39), sl39⟩) (c39 : PySem.W.codeIn K cd39 "law" = true) (k39 : PySem.W.keepIn K (.ref f39) = true)
    (z_list : PySem.W.nsIn K mainGlobals "list" = some none)
    (z_int : PySem.W.nsIn K mainGlobals "int" = some none)
    (z_abs : PySem.W.nsIn K mainGlobals "abs" = some none)
    (z_len : PySem.W.nsIn K mainGlobals "len" = some none)
    (z_range : PySem.W.nsIn K mainGlobals "range" = some none)
    (z_sum : PySem.W.nsIn K mainGlobals "sum" = some none)
    (z_reversed : PySem.W.nsIn K mainGlobals "reversed" = some none)
    (z_zip : PySem.W.nsIn K mainGlobals "zip" = some none)
    (z_max : PySem.W.nsIn K mainGlobals "max" = some none)
    (z_isinstance : PySem.W.nsIn K mainGlobals "isinstance" = some none)
    (z_str : PySem.W.nsIn K mainGlobals "str" = some none)
    (z_all : PySem.W.nsIn K mainGlobals "all" = some none)
    (z_tuple : PySem.W.nsIn K mainGlobals "tuple" = some none)
    (z_MOST_TREE : PySem.W.nsIn K mainGlobals "MOST_TREE" = some (some (.int 200000 tk_MOST_TREE)))
    (z_LEAF : PySem.W.nsIn K mainGlobals "LEAF" = some (some (.str "0" tk_LEAF)))
    (z_MOST_CODE : PySem.W.nsIn K mainGlobals "MOST_CODE" = some (some (.int 600 tk_MOST_CODE)))
    (z_BACK : PySem.W.nsIn K mainGlobals "BACK" = some (some (.str "100" tk_BACK)))
    (z_MOST_WIDTH : PySem.W.nsIn K mainGlobals "MOST_WIDTH" = some (some (.int 16 tk_MOST_WIDTH)))
    (z_STATE : PySem.W.nsIn K mainGlobals "STATE" = some (some (.int 0 tk_STATE)))
    (z_WALK : PySem.W.nsIn K mainGlobals "WALK" = some (some (.int 1 tk_WALK)))
    (z_PASSED : PySem.W.nsIn K mainGlobals "PASSED" = some (some (.int 2 tk_PASSED)))
    (z_TARGET : PySem.W.nsIn K mainGlobals "TARGET" = some (some (.int 3 tk_TARGET)))
    (z_VALUE : PySem.W.nsIn K mainGlobals "VALUE" = some (some (.int 4 tk_VALUE)))
    (z_WORD : PySem.W.nsIn K mainGlobals "WORD" = some (some (.int 5 tk_WORD)))
    (z_AHEAD : PySem.W.nsIn K mainGlobals "AHEAD" = some (some (.int 6 tk_AHEAD)))
    (z_BEHIND : PySem.W.nsIn K mainGlobals "BEHIND" = some (some (.int 7 tk_BEHIND)))
    (z_WAY : PySem.W.nsIn K mainGlobals "WAY" = some (some (.int 8 tk_WAY)))
    (z_PAIR : PySem.W.nsIn K mainGlobals "PAIR" = some (some (.str "100" tk_PAIR)))
    (z_WORDS : PySem.W.nsIn K mainGlobals "WORDS" = some (some (.ref A_WORDS)))
    {oo_WORDS : Obj} {it_WORDS : Array Value} {en_WORDS : Nat} (u_WORDS : K.lookup A_WORDS = some oo_WORDS) (v_WORDS : oo_WORDS.cls = .type "tuple" ∧ oo_WORDS.data = .seq it_WORDS en_WORDS ∧ it_WORDS.size ≤ sizeLine ∧ oo_WORDS.dict = none) (x_WORDS : Vals ([("set" : Str), ("move" : Str), ("cons" : Str), ("head" : Str), ("tail" : Str), ("jump" : Str)].map V.str) it_WORDS.toList)
    (z_SHAPES : PySem.W.nsIn K mainGlobals "SHAPES" = some (some (.ref A_SHAPES)))
    {es_SHAPES : Array DictEntry} {en_SHAPES : Nat} (u_SHAPES : K.lookup A_SHAPES = some ⟨.type "dict", none, .dict es_SHAPES en_SHAPES, #[]⟩) (v_SHAPES : PySem.W.KeysLit w.params es_SHAPES.toList) (w_SHAPES : (A_SHAPES == sysModules) = false) (x_SHAPES : Paired (fun (e : DictEntry) (p : Str × Str) => (∃ t, e.key = .str p.1 t) ∧ ∃ t, e.val = .str p.2 t) es_SHAPES.toList [(("set" : Str), ("rt" : Str)), (("move" : Str), ("rr" : Str)), (("cons" : Str), ("rrr" : Str)), (("head" : Str), ("rr" : Str)), (("tail" : Str), ("rr" : Str)), (("jump" : Str), ("rn" : Str))])
    (z_CODE_OF_FIRST : PySem.W.nsIn K mainGlobals "CODE_OF_FIRST" = some (some (.ref A_CODE_OF_FIRST)))
    {B_CODE_OF_FIRST_0 B_CODE_OF_FIRST_1 B_CODE_OF_FIRST_2 : Addr}
    {oo_CODE_OF_FIRST : Obj} {it_CODE_OF_FIRST : Array Value} {en_CODE_OF_FIRST : Nat} (u_CODE_OF_FIRST : K.lookup A_CODE_OF_FIRST = some oo_CODE_OF_FIRST) (v_CODE_OF_FIRST : oo_CODE_OF_FIRST.cls = .type "tuple" ∧ oo_CODE_OF_FIRST.data = .seq it_CODE_OF_FIRST en_CODE_OF_FIRST ∧ it_CODE_OF_FIRST.size ≤ sizeLine ∧ oo_CODE_OF_FIRST.dict = none) (x_CODE_OF_FIRST : Vals [.ref B_CODE_OF_FIRST_0, .ref B_CODE_OF_FIRST_1, .ref B_CODE_OF_FIRST_2] it_CODE_OF_FIRST.toList)
    {oo_CODE_OF_FIRST_0 : Obj} {it_CODE_OF_FIRST_0 : Array Value} {en_CODE_OF_FIRST_0 : Nat} (u_CODE_OF_FIRST_0 : K.lookup B_CODE_OF_FIRST_0 = some oo_CODE_OF_FIRST_0) (v_CODE_OF_FIRST_0 : oo_CODE_OF_FIRST_0.cls = .type "tuple" ∧ oo_CODE_OF_FIRST_0.data = .seq it_CODE_OF_FIRST_0 en_CODE_OF_FIRST_0 ∧ it_CODE_OF_FIRST_0.size ≤ sizeLine ∧ oo_CODE_OF_FIRST_0.dict = none) (x_CODE_OF_FIRST_0 : Vals [.str "set", .int 2, .str "100"] it_CODE_OF_FIRST_0.toList)
    {oo_CODE_OF_FIRST_1 : Obj} {it_CODE_OF_FIRST_1 : Array Value} {en_CODE_OF_FIRST_1 : Nat} (u_CODE_OF_FIRST_1 : K.lookup B_CODE_OF_FIRST_1 = some oo_CODE_OF_FIRST_1) (v_CODE_OF_FIRST_1 : oo_CODE_OF_FIRST_1.cls = .type "tuple" ∧ oo_CODE_OF_FIRST_1.data = .seq it_CODE_OF_FIRST_1 en_CODE_OF_FIRST_1 ∧ it_CODE_OF_FIRST_1.size ≤ sizeLine ∧ oo_CODE_OF_FIRST_1.dict = none) (x_CODE_OF_FIRST_1 : Vals [.str "cons", .int 2, .int 2, .int 1] it_CODE_OF_FIRST_1.toList)
    {oo_CODE_OF_FIRST_2 : Obj} {it_CODE_OF_FIRST_2 : Array Value} {en_CODE_OF_FIRST_2 : Nat} (u_CODE_OF_FIRST_2 : K.lookup B_CODE_OF_FIRST_2 = some oo_CODE_OF_FIRST_2) (v_CODE_OF_FIRST_2 : oo_CODE_OF_FIRST_2.cls = .type "tuple" ∧ oo_CODE_OF_FIRST_2.data = .seq it_CODE_OF_FIRST_2 en_CODE_OF_FIRST_2 ∧ it_CODE_OF_FIRST_2.size ≤ sizeLine ∧ oo_CODE_OF_FIRST_2.dict = none) (x_CODE_OF_FIRST_2 : Vals [.str "cons", .int 2, .int 3, .int 2] it_CODE_OF_FIRST_2.toList)
    (y_TooLarge : PySem.W.nsIn K mainGlobals "TooLarge" = some (some (.ref A_TooLarge)))
    (y_TooLarge_x : PySem.W.excIn K A_TooLarge [.type "ValueError", .type "Exception", .type "BaseException", .type "object"] "ValueError.__new__" = true)
    (y_TooLarge_k : PySem.W.keepIn K (.ref A_TooLarge) = true)
    (y_TooLarge_b : PySem.W.subIn K (.ref A_TooLarge) (.type "BaseException") = some true)
    (y_TooLarge_t : PySem.W.typeIn K (.ref A_TooLarge) = some (.type "type"))
    (y_TooLarge_ga : PySem.W.findIn K (.ref A_TooLarge) "__getattribute__" = some (some (.builtin "BaseException.__getattribute__")))
    (y_TooLarge_gt : PySem.W.findIn K (.ref A_TooLarge) "__getattr__" = some none)
    (y_TooLarge_hd : PySem.W.hasDictIn K A_TooLarge = true)
    (y_TooLarge_ca : PySem.W.findIn K (.ref A_TooLarge) "__class__" = some (some (.builtin "object.__class__")))
    (y_TooLarge_sg : PySem.W.specialIn K (.builtin "object.__class__") "__get__" = some (some (.builtin "getset_descriptor.__get__")))
    (y_TooLarge_ta : PySem.W.takesIn K (.builtin "object.__class__") = some true)
    (y_TooLarge_mr : PySem.W.mroIn K A_TooLarge (.type "object") = some true)
    (y_TooLarge_k_TooLarge : PySem.W.kitOne K (.ref A_TooLarge) (.ref A_TooLarge) = some true) (y_TooLarge_s_TooLarge : PySem.W.subIn K (.ref A_TooLarge) (.ref A_TooLarge) = some true)
    (y_TooLarge_k_TooWide : PySem.W.kitOne K (.ref A_TooLarge) (.ref A_TooWide) = some false) (y_TooLarge_s_TooWide : PySem.W.subIn K (.ref A_TooLarge) (.ref A_TooWide) = some false)
    (y_TooWide : PySem.W.nsIn K mainGlobals "TooWide" = some (some (.ref A_TooWide)))
    (y_TooWide_x : PySem.W.excIn K A_TooWide [.type "ValueError", .type "Exception", .type "BaseException", .type "object"] "ValueError.__new__" = true)
    (y_TooWide_k : PySem.W.keepIn K (.ref A_TooWide) = true)
    (y_TooWide_b : PySem.W.subIn K (.ref A_TooWide) (.type "BaseException") = some true)
    (y_TooWide_t : PySem.W.typeIn K (.ref A_TooWide) = some (.type "type"))
    (y_TooWide_ga : PySem.W.findIn K (.ref A_TooWide) "__getattribute__" = some (some (.builtin "BaseException.__getattribute__")))
    (y_TooWide_gt : PySem.W.findIn K (.ref A_TooWide) "__getattr__" = some none)
    (y_TooWide_hd : PySem.W.hasDictIn K A_TooWide = true)
    (y_TooWide_ca : PySem.W.findIn K (.ref A_TooWide) "__class__" = some (some (.builtin "object.__class__")))
    (y_TooWide_sg : PySem.W.specialIn K (.builtin "object.__class__") "__get__" = some (some (.builtin "getset_descriptor.__get__")))
    (y_TooWide_ta : PySem.W.takesIn K (.builtin "object.__class__") = some true)
    (y_TooWide_mr : PySem.W.mroIn K A_TooWide (.type "object") = some true)
    (y_TooWide_k_TooLarge : PySem.W.kitOne K (.ref A_TooWide) (.ref A_TooLarge) = some false) (y_TooWide_s_TooLarge : PySem.W.subIn K (.ref A_TooWide) (.ref A_TooLarge) = some false)
    (y_TooWide_k_TooWide : PySem.W.kitOne K (.ref A_TooWide) (.ref A_TooWide) = some true) (y_TooWide_s_TooWide : PySem.W.subIn K (.ref A_TooWide) (.ref A_TooWide) = some true)
    : ∃ fd : FuncData, (∀ (s : Shared) (v : Value), BindsTo s fd ⟨[v], []⟩ [("script", v)]) ∧ ∀ base : Heap, K.In base → base.Ns mainGlobals mg → FnOk l.prog w K mg base CX0 44 fa fd ["script"] (sp_law K (fun _ => 0)) := by
  have e := hfa.symm.trans (PySem.W.mg_of X G a39)
  cases e
  let cl : Cn → Addr := fun n => match n with | .NarcissusError => 0 | .TooLarge => A_TooLarge | .BadText => 0 | .NoCode => 0 | .Ended => 0 | .OutOfSteps => 0 | .TooWide => A_TooWide | .BadClaim => 0 | .Machine => 0 | .SHAPES => A_SHAPES | .WORDS => A_WORDS | .CODE_OF_FIRST => A_CODE_OF_FIRST | .JOINING => 0 | .FORMS => 0 | .ITEMS => 0 | .CHECKS => 0
  have T : Txt K mg cl w := ⟨PySem.W.mg_none_of X G z_list, PySem.W.mg_none_of X G z_int, PySem.W.mg_none_of X G z_abs, PySem.W.mg_none_of X G z_len, PySem.W.mg_none_of X G z_range, PySem.W.mg_none_of X G z_sum, PySem.W.mg_none_of X G z_reversed, PySem.W.mg_none_of X G z_zip, PySem.W.mg_none_of X G z_max, PySem.W.mg_none_of X G z_isinstance, PySem.W.mg_none_of X G z_str, PySem.W.mg_none_of X G z_all, PySem.W.mg_none_of X G z_tuple, ⟨PySem.W.mg_of X G z_WORDS, fun _ => .inr ⟨_, _, _, u_WORDS, v_WORDS.1, v_WORDS.2.1, v_WORDS.2.2.1, x_WORDS⟩, _, u_WORDS, v_WORDS.1, v_WORDS.2.2.2⟩, ⟨PySem.W.mg_of X G z_SHAPES, dlit_mk u_SHAPES v_SHAPES w_SHAPES x_SHAPES⟩, ⟨PySem.W.mg_of X G z_CODE_OF_FIRST, _, _, _, fun _ => ⟨.inr ⟨_, _, _, u_CODE_OF_FIRST, v_CODE_OF_FIRST.1, v_CODE_OF_FIRST.2.1, v_CODE_OF_FIRST.2.2.1, x_CODE_OF_FIRST⟩, .inr ⟨_, _, _, u_CODE_OF_FIRST_0, v_CODE_OF_FIRST_0.1, v_CODE_OF_FIRST_0.2.1, v_CODE_OF_FIRST_0.2.2.1, x_CODE_OF_FIRST_0⟩, .inr ⟨_, _, _, u_CODE_OF_FIRST_1, v_CODE_OF_FIRST_1.1, v_CODE_OF_FIRST_1.2.1, v_CODE_OF_FIRST_1.2.2.1, x_CODE_OF_FIRST_1⟩, .inr ⟨_, _, _, u_CODE_OF_FIRST_2, v_CODE_OF_FIRST_2.1, v_CODE_OF_FIRST_2.2.1, v_CODE_OF_FIRST_2.2.2.1, x_CODE_OF_FIRST_2⟩⟩⟩, ⟨_, PySem.W.mg_of X G z_MOST_TREE⟩, ⟨_, PySem.W.mg_of X G z_LEAF⟩, ⟨_, PySem.W.mg_of X G z_MOST_CODE⟩, ⟨_, PySem.W.mg_of X G z_BACK⟩, ⟨_, PySem.W.mg_of X G z_MOST_WIDTH⟩, ⟨_, PySem.W.mg_of X G z_STATE⟩, ⟨_, PySem.W.mg_of X G z_WALK⟩, ⟨_, PySem.W.mg_of X G z_PASSED⟩, ⟨_, PySem.W.mg_of X G z_TARGET⟩, ⟨_, PySem.W.mg_of X G z_VALUE⟩, ⟨_, PySem.W.mg_of X G z_WORD⟩, ⟨_, PySem.W.mg_of X G z_AHEAD⟩, ⟨_, PySem.W.mg_of X G z_BEHIND⟩, ⟨_, PySem.W.mg_of X G z_WAY⟩, ⟨_, PySem.W.mg_of X G z_PAIR⟩, ⟨PySem.W.mg_of X G y_TooLarge, ⟨y_TooLarge_x, y_TooLarge_k, y_TooLarge_b, y_TooLarge_t, ⟨y_TooLarge_ga, y_TooLarge_gt, y_TooLarge_b, y_TooLarge_hd, y_TooLarge_ca, y_TooLarge_sg, y_TooLarge_ta, y_TooLarge_mr⟩⟩⟩, ⟨y_TooLarge_k_TooLarge, y_TooLarge_s_TooLarge⟩, ⟨y_TooLarge_k_TooWide, y_TooLarge_s_TooWide⟩, ⟨PySem.W.mg_of X G y_TooWide, ⟨y_TooWide_x, y_TooWide_k, y_TooWide_b, y_TooWide_t, ⟨y_TooWide_ga, y_TooWide_gt, y_TooWide_b, y_TooWide_hd, y_TooWide_ca, y_TooWide_sg, y_TooWide_ta, y_TooWide_mr⟩⟩⟩, ⟨y_TooWide_k_TooLarge, y_TooWide_s_TooLarge⟩, ⟨y_TooWide_k_TooWide, y_TooWide_s_TooWide⟩⟩
  refine ⟨PySem.W.fnOf "law" "law" (defArgs s_law) (defBody s_law) (defScope s_law) .none kV39 dc39 pm39 an39 cd39 ct39, fun s v => .of_eq rfl, fun base _ _ => ?_⟩
  have F0 := fun_mk (st := s_law_stream) l0 c0 k0
  have B0 := F0.binds (ps := ["script"]) fun _ _ _ _ _ _ us hl => match us, hl with | [_], _ => rfl
  have H_law_stream : Has l.prog w K mg base CX0 1 "_law_stream" ["script"] (sp_law_stream K cl) := ⟨⟨_, _, ok_law_stream T F0, PySem.W.mg_of X G a0, F0.kp, B0⟩⟩
  have F1 := fun_mk (st := s_law_draw) l1 c1 k1
  have B1 := F1.binds (ps := ["stream", "many"]) fun _ _ _ _ _ _ us hl => match us, hl with | [_, _], _ => rfl
  have H_law_draw : Has l.prog w K mg base CX0 1 "_law_draw" ["stream", "many"] (sp_law_draw K cl) := ⟨⟨_, _, ok_law_draw T F1, PySem.W.mg_of X G a1, F1.kp, B1⟩⟩
  have F2 := fun_mk (st := s_law_tree) l2 c2 k2
  have B2 := F2.binds (ps := ["stream", "pairs"]) fun _ _ _ _ _ _ us hl => match us, hl with | [_, _], _ => rfl
  have H_law_tree : Has l.prog w K mg base CX0 42 "_law_tree" ["stream", "pairs"] (sp_law_tree K cl) := ⟨⟨_, _, ok_law_tree T H_law_draw F2 (PySem.W.mg_of X G a2) B2 40, PySem.W.mg_of X G a2, F2.kp, B2⟩⟩
  have F3 := fun_mk (st := s_law_short_program) l3 c3 k3
  have B3 := F3.binds (ps := ["stream"]) fun _ _ _ _ _ _ us hl => match us, hl with | [_], _ => rfl
  have H_law_short_program : Has l.prog w K mg base CX0 43 "_law_short_program" ["stream"] (sp_law_short_program K cl) := ⟨⟨_, _, ok_law_short_program T H_law_draw H_law_tree F3, PySem.W.mg_of X G a3, F3.kp, B3⟩⟩
  have F4 := fun_mk (st := s_law_size) l4 c4 k4
  have B4 := F4.binds (ps := ["program"]) fun _ _ _ _ _ _ us hl => match us, hl with | [_], _ => rfl
  have H_law_size : Has l.prog w K mg base CX0 1 "_law_size" ["program"] (sp_law_size K cl) := ⟨⟨_, _, ok_law_size T F4, PySem.W.mg_of X G a4, F4.kp, B4⟩⟩
  have F5 := fun_mk (st := s_trees_of) l5 c5 k5
  have B5 := F5.binds (ps := ["program"]) fun _ _ _ _ _ _ us hl => match us, hl with | [_], _ => rfl
  have H_trees_of : Has l.prog w K mg base CX0 1 "trees_of" ["program"] (sp_trees_of K cl) := ⟨⟨_, _, ok_trees_of T F5, PySem.W.mg_of X G a5, F5.kp, B5⟩⟩
  have F6 := fun_mk (st := s_within_limits) l6 c6 k6
  have B6 := F6.binds (ps := ["program"]) fun _ _ _ _ _ _ us hl => match us, hl with | [_], _ => rfl
  have H_within_limits : Has l.prog w K mg base (L2.CX l.prog w) 2 "within_limits" ["program"] (sp_within_limits K cl) := ⟨⟨_, _, ok_within_limits T H_trees_of F6, PySem.W.mg_of X G a6, F6.kp, B6⟩⟩
  have F7 := fun_mk (st := s_list_of) l7 c7 k7
  have B7 := F7.binds (ps := ["trees"]) fun _ _ _ _ _ _ us hl => match us, hl with | [_], _ => rfl
  have H_list_of : Has l.prog w K mg base (L2.CX l.prog w) 1 "list_of" ["trees"] (sp_list_of K cl) := ⟨⟨_, _, ok_list_of T F7, PySem.W.mg_of X G a7, F7.kp, B7⟩⟩
  have F8 := fun_mk (st := s_cons) l8 c8 k8
  have B8 := F8.binds (ps := ["first", "second"]) fun _ _ _ _ _ _ us hl => match us, hl with | [_, _], _ => rfl
  have H_cons : Has l.prog w K mg base (L2.CX l.prog w) 1 "cons" ["first", "second"] (sp_cons K cl) := ⟨⟨_, _, ok_cons T F8, PySem.W.mg_of X G a8, F8.kp, B8⟩⟩
  have F9 := fun_mk (st := s_number) l9 c9 k9
  have B9 := F9.binds (ps := ["value"]) fun _ _ _ _ _ _ us hl => match us, hl with | [_], _ => rfl
  have H_number : Has l.prog w K mg base (L2.CX l.prog w) 1 "number" ["value"] (sp_number K cl) := ⟨⟨_, _, ok_number T F9, PySem.W.mg_of X G a9, F9.kp, B9⟩⟩
  have F10 := fun_mk (st := s_part_code) l10 c10 k10
  have B10 := F10.binds (ps := ["kind", "part"]) fun _ _ _ _ _ _ us hl => match us, hl with | [_, _], _ => rfl
  have H_part_code : Has l.prog w K mg base (L2.CX l.prog w) 2 "_part_code" ["kind", "part"] (sp_part_code K cl) := ⟨⟨_, _, ok_part_code T H_cons H_number F10, PySem.W.mg_of X G a10, F10.kp, B10⟩⟩
  have F11 := fun_mk (st := s_instruction_code) l11 c11 k11
  have B11 := F11.binds (ps := ["instruction"]) fun _ _ _ _ _ _ us hl => match us, hl with | [_], _ => rfl
  have H_instruction_code : Has l.prog w K mg base (L2.CX l.prog w) 3 "_instruction_code" ["instruction"] (sp_instruction_code K cl) := ⟨⟨_, _, ok_instruction_code T H_cons H_part_code H_number F11, PySem.W.mg_of X G a11, F11.kp, B11⟩⟩
  have F12 := fun_mk (st := s_code) l12 c12 k12
  have B12 := F12.binds (ps := ["program"]) fun _ _ _ _ _ _ us hl => match us, hl with | [_], _ => rfl
  have H_code : Has l.prog w K mg base (L2.CX l.prog w) 4 "code" ["program"] (sp_code K cl) := ⟨⟨_, _, ok_code T H_list_of H_instruction_code F12, PySem.W.mg_of X G a12, F12.kp, B12⟩⟩
  have F13 := fun_mk (st := s_with_own_code) l13 c13 k13
  have B13 := F13.binds (ps := ["program"]) fun _ _ _ _ _ _ us hl => match us, hl with | [_], _ => rfl
  have H_with_own_code : Has l.prog w K mg base (L2.CX l.prog w) 5 "with_own_code" ["program"] (sp_with_own_code K cl) := ⟨⟨_, _, ok_with_own_code T H_within_limits H_code F13, PySem.W.mg_of X G a13, F13.kp, B13⟩⟩
  have F14 := fun_mk (st := s_width) l14 c14 k14
  have B14 := F14.binds (ps := ["program"]) fun _ _ _ _ _ _ us hl => match us, hl with | [_], _ => rfl
  have H_width : Has l.prog w K mg base CX0 1 "width" ["program"] (sp_width K cl) := ⟨⟨_, _, ok_width T F14, PySem.W.mg_of X G a14, F14.kp, B14⟩⟩
  have F15 := fun_mk (st := s_greatest_width) l15 c15 k15
  have B15 := F15.binds (ps := ["programs"]) fun _ _ _ _ _ _ us hl => match us, hl with | [_], _ => rfl
  have H_greatest_width : Has l.prog w K mg base (L2.CX l.prog w) 2 "greatest_width" ["programs"] (sp_greatest_width K cl) := ⟨⟨_, _, ok_greatest_width T H_width F15, PySem.W.mg_of X G a15, F15.kp, B15⟩⟩
  have F16 := fun_mk (st := s_bearer) l16 c16 k16
  have B16 := F16.binds (ps := ["program"]) fun _ _ _ _ _ _ us hl => match us, hl with | [_], _ => rfl
  have H_bearer : Has l.prog w K mg base (L2.CX l.prog w) 6 "bearer" ["program"] (sp_bearer K cl) := ⟨⟨_, _, ok_bearer T H_with_own_code H_greatest_width F16, PySem.W.mg_of X G a16, F16.kp, B16⟩⟩
  have F17 := fun_mk (st := s_placed) l17 c17 k17
  have B17 := F17.binds (ps := ["lines"]) fun _ _ _ _ _ _ us hl => match us, hl with | [_], _ => rfl
  have H_placed : Has l.prog w K mg base CX0 1 "placed" ["lines"] (sp_placed K cl) := ⟨⟨_, _, ok_placed T F17, PySem.W.mg_of X G a17, F17.kp, B17⟩⟩
  have F18 := fun_mk (st := s_go_on) l18 c18 k18
  have B18 := F18.binds (ps := []) fun _ _ _ _ _ _ us hl => match us, hl with | [], _ => rfl
  have H_go_on : Has l.prog w K mg base CX0 1 "_go_on" [] (sp_go_on K cl) := ⟨⟨_, _, ok_go_on T F18, PySem.W.mg_of X G a18, F18.kp, B18⟩⟩
  have F19 := fun_mk (st := s_change_register) l19 c19 k19
  have B19 := F19.binds (ps := []) fun _ _ _ _ _ _ us hl => match us, hl with | [], _ => rfl
  have H_change_register : Has l.prog w K mg base CX0 1 "_change_register" [] (sp_change_register K cl) := ⟨⟨_, _, ok_change_register T F19, PySem.W.mg_of X G a19, F19.kp, B19⟩⟩
  have F20 := fun_mk (st := s_look_up) l20 c20 k20
  have B20 := F20.binds (ps := ["place"]) fun _ _ _ _ _ _ us hl => match us, hl with | [_], _ => rfl
  have H_look_up : Has l.prog w K mg base CX0 1 "_look_up" ["place"] (sp_look_up K cl) := ⟨⟨_, _, ok_look_up T F20, PySem.W.mg_of X G a20, F20.kp, B20⟩⟩
  have F21 := fun_mk (st := s_make_jump) l21 c21 k21
  have B21 := F21.binds (ps := []) fun _ _ _ _ _ _ us hl => match us, hl with | [], _ => rfl
  have H_make_jump : Has l.prog w K mg base CX0 2 "_make_jump" [] (sp_make_jump K cl) := ⟨⟨_, _, ok_make_jump T H_look_up F21, PySem.W.mg_of X G a21, F21.kp, B21⟩⟩
  have F22 := fun_mk (st := s_case) l22 c22 k22
  have B22 := F22.binds (ps := ["name", "following", "lines"]) fun _ _ _ _ _ _ us hl => match us, hl with | [_, _, _], _ => rfl
  have H_case : Has l.prog w K mg base CX0 1 "_case" ["name", "following", "lines"] (sp_case K cl) := ⟨⟨_, _, ok_case T F22, PySem.W.mg_of X G a22, F22.kp, B22⟩⟩
  have F23 := fun_mk (st := s_make_tree) l23 c23 k23
  have B23 := F23.binds (ps := []) fun _ _ _ _ _ _ us hl => match us, hl with | [], _ => rfl
  have H_make_tree : Has l.prog w K mg base CX0 2 "_make_tree" [] (sp_make_tree K cl) := ⟨⟨_, _, ok_make_tree T H_look_up H_case F23, PySem.W.mg_of X G a23, F23.kp, B23⟩⟩
  have F24 := fun_mk (st := s_begin) l24 c24 k24
  have B24 := F24.binds (ps := []) fun _ _ _ _ _ _ us hl => match us, hl with | [], _ => rfl
  have H_begin : Has l.prog w K mg base CX0 1 "_begin" [] (sp_begin K cl) := ⟨⟨_, _, ok_begin T F24, PySem.W.mg_of X G a24, F24.kp, B24⟩⟩
  have F25 := fun_mk (st := s_decodeU) l25 c25 k25
  have B25 := F25.binds (ps := []) fun _ _ _ _ _ _ us hl => match us, hl with | [], _ => rfl
  have H_decodeU : Has l.prog w K mg base CX0 1 "_decode" [] (sp_decodeU K cl) := ⟨⟨_, _, ok_decodeU T F25, PySem.W.mg_of X G a25, F25.kp, B25⟩⟩
  have F26 := fun_mk (st := s_universal) l26 c26 k26
  have B26 := F26.binds (ps := []) fun _ _ _ _ _ _ us hl => match us, hl with | [], _ => rfl
  have H_universal : Has l.prog w K mg base CX0 3 "universal" [] (sp_universal K cl) := ⟨⟨_, _, ok_universal T H_placed H_go_on H_change_register H_make_jump H_make_tree H_begin H_decodeU F26, PySem.W.mg_of X G a26, F26.kp, B26⟩⟩
  have F27 := fun_mk (st := s_cleaning) l27 c27 k27
  have B27 := F27.binds (ps := ["program"]) fun _ _ _ _ _ _ us hl => match us, hl with | [_], _ => rfl
  have H_cleaning : Has l.prog w K mg base CX0 2 "cleaning" ["program"] (sp_cleaning K cl) := ⟨⟨_, _, ok_cleaning T H_width F27, PySem.W.mg_of X G a27, F27.kp, B27⟩⟩
  have F28 := fun_mk (st := s_fixed_point) l28 c28 k28
  have B28 := F28.binds (ps := ["program"]) fun _ _ _ _ _ _ us hl => match us, hl with | [_], _ => rfl
  have H_fixed_point : Has l.prog w K mg base (L2.CX l.prog w) 6 "fixed_point" ["program"] (sp_fixed_point K cl) := ⟨⟨_, _, ok_fixed_point T H_greatest_width H_universal H_cleaning H_with_own_code F28, PySem.W.mg_of X G a28, F28.kp, B28⟩⟩
  have F29 := fun_mk (st := s_listing) l29 c29 k29
  have B29 := F29.binds (ps := []) fun _ _ _ _ _ _ us hl => match us, hl with | [], _ => rfl
  have H_listing : Has l.prog w K mg base CX0 1 "_listing" [] (sp_listing K cl) := ⟨⟨_, _, ok_listing T F29, PySem.W.mg_of X G a29, F29.kp, B29⟩⟩
  have F30 := fun_mk (st := s_together) l30 c30 k30
  have B30 := F30.binds (ps := ["programs"]) fun _ _ _ _ _ _ us hl => match us, hl with | [_], _ => rfl
  have H_together : Has l.prog w K mg base (L2.CX l.prog w) 5 "together" ["programs"] (sp_together K cl) := ⟨⟨_, _, ok_together T H_greatest_width H_listing H_list_of H_within_limits H_code F30, PySem.W.mg_of X G a30, F30.kp, B30⟩⟩
  have F31 := fun_mk (st := s_law_is_good) l31 c31 k31
  have B31 := F31.binds (ps := ["program"]) fun _ _ _ _ _ _ us hl => match us, hl with | [_], _ => rfl
  have H_law_is_good : Has l.prog w K mg base CX0 1 "_law_is_good" ["program"] (sp_law_is_good K cl) := ⟨⟨_, _, ok_law_is_good T F31, PySem.W.mg_of X G a31, F31.kp, B31⟩⟩
  have F32 := fun_mk (st := s_beside_own_code) l32 c32 k32
  have B32 := F32.binds (ps := ["program"]) fun _ _ _ _ _ _ us hl => match us, hl with | [_], _ => rfl
  have H_beside_own_code : Has l.prog w K mg base (L2.CX l.prog w) 6 "beside_own_code" ["program"] (sp_beside_own_code K cl) := ⟨⟨_, _, ok_beside_own_code T H_with_own_code F32, PySem.W.mg_of X G a32, F32.kp, B32⟩⟩
  have F33 := fun_mk (st := s_choice) l33 c33 k33
  have B33 := F33.binds (ps := ["condition", "first", "second"]) fun _ _ _ _ _ _ us hl => match us, hl with | [_, _, _], _ => rfl
  have H_choice : Has l.prog w K mg base (L2.CX l.prog w) 3 "choice" ["condition", "first", "second"] (sp_choice K cl) := ⟨⟨_, _, ok_choice T H_greatest_width H_cleaning H_within_limits H_placed F33, PySem.W.mg_of X G a33, F33.kp, B33⟩⟩
  have F34 := fun_mk (st := s_defeat) l34 c34 k34
  have B34 := F34.binds (ps := ["decider", "yes", "no"]) fun _ _ _ _ _ _ us hl => match us, hl with | [_, _, _], _ => rfl
  have H_defeat : Has l.prog w K mg base (L2.CX l.prog w) 7 "defeat" ["decider", "yes", "no"] (sp_defeat K cl) := ⟨⟨_, _, ok_defeat T H_beside_own_code H_choice F34, PySem.W.mg_of X G a34, F34.kp, B34⟩⟩
  have F35 := fun_mk (st := s_knowing) l35 c35 k35
  have B35 := F35.binds (ps := ["program"]) fun _ _ _ _ _ _ us hl => match us, hl with | [_], _ => rfl
  have H_knowing : Has l.prog w K mg base (L2.CX l.prog w) 7 "knowing" ["program"] (sp_knowing K cl) := ⟨⟨_, _, ok_knowing T H_greatest_width H_beside_own_code F35, PySem.W.mg_of X G a35, F35.kp, B35⟩⟩
  have F36 := fun_mk (st := s_liar) l36 c36 k36
  have B36 := F36.binds (ps := ["program"]) fun _ _ _ _ _ _ us hl => match us, hl with | [_], _ => rfl
  have H_liar : Has l.prog w K mg base (L2.CX l.prog w) 8 "liar" ["program"] (sp_liar K cl) := ⟨⟨_, _, ok_liar T H_knowing F36, PySem.W.mg_of X G a36, F36.kp, B36⟩⟩
  have F37 := fun_mk (st := s_law_told) l37 c37 k37
  have B37 := F37.binds (ps := ["which", "rows"]) fun _ _ _ _ _ _ us hl => match us, hl with | [_, _], _ => rfl
  have H_law_told : Has l.prog w K mg base CX0 9 "_law_told" ["which", "rows"] (sp_law_told K cl) := ⟨⟨_, _, ok_law_told T H_law_size H_bearer H_fixed_point H_together H_law_is_good H_defeat H_liar F37, PySem.W.mg_of X G a37, F37.kp, B37⟩⟩
  have F38 := fun_mk (st := s_law_great) l38 c38 k38
  have B38 := F38.binds (ps := ["stream", "which", "rows"]) fun _ _ _ _ _ _ us hl => match us, hl with | [_, _, _], _ => rfl
  have H_law_great : Has l.prog w K mg base CX0 10 "_law_great" ["stream", "which", "rows"] (sp_law_great K cl) := ⟨⟨_, _, ok_law_great T H_law_draw H_law_told H_law_size F38, PySem.W.mg_of X G a38, F38.kp, B38⟩⟩
  have F39 := fun_mk (st := s_law) l39 c39 k39
  exact ok_law T H_law_stream H_law_draw H_law_short_program H_law_told H_law_great F39
end Nx
open PySem PySem.W PyProof.Rows
set_option maxRecDepth 100000 in
set_option maxHeartbeats 0 in
theorem PySem.Challenge.cw_narcissus_k40_too_wide_everywhere_holds : PySem.Challenge.rw_narcissus_k40_too_wide_everywhere.Holds := by
  w_on; o_law; k_head; (case hw => w_witness2)
  k_fill
  refine L2.walk_of (l := PySem.Challenge.rw_narcissus_k40_too_wide_everywhere) (n := 63) (k := 44) (x := "script") (CX := fun _ => L2.CX0) (sp := fun w => Nx.sp_law _ (fun _ => 0)) rfl (by decide) rfl ⟨rfl, by decide, by decide⟩ (fun w h Y => PySem.W.kIn_of Y) ?F (fun _ _ a ns hl _ hS => ⟨a, ns, rfl, hS, hl, fun _ => rfl⟩) (fun _ _ _ _ _ h => h)
  case F =>
    intro w mg fa h KX G hmg
    refine' Nx.all_mk KX G hmg ?a0 ?l0 ?c0 ?k0 ?a1 ?l1 ?c1 ?k1 ?a2 ?l2 ?c2 ?k2 ?a3 ?l3 ?c3 ?k3 ?a4 ?l4 ?c4 ?k4 ?a5 ?l5 ?c5 ?k5 ?a6 ?l6 ?c6 ?k6 ?a7 ?l7 ?c7 ?k7 ?a8 ?l8 ?c8 ?k8 ?a9 ?l9 ?c9 ?k9 ?a10 ?l10 ?c10 ?k10 ?a11 ?l11 ?c11 ?k11 ?a12 ?l12 ?c12 ?k12 ?a13 ?l13 ?c13 ?k13 ?a14 ?l14 ?c14 ?k14 ?a15 ?l15 ?c15 ?k15 ?a16 ?l16 ?c16 ?k16 ?a17 ?l17 ?c17 ?k17 ?a18 ?l18 ?c18 ?k18 ?a19 ?l19 ?c19 ?k19 ?a20 ?l20 ?c20 ?k20 ?a21 ?l21 ?c21 ?k21 ?a22 ?l22 ?c22 ?k22 ?a23 ?l23 ?c23 ?k23 ?a24 ?l24 ?c24 ?k24 ?a25 ?l25 ?c25 ?k25 ?a26 ?l26 ?c26 ?k26 ?a27 ?l27 ?c27 ?k27 ?a28 ?l28 ?c28 ?k28 ?a29 ?l29 ?c29 ?k29 ?a30 ?l30 ?c30 ?k30 ?a31 ?l31 ?c31 ?k31 ?a32 ?l32 ?c32 ?k32 ?a33 ?l33 ?c33 ?k33 ?a34 ?l34 ?c34 ?k34 ?a35 ?l35 ?c35 ?k35 ?a36 ?l36 ?c36 ?k36 ?a37 ?l37 ?c37 ?k37 ?a38 ?l38 ?c38 ?k38 ?a39 ?l39 ?c39 ?k39 ?z_list ?z_int ?z_abs ?z_len ?z_range ?z_sum ?z_reversed ?z_zip ?z_max ?z_isinstance ?z_str ?z_all ?z_tuple ?z_MOST_TREE ?z_LEAF ?z_MOST_CODE ?z_BACK ?z_MOST_WIDTH ?z_STATE ?z_WALK ?z_PASSED ?z_TARGET ?z_VALUE ?z_WORD ?z_AHEAD ?z_BEHIND ?z_WAY ?z_PAIR ?z_WORDS ?u_WORDS ?v_WORDS ?x_WORDS ?z_SHAPES ?u_SHAPES ?v_SHAPES ?w_SHAPES ?x_SHAPES ?z_CODE_OF_FIRST ?u_CODE_OF_FIRST ?v_CODE_OF_FIRST ?x_CODE_OF_FIRST ?u_CODE_OF_FIRST_0 ?v_CODE_OF_FIRST_0 ?x_CODE_OF_FIRST_0 ?u_CODE_OF_FIRST_1 ?v_CODE_OF_FIRST_1 ?x_CODE_OF_FIRST_1 ?u_CODE_OF_FIRST_2 ?v_CODE_OF_FIRST_2 ?x_CODE_OF_FIRST_2 ?y_TooLarge ?y_TooLarge_x ?y_TooLarge_k ?y_TooLarge_b ?y_TooLarge_t ?y_TooLarge_ga ?y_TooLarge_gt ?y_TooLarge_hd ?y_TooLarge_ca ?y_TooLarge_sg ?y_TooLarge_ta ?y_TooLarge_mr ?y_TooLarge_k_TooLarge ?y_TooLarge_s_TooLarge ?y_TooLarge_k_TooWide ?y_TooLarge_s_TooWide ?y_TooWide ?y_TooWide_x ?y_TooWide_k ?y_TooWide_b ?y_TooWide_t ?y_TooWide_ga ?y_TooWide_gt ?y_TooWide_hd ?y_TooWide_ca ?y_TooWide_sg ?y_TooWide_ta ?y_TooWide_mr ?y_TooWide_k_TooLarge ?y_TooWide_s_TooLarge ?y_TooWide_k_TooWide ?y_TooWide_s_TooWide
    (case y_TooLarge => first | rfl | k_is)
    (case y_TooWide => first | rfl | k_is)
    (case a0 => first | rfl | k_is)
    (case l0 => first | rfl | k_is)
    (case c0 => first | rfl | k_is)
    (case k0 => first | rfl | k_is)
    (case a1 => first | rfl | k_is)
    (case l1 => first | rfl | k_is)
    (case c1 => first | rfl | k_is)
    (case k1 => first | rfl | k_is)
    (case a2 => first | rfl | k_is)
    (case l2 => first | rfl | k_is)
    (case c2 => first | rfl | k_is)
    (case k2 => first | rfl | k_is)
    (case a3 => first | rfl | k_is)
    (case l3 => first | rfl | k_is)
    (case c3 => first | rfl | k_is)
    (case k3 => first | rfl | k_is)
    (case a4 => first | rfl | k_is)
    (case l4 => first | rfl | k_is)
    (case c4 => first | rfl | k_is)
    (case k4 => first | rfl | k_is)
    (case a5 => first | rfl | k_is)
    (case l5 => first | rfl | k_is)
    (case c5 => first | rfl | k_is)
    (case k5 => first | rfl | k_is)
    (case a6 => first | rfl | k_is)
    (case l6 => first | rfl | k_is)
    (case c6 => first | rfl | k_is)
    (case k6 => first | rfl | k_is)
    (case a7 => first | rfl | k_is)
    (case l7 => first | rfl | k_is)
    (case c7 => first | rfl | k_is)
    (case k7 => first | rfl | k_is)
    (case a8 => first | rfl | k_is)
    (case l8 => first | rfl | k_is)
    (case c8 => first | rfl | k_is)
    (case k8 => first | rfl | k_is)
    (case a9 => first | rfl | k_is)
    (case l9 => first | rfl | k_is)
    (case c9 => first | rfl | k_is)
    (case k9 => first | rfl | k_is)
    (case a10 => first | rfl | k_is)
    (case l10 => first | rfl | k_is)
    (case c10 => first | rfl | k_is)
    (case k10 => first | rfl | k_is)
    (case a11 => first | rfl | k_is)
    (case l11 => first | rfl | k_is)
    (case c11 => first | rfl | k_is)
    (case k11 => first | rfl | k_is)
    (case a12 => first | rfl | k_is)
    (case l12 => first | rfl | k_is)
    (case c12 => first | rfl | k_is)
    (case k12 => first | rfl | k_is)
    (case a13 => first | rfl | k_is)
    (case l13 => first | rfl | k_is)
    (case c13 => first | rfl | k_is)
    (case k13 => first | rfl | k_is)
    (case a14 => first | rfl | k_is)
    (case l14 => first | rfl | k_is)
    (case c14 => first | rfl | k_is)
    (case k14 => first | rfl | k_is)
    (case a15 => first | rfl | k_is)
    (case l15 => first | rfl | k_is)
    (case c15 => first | rfl | k_is)
    (case k15 => first | rfl | k_is)
    (case a16 => first | rfl | k_is)
    (case l16 => first | rfl | k_is)
    (case c16 => first | rfl | k_is)
    (case k16 => first | rfl | k_is)
    (case a17 => first | rfl | k_is)
    (case l17 => first | rfl | k_is)
    (case c17 => first | rfl | k_is)
    (case k17 => first | rfl | k_is)
    (case a18 => first | rfl | k_is)
    (case l18 => first | rfl | k_is)
    (case c18 => first | rfl | k_is)
    (case k18 => first | rfl | k_is)
    (case a19 => first | rfl | k_is)
    (case l19 => first | rfl | k_is)
    (case c19 => first | rfl | k_is)
    (case k19 => first | rfl | k_is)
    (case a20 => first | rfl | k_is)
    (case l20 => first | rfl | k_is)
    (case c20 => first | rfl | k_is)
    (case k20 => first | rfl | k_is)
    (case a21 => first | rfl | k_is)
    (case l21 => first | rfl | k_is)
    (case c21 => first | rfl | k_is)
    (case k21 => first | rfl | k_is)
    (case a22 => first | rfl | k_is)
    (case l22 => first | rfl | k_is)
    (case c22 => first | rfl | k_is)
    (case k22 => first | rfl | k_is)
    (case a23 => first | rfl | k_is)
    (case l23 => first | rfl | k_is)
    (case c23 => first | rfl | k_is)
    (case k23 => first | rfl | k_is)
    (case a24 => first | rfl | k_is)
    (case l24 => first | rfl | k_is)
    (case c24 => first | rfl | k_is)
    (case k24 => first | rfl | k_is)
    (case a25 => first | rfl | k_is)
    (case l25 => first | rfl | k_is)
    (case c25 => first | rfl | k_is)
    (case k25 => first | rfl | k_is)
    (case a26 => first | rfl | k_is)
    (case l26 => first | rfl | k_is)
    (case c26 => first | rfl | k_is)
    (case k26 => first | rfl | k_is)
    (case a27 => first | rfl | k_is)
    (case l27 => first | rfl | k_is)
    (case c27 => first | rfl | k_is)
    (case k27 => first | rfl | k_is)
    (case a28 => first | rfl | k_is)
    (case l28 => first | rfl | k_is)
    (case c28 => first | rfl | k_is)
    (case k28 => first | rfl | k_is)
    (case a29 => first | rfl | k_is)
    (case l29 => first | rfl | k_is)
    (case c29 => first | rfl | k_is)
    (case k29 => first | rfl | k_is)
    (case a30 => first | rfl | k_is)
    (case l30 => first | rfl | k_is)
    (case c30 => first | rfl | k_is)
    (case k30 => first | rfl | k_is)
    (case a31 => first | rfl | k_is)
    (case l31 => first | rfl | k_is)
    (case c31 => first | rfl | k_is)
    (case k31 => first | rfl | k_is)
    (case a32 => first | rfl | k_is)
    (case l32 => first | rfl | k_is)
    (case c32 => first | rfl | k_is)
    (case k32 => first | rfl | k_is)
    (case a33 => first | rfl | k_is)
    (case l33 => first | rfl | k_is)
    (case c33 => first | rfl | k_is)
    (case k33 => first | rfl | k_is)
    (case a34 => first | rfl | k_is)
    (case l34 => first | rfl | k_is)
    (case c34 => first | rfl | k_is)
    (case k34 => first | rfl | k_is)
    (case a35 => first | rfl | k_is)
    (case l35 => first | rfl | k_is)
    (case c35 => first | rfl | k_is)
    (case k35 => first | rfl | k_is)
    (case a36 => first | rfl | k_is)
    (case l36 => first | rfl | k_is)
    (case c36 => first | rfl | k_is)
    (case k36 => first | rfl | k_is)
    (case a37 => first | rfl | k_is)
    (case l37 => first | rfl | k_is)
    (case c37 => first | rfl | k_is)
    (case k37 => first | rfl | k_is)
    (case a38 => first | rfl | k_is)
    (case l38 => first | rfl | k_is)
    (case c38 => first | rfl | k_is)
    (case k38 => first | rfl | k_is)
    (case a39 => first | rfl | k_is)
    (case l39 => first | rfl | k_is)
    (case c39 => first | rfl | k_is)
    (case k39 => first | rfl | k_is)
    (case z_list => first | rfl | k_is)
    (case z_int => first | rfl | k_is)
    (case z_abs => first | rfl | k_is)
    (case z_len => first | rfl | k_is)
    (case z_range => first | rfl | k_is)
    (case z_sum => first | rfl | k_is)
    (case z_reversed => first | rfl | k_is)
    (case z_zip => first | rfl | k_is)
    (case z_max => first | rfl | k_is)
    (case z_isinstance => first | rfl | k_is)
    (case z_str => first | rfl | k_is)
    (case z_all => first | rfl | k_is)
    (case z_tuple => first | rfl | k_is)
    (case z_MOST_TREE => first | rfl | k_is)
    (case z_LEAF => first | rfl | k_is)
    (case z_MOST_CODE => first | rfl | k_is)
    (case z_BACK => first | rfl | k_is)
    (case z_MOST_WIDTH => first | rfl | k_is)
    (case z_STATE => first | rfl | k_is)
    (case z_WALK => first | rfl | k_is)
    (case z_PASSED => first | rfl | k_is)
    (case z_TARGET => first | rfl | k_is)
    (case z_VALUE => first | rfl | k_is)
    (case z_WORD => first | rfl | k_is)
    (case z_AHEAD => first | rfl | k_is)
    (case z_BEHIND => first | rfl | k_is)
    (case z_WAY => first | rfl | k_is)
    (case z_PAIR => first | rfl | k_is)
    (case z_WORDS => first | rfl | k_is)
    (case u_WORDS => first | rfl | k_is)
    (case v_WORDS => exact ⟨rfl, rfl, by decide, rfl⟩)
    (case x_WORDS => exact .cons ⟨_, rfl⟩ (.cons ⟨_, rfl⟩ (.cons ⟨_, rfl⟩ (.cons ⟨_, rfl⟩ (.cons ⟨_, rfl⟩ (.cons ⟨_, rfl⟩ (.nil)))))))
    (case z_SHAPES => first | rfl | k_is)
    (case u_SHAPES => first | rfl | k_is)
    (case v_SHAPES => exact ⟨⟨_, _, rfl, rfl⟩, ⟨⟨_, _, rfl, rfl⟩, ⟨⟨_, _, rfl, rfl⟩, ⟨⟨_, _, rfl, rfl⟩, ⟨⟨_, _, rfl, rfl⟩, ⟨⟨_, _, rfl, rfl⟩, True.intro⟩⟩⟩⟩⟩⟩)
    (case w_SHAPES => first | rfl | decide)
    (case x_SHAPES => exact Nx.Paired.cons' ⟨_, rfl⟩ ⟨_, rfl⟩ (Nx.Paired.cons' ⟨_, rfl⟩ ⟨_, rfl⟩ (Nx.Paired.cons' ⟨_, rfl⟩ ⟨_, rfl⟩ (Nx.Paired.cons' ⟨_, rfl⟩ ⟨_, rfl⟩ (Nx.Paired.cons' ⟨_, rfl⟩ ⟨_, rfl⟩ (Nx.Paired.cons' ⟨_, rfl⟩ ⟨_, rfl⟩ (.nil)))))))
    (case z_CODE_OF_FIRST => first | rfl | k_is)
    (case u_CODE_OF_FIRST => first | rfl | k_is)
    (case v_CODE_OF_FIRST => exact ⟨rfl, rfl, by decide, rfl⟩)
    (case x_CODE_OF_FIRST => exact .cons rfl (.cons rfl (.cons rfl (.nil))))
    (case u_CODE_OF_FIRST_0 => first | rfl | k_is)
    (case v_CODE_OF_FIRST_0 => exact ⟨rfl, rfl, by decide, rfl⟩)
    (case x_CODE_OF_FIRST_0 => exact .cons ⟨_, rfl⟩ (.cons ⟨_, rfl⟩ (.cons ⟨_, rfl⟩ (.nil))))
    (case u_CODE_OF_FIRST_1 => first | rfl | k_is)
    (case v_CODE_OF_FIRST_1 => exact ⟨rfl, rfl, by decide, rfl⟩)
    (case x_CODE_OF_FIRST_1 => exact .cons ⟨_, rfl⟩ (.cons ⟨_, rfl⟩ (.cons ⟨_, rfl⟩ (.cons ⟨_, rfl⟩ (.nil)))))
    (case u_CODE_OF_FIRST_2 => first | rfl | k_is)
    (case v_CODE_OF_FIRST_2 => exact ⟨rfl, rfl, by decide, rfl⟩)
    (case x_CODE_OF_FIRST_2 => exact .cons ⟨_, rfl⟩ (.cons ⟨_, rfl⟩ (.cons ⟨_, rfl⟩ (.cons ⟨_, rfl⟩ (.nil)))))
    (case y_TooLarge_x => k_exc)
    (case y_TooLarge_k => first | rfl | k_is)
    (case y_TooLarge_b => first | rfl | k_is)
    (case y_TooLarge_t => first | rfl | k_is)
    (case y_TooLarge_ga => first | rfl | k_is)
    (case y_TooLarge_gt => first | rfl | k_is)
    (case y_TooLarge_hd => first | rfl | k_is)
    (case y_TooLarge_ca => first | rfl | k_is)
    (case y_TooLarge_sg => first | rfl | k_is)
    (case y_TooLarge_ta => first | rfl | k_is)
    (case y_TooLarge_mr => first | rfl | k_is)
    (case y_TooLarge_k_TooLarge => first | rfl | k_is)
    (case y_TooLarge_s_TooLarge => first | rfl | k_is)
    (case y_TooLarge_k_TooWide => first | rfl | k_is)
    (case y_TooLarge_s_TooWide => first | rfl | k_is)
    (case y_TooWide_x => k_exc)
    (case y_TooWide_k => first | rfl | k_is)
    (case y_TooWide_b => first | rfl | k_is)
    (case y_TooWide_t => first | rfl | k_is)
    (case y_TooWide_ga => first | rfl | k_is)
    (case y_TooWide_gt => first | rfl | k_is)
    (case y_TooWide_hd => first | rfl | k_is)
    (case y_TooWide_ca => first | rfl | k_is)
    (case y_TooWide_sg => first | rfl | k_is)
    (case y_TooWide_ta => first | rfl | k_is)
    (case y_TooWide_mr => first | rfl | k_is)
    (case y_TooWide_k_TooLarge => first | rfl | k_is)
    (case y_TooWide_s_TooLarge => first | rfl | k_is)
    (case y_TooWide_k_TooWide => first | rfl | k_is)
    (case y_TooWide_s_TooWide => first | rfl | k_is)
