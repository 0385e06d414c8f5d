import PyProof.Rows.All
import Wide.All
import OpenK.AllK
import Wide.FinOn
import HandS.ForMost
import HandS.StrMore
import HandS.IsInst
import HandS.TupLe
import HandS.Evl
import HandS.Zip
import HandS.More
import HandS.Strs
import KE.GoesMore
import KE.GoesZip
import KE.GoesEnum
import HandS.Text
import HandS.ExcIs
import HandS.TryOnly
import HandS.ExcOwn
import HandS.WordsExc
import HandS.TupAny
import HandS.Deep
import HandS.Exc
import HandS.Walk
import KE.KIndexOf
import HandS.TupMul
import HandS.Rev
import HandS.TryMany
import PyProof.FactsAll.subtypes_3
import PyProof.FactsAll.str_2
import KE.DataMinMax
import PyProof.Rows.CallKwBuiltin
import HandS.Star
import HandS.Dict
import HandS.Words
import HandS.Flt
import HandS.Gcd
import KE.KMathGC
import KE.LtSeq
import PyProof.EqKinds
import PySem.Challenge.RW_narcissus_k41_counts_and_ranks
set_option Elab.async false
set_option linter.all false
set_option maxRecDepth 100000
set_option maxHeartbeats 4000000
/-! Trees as signs. -/
namespace Nx
open PySem
inductive Tr where
  | leaf
  | node (l r : Tr)
  deriving DecidableEq
def Tr.sg : Tr → List Nat
  | .leaf => [48]
  | .node l r => 49 :: (l.sg ++ r.sg)
def Tr.pairs : Tr → Nat
  | .leaf => 0
  | .node l r => l.pairs + r.pairs + 1
def Tr.hd : Tr → Tr
  | .leaf => .leaf
  | .node l _ => l
def Tr.tl : Tr → Tr
  | .leaf => .leaf
  | .node _ r => r
def stS (l : List Nat) : Str := ⟨l.toArray⟩
def Tr.str (t : Tr) : Str := stS t.sg
theorem stS_list (l : List Nat) : (stS l).cps.toList = l := rfl
theorem stS_len (l : List Nat) : (stS l).length = l.length := by
  show l.toArray.size = l.length
  simp
theorem stS_of (x : Str) : stS x.cps.toList = x := by
  cases x
  rfl
theorem stS_inj {a b : List Nat} (h : stS a = stS b) : a = b := by
  have := congrArg (fun x : Str => x.cps.toList) h
  exact this
theorem stS_app (a b : List Nat) : stS a ++ stS b = stS (a ++ b) := by
  show (⟨a.toArray ++ b.toArray⟩ : Str) = ⟨(a ++ b).toArray⟩
  simp
theorem Tr.sg_len (t : Tr) : t.sg.length = 2 * t.pairs + 1 := by
  induction t with
  | leaf => rfl
  | node l r h1 h2 =>
    show (l.sg ++ r.sg).length + 1 = 2 * (l.pairs + r.pairs + 1) + 1
    rw [List.length_append, h1, h2]
    omega
def all01 (l : List Nat) : Prop := ∀ c ∈ l, c = 48 ∨ c = 49
theorem all01_append {a b : List Nat} : all01 (a ++ b) ↔ all01 a ∧ all01 b := by
  unfold all01
  constructor
  · intro h
    exact ⟨fun c hc => h c (List.mem_append.mpr (.inl hc)), fun c hc => h c (List.mem_append.mpr (.inr hc))⟩
  · rintro ⟨h1, h2⟩ c hc
    rcases List.mem_append.mp hc with h | h
    · exact h1 c h
    · exact h2 c h
theorem Tr.sg_01 (t : Tr) : all01 t.sg := by
  induction t with
  | leaf =>
    intro c hc
    simp [Tr.sg] at hc
    exact .inl hc
  | node l r h1 h2 =>
    intro c hc
    rcases List.mem_cons.mp hc with h | h
    · exact .inr h
    · exact (all01_append.mpr ⟨h1, h2⟩) c h
/-- how many signs the first w trees of a row take; beyond it one for each tree that lacks -/
def fin : Nat → List Nat → Nat
  | 0, _ => 0
  | w + 1, [] => w + 1
  | w + 1, c :: r => 1 + fin (if c = 49 then w + 2 else w) r
theorem fin_zero (l : List Nat) : fin 0 l = 0 := by
  cases l <;> rfl
theorem fin_nil (w : Nat) : fin w [] = w := by
  cases w <;> rfl
theorem fin_app : ∀ (a b : List Nat) (w : Nat), a.length ≤ w → fin w (a ++ b) = a.length + fin (w - a.length + 2 * a.count 49) b
  | [], b, w, _ => by simp
  | c :: a, b, 0, h => by simp at h
  | c :: a, b, w + 1, h => by
    have h1 : a.length ≤ w := by simpa using h
    show 1 + fin (if c = 49 then w + 2 else w) (a ++ b) = _
    by_cases e : c = 49
    · subst e
      rw [if_pos rfl, fin_app a b (w + 2) (by omega), List.count_cons_self, List.length_cons]
      rw [show w + 2 - a.length + 2 * a.count 49 = w + 1 - (a.length + 1) + 2 * (a.count 49 + 1) by omega]
      omega
    · rw [if_neg e, fin_app a b w h1, List.count_cons_of_ne (fun q => e q), List.length_cons]
      rw [show w - a.length + 2 * a.count 49 = w + 1 - (a.length + 1) + 2 * a.count 49 by omega]
      omega
theorem fin_short {a : List Nat} {w : Nat} (h : a.length ≤ w) : fin w a = w + 2 * a.count 49 := by
  have e := fin_app a [] w h
  rw [List.append_nil, fin_nil] at e
  omega
theorem fin_tree : ∀ (t : Tr) (r : List Nat) (w : Nat), fin (w + 1) (t.sg ++ r) = t.sg.length + fin w r
  | .leaf, r, w => by
    show 1 + fin (if 48 = 49 then w + 2 else w) r = 1 + fin w r
    rfl
  | .node a b, r, w => by
    show 1 + fin (if 49 = 49 then w + 2 else w) ((a.sg ++ b.sg) ++ r) = ((a.sg ++ b.sg).length + 1) + fin w r
    rw [if_pos rfl, List.append_assoc, fin_tree a _ (w + 1), fin_tree b r w, List.length_append]
    omega
theorem fin_one (t : Tr) (r : List Nat) : fin 1 (t.sg ++ r) = t.sg.length := by
  rw [fin_tree t r 0, fin_zero, Nat.add_zero]
theorem fin_pos {w : Nat} (h : 0 < w) : ∀ l : List Nat, 0 < fin w l := fun l => by
  cases w with
  | zero => omega
  | succ w =>
    cases l with
    | nil =>
      rw [fin_nil]
      omega
    | cons c r =>
      show 0 < 1 + _
      omega
theorem parse_of : ∀ (n : Nat) (l : List Nat) (w : Nat), l.length ≤ n → all01 l → fin (w + 1) l ≤ l.length → ∃ (t : Tr) (r : List Nat), l = t.sg ++ r
  | n, [], w, _, _, h => by
    rw [fin_nil] at h
    simp at h
  | 0, c :: l, w, hn, _, _ => by simp at hn
  | n + 1, c :: l, w, hn, ha, h => by
    have hl : l.length ≤ n := by simpa using hn
    have ha' : all01 l := fun d hd => ha d (List.mem_cons_of_mem _ hd)
    rcases ha c (List.mem_cons_self ..) with e | e
    · subst e
      exact ⟨.leaf, l, rfl⟩
    · subst e
      have h' : 1 + fin (w + 1 + 1) l ≤ l.length + 1 := h
      obtain ⟨t1, r1, e1⟩ := parse_of n l (w + 1) hl ha' (by omega)
      rw [e1, fin_tree t1 r1 (w + 1)] at h'
      have z : l.length = t1.sg.length + r1.length := by rw [e1, List.length_append]
      have h2 : fin (w + 1) r1 ≤ r1.length := by
        rw [List.length_append] at h'
        omega
      have h3 : all01 r1 := (all01_append.mp (e1 ▸ ha')).2
      obtain ⟨t2, r2, e2⟩ := parse_of n r1 w (by omega) h3 h2
      refine ⟨.node t1 t2, r2, ?_⟩
      show 49 :: l = 49 :: ((t1.sg ++ t2.sg) ++ r2)
      rw [e1, e2, List.append_assoc]
theorem isT_iff (l : List Nat) : (all01 l ∧ fin 1 l = l.length) ↔ ∃ t : Tr, l = t.sg := by
  constructor
  · rintro ⟨ha, h⟩
    obtain ⟨t, r, e⟩ := parse_of l.length l 0 (Nat.le_refl _) ha (by show fin 1 l ≤ l.length; omega)
    have e2 : fin 1 l = t.sg.length := by rw [e, fin_one]
    have e3 : l.length = t.sg.length + r.length := by rw [e, List.length_append]
    have e4 : r = [] := List.length_eq_zero_iff.mp (by omega)
    exact ⟨t, by rw [e, e4, List.append_nil]⟩
  · rintro ⟨t, rfl⟩
    refine ⟨t.sg_01, ?_⟩
    have := fin_one t []
    rw [List.append_nil] at this
    exact this
theorem Tr.count_1 (t : Tr) : t.sg.count 49 = t.pairs := by
  induction t with
  | leaf => rfl
  | node l r h1 h2 =>
    show (49 :: (l.sg ++ r.sg)).count 49 = l.pairs + r.pairs + 1
    rw [List.count_cons_self, List.count_append, h1, h2]
/-- l is a beginning of a tree in which m trees are still wanted -/
def Opn (l : List Nat) (m : Nat) : Prop := all01 l ∧ (∀ r, fin 1 (l ++ r) = l.length + fin m r) ∧ l.length + m = 2 * l.count 49 + 1
theorem Opn.nil : Opn [] 1 := ⟨fun _ h => (by cases h), fun r => (by show fin 1 r = 0 + fin 1 r; omega), rfl⟩
theorem Opn.one {l : List Nat} {m : Nat} (h : Opn l (m + 1)) : Opn (l ++ [49]) (m + 2) := by
  obtain ⟨h1, h2, h3⟩ := h
  refine ⟨all01_append.mpr ⟨h1, fun c hc => by simp at hc; exact .inr hc⟩, fun r => ?_, ?_⟩
  · rw [List.append_assoc, h2, List.length_append]
    show l.length + (1 + fin (if 49 = 49 then m + 2 else m) r) = l.length + 1 + fin (m + 2) r
    rw [if_pos rfl]
    omega
  · rw [List.length_append, List.count_append]
    show l.length + 1 + (m + 2) = 2 * (l.count 49 + 1) + 1
    omega
theorem Opn.zero {l : List Nat} {m : Nat} (h : Opn l (m + 1)) : Opn (l ++ [48]) m := by
  obtain ⟨h1, h2, h3⟩ := h
  refine ⟨all01_append.mpr ⟨h1, fun c hc => by simp at hc; exact .inl hc⟩, fun r => ?_, ?_⟩
  · rw [List.append_assoc, h2, List.length_append]
    show l.length + (1 + fin (if 48 = 49 then m + 2 else m) r) = l.length + 1 + fin m r
    rw [if_neg (by decide)]
    omega
  · rw [List.length_append, List.count_append]
    show l.length + 1 + m = 2 * (l.count 49 + 0) + 1
    omega
theorem Opn.done {l : List Nat} (h : Opn l 0) : ∃ t : Tr, l = t.sg := by
  obtain ⟨h1, h2, h3⟩ := h
  refine (isT_iff l).mp ⟨h1, ?_⟩
  have := h2 []
  rw [List.append_nil, fin_zero] at this
  exact this
def repL (n : Nat) (l : List Nat) : List Nat := (List.replicate n l).flatten
theorem repL_len (n : Nat) (l : List Nat) : (repL n l).length = n * l.length := by
  unfold repL
  induction n with
  | zero => simp
  | succ n ih =>
    rw [List.replicate_succ, List.flatten_cons, List.length_append, ih, Nat.succ_mul]
    omega
theorem leaf_or {t : Tr} : (t = .leaf ∧ t.hd = .leaf ∧ t.tl = .leaf) ∨ ∃ a b, t = .node a b := by
  cases t with
  | leaf => exact .inl ⟨rfl, rfl, rfl⟩
  | node a b => exact .inr ⟨a, b, rfl⟩
theorem node_hd (a b : Tr) : ((Tr.node a b).sg.drop 1).take (1 + fin 1 ((Tr.node a b).sg.drop 1) - 1) = a.sg := by
  show (a.sg ++ b.sg).take (1 + fin 1 (a.sg ++ b.sg) - 1) = a.sg
  rw [fin_one, Nat.add_sub_cancel_left, List.take_left']
  rfl
theorem node_tl (a b : Tr) : (Tr.node a b).sg.drop (1 + fin 1 ((Tr.node a b).sg.drop 1)) = b.sg := by
  show (49 :: (a.sg ++ b.sg)).drop (1 + fin 1 (a.sg ++ b.sg)) = b.sg
  rw [fin_one, Nat.add_comm, List.drop_succ_cons, List.drop_left']
  rfl
theorem node_fin (a b : Tr) : fin 1 ((Tr.node a b).sg.drop 1) ≤ ((Tr.node a b).sg.drop 1).length := by
  show fin 1 (a.sg ++ b.sg) ≤ (a.sg ++ b.sg).length
  rw [fin_one, List.length_append]
  omega
theorem node_ne (a b : Tr) : (Tr.node a b).str ≠ stS [48] := fun h => by
  have := (List.cons.inj (stS_inj h)).1
  omega
/-- the number n as a tree -/
def numT : Nat → Tr
  | 0 => .leaf
  | n + 1 => .node .leaf (numT n)
theorem numT_sg (n : Nat) : (numT n).sg = repL n [49, 48] ++ [48] := by
  induction n with
  | zero => rfl
  | succ n ih =>
    show 49 :: ([48] ++ (numT n).sg) = _
    unfold repL at ih ⊢
    rw [ih, List.replicate_succ, List.flatten_cons]
    rfl
theorem numT_len (n : Nat) : (numT n).sg.length = 2 * n + 1 := by
  rw [numT_sg, List.length_append, repL_len]
  show n * 2 + 1 = 2 * n + 1
  omega
/-- n pairs with the leaf as their heads, and t behind them -/
def numOn : Nat → Tr → Tr
  | 0, t => t
  | n + 1, t => .node .leaf (numOn n t)
theorem numOn_sg (n : Nat) (t : Tr) : (numOn n t).sg = repL n [49, 48] ++ t.sg := by
  induction n with
  | zero => rfl
  | succ n ih =>
    show 49 :: ([48] ++ (numOn n t).sg) = _
    unfold repL at ih ⊢
    rw [ih, List.replicate_succ, List.flatten_cons]
    rfl
theorem numOn_ne : ∀ (n k : Nat) (a b c : Tr), numOn n (.node (.node a b) c) ≠ numT k
  | 0, 0, _, _, _, h => by cases h
  | 0, k + 1, a, b, c, h => by
    have := (Tr.node.inj h).1
    cases this
  | n + 1, 0, _, _, _, h => by cases h
  | n + 1, k + 1, a, b, c, h => numOn_ne n k a b c (Tr.node.inj h).2
theorem numT_inj {a b : Nat} (h : numT a = numT b) : a = b := by
  have := congrArg (fun t : Tr => t.sg.length) h
  simp only [numT_len] at this
  omega
/-- the list of some trees -/
def lstT : List Tr → Tr
  | [] => .leaf
  | t :: r => .node t (lstT r)
def Tr.items : Tr → List Tr
  | .leaf => []
  | .node a b => a :: b.items
theorem items_lstT (ts : List Tr) : (lstT ts).items = ts := by
  induction ts with
  | nil => rfl
  | cons t r ih =>
    show t :: (lstT r).items = t :: r
    rw [ih]
theorem lstT_items (t : Tr) : lstT t.items = t := by
  induction t with
  | leaf => rfl
  | node a b _ ih =>
    show Tr.node a (lstT b.items) = .node a b
    rw [ih]
theorem lstT_sg (ts : List Tr) : (lstT ts).sg = (ts.map fun t => 49 :: t.sg).flatten ++ [48] := by
  induction ts with
  | nil => rfl
  | cons t r ih =>
    show 49 :: (t.sg ++ (lstT r).sg) = _
    rw [ih, List.map_cons, List.flatten_cons, List.append_assoc]
    rfl
theorem lstT_len (ts : List Tr) : (lstT ts).sg.length = ts.length + (ts.map fun t => t.sg.length).sum + 1 := by
  induction ts with
  | nil => rfl
  | cons t r ih =>
    show (t.sg ++ (lstT r).sg).length + 1 = _
    rw [List.length_append, ih, List.map_cons, List.sum_cons, List.length_cons]
    omega
theorem items_le (t : Tr) : t.items.length ≤ t.pairs := by
  induction t with
  | leaf => exact Nat.le_refl _
  | node a b _ ih =>
    show b.items.length + 1 ≤ a.pairs + b.pairs + 1
    omega
/-- nested in the heads -/
def chT : Nat → Tr
  | 0 => .leaf
  | n + 1 => .node (chT n) .leaf
theorem chT_sg (n : Nat) : (chT n).sg = List.replicate n 49 ++ List.replicate (n + 1) 48 := by
  induction n with
  | zero => rfl
  | succ n ih =>
    show 49 :: ((chT n).sg ++ [48]) = _
    rw [ih, List.replicate_succ, List.append_assoc, List.replicate_succ' (n := n + 1)]
    rfl
theorem repL_one (n c : Nat) : repL n [c] = List.replicate n c := by
  unfold repL
  induction n with
  | zero => rfl
  | succ n ih =>
    rw [List.replicate_succ, List.flatten_cons, ih, List.replicate_succ]
    rfl
/-- reading sign by sign: how many trees are wanted behind l, none where it can't go on -/
def scan : Nat → List Nat → Option Nat
  | m, [] => some m
  | m, c :: r => if m = 0 ∨ ¬ (c = 48 ∨ c = 49) then none else scan (if c = 48 then m - 1 else m + 1) r
theorem scan_iff : ∀ (l : List Nat) (m : Nat), scan m l = some 0 ↔ (all01 l ∧ fin m l = l.length)
  | [], m => by
    show some m = some 0 ↔ _
    rw [fin_nil]
    constructor
    · intro h
      exact ⟨fun c hc => (by cases hc), Option.some.inj h⟩
    · intro h
      rw [h.2]
      rfl
  | c :: r, m => by
    show (if m = 0 ∨ ¬ (c = 48 ∨ c = 49) then none else scan (if c = 48 then m - 1 else m + 1) r) = some 0 ↔ _
    by_cases hm : m = 0
    · rw [if_pos (.inl hm), hm, fin_zero]
      constructor
      · intro h
        cases h
      · intro h
        have := h.2
        simp at this
    · by_cases hc : c = 48 ∨ c = 49
      · rw [if_neg (by rintro (h | h); exact hm h; exact h hc), scan_iff r]
        obtain ⟨k, rfl⟩ : ∃ k, m = k + 1 := ⟨m - 1, by omega⟩
        have ha : all01 (c :: r) ↔ all01 r := by
          constructor
          · intro h d hd
            exact h d (List.mem_cons_of_mem _ hd)
          · intro h d hd
            rcases List.mem_cons.mp hd with e | e
            · rw [e]
              exact hc
            · exact h d e
        rw [ha]
        show _ ↔ all01 r ∧ 1 + fin (if c = 49 then k + 2 else k) r = r.length + 1
        rcases hc with e | e
        · subst e
          rw [if_pos rfl, if_neg (by decide), Nat.add_sub_cancel]
          constructor
          · intro h
            exact ⟨h.1, by omega⟩
          · intro h
            exact ⟨h.1, by omega⟩
        · subst e
          rw [if_neg (by decide), if_pos rfl]
          constructor
          · intro h
            exact ⟨h.1, by have := h.2; show 1 + fin (k + 1 + 1) r = r.length + 1; omega⟩
          · intro h
            exact ⟨h.1, by have : 1 + fin (k + 1 + 1) r = r.length + 1 := h.2; omega⟩
      · rw [if_pos (.inr hc)]
        constructor
        · intro h
          cases h
        · intro h
          exact absurd (h.1 c (List.mem_cons_self ..)) hc
theorem count_01 : ∀ l : List Nat, l.count 48 + l.count 49 = l.length ↔ all01 l
  | [] => by
    constructor
    · intro _ c hc
      cases hc
    · intro _
      rfl
  | c :: r => by
    have ih := count_01 r
    have h1 : r.count 48 + r.count 49 ≤ r.length := count_le r
    by_cases e : c = 48
    · subst e
      rw [List.count_cons_self, List.count_cons_of_ne (by decide), List.length_cons]
      constructor
      · intro h d hd
        rcases List.mem_cons.mp hd with z | z
        · exact .inl z
        · exact ih.mp (by omega) d z
      · intro h
        have := ih.mpr fun d hd => h d (List.mem_cons_of_mem _ hd)
        omega
    · by_cases e2 : c = 49
      · subst e2
        rw [List.count_cons_self, List.count_cons_of_ne (by decide), List.length_cons]
        constructor
        · intro h d hd
          rcases List.mem_cons.mp hd with z | z
          · exact .inr z
          · exact ih.mp (by omega) d z
        · intro h
          have := ih.mpr fun d hd => h d (List.mem_cons_of_mem _ hd)
          omega
      · rw [List.count_cons_of_ne (fun z => e z), List.count_cons_of_ne (fun z => e2 z), List.length_cons]
        constructor
        · intro h
          omega
        · intro h
          rcases h c (List.mem_cons_self ..) with z | z
          · exact absurd z e
          · exact absurd z e2
where
  count_le : ∀ r : List Nat, r.count 48 + r.count 49 ≤ r.length
    | [] => Nat.le_refl _
    | c :: r => by
      have := count_le r
      by_cases e : c = 48
      · subst e
        rw [List.count_cons_self, List.count_cons_of_ne (by decide), List.length_cons]
        omega
      · by_cases e2 : c = 49
        · subst e2
          rw [List.count_cons_self, List.count_cons_of_ne (by decide), List.length_cons]
          omega
        · rw [List.count_cons_of_ne (fun z => e z), List.count_cons_of_ne (fun z => e2 z), List.length_cons]
          omega
/-- whether signs are those of a tree -/
def isT (l : List Nat) : Bool := (l.all fun c => c == 48 || c == 49) && (fin 1 l == l.length)
theorem all01_iff (l : List Nat) : (l.all fun c => c == 48 || c == 49) = true ↔ all01 l := by
  rw [List.all_eq_true]
  unfold all01
  constructor
  · intro h c hc
    have := h c hc
    simpa using this
  · intro h c hc
    have := h c hc
    simpa using this
theorem isT_true (l : List Nat) : isT l = true ↔ ∃ t : Tr, l = t.sg := by
  rw [← isT_iff]
  unfold isT
  rw [Bool.and_eq_true, all01_iff, beq_iff_eq]
theorem isT_scan (l : List Nat) : isT l = decide (scan 1 l = some 0) := by
  rw [Bool.eq_iff_iff, isT_true, decide_eq_true_eq, scan_iff, isT_iff]
theorem isT_sg (t : Tr) : isT t.sg = true := (isT_true _).mpr ⟨t, rfl⟩
theorem scan_none : ∀ (a b : List Nat) (m : Nat), scan m a = none → scan m (a ++ b) = none
  | [], b, m, h => by cases h
  | c :: a, b, m, h => by
    show (if m = 0 ∨ ¬ (c = 48 ∨ c = 49) then none else scan (if c = 48 then m - 1 else m + 1) (a ++ b)) = none
    have h' : (if m = 0 ∨ ¬ (c = 48 ∨ c = 49) then none else scan (if c = 48 then m - 1 else m + 1) a) = none := h
    by_cases hc : m = 0 ∨ ¬ (c = 48 ∨ c = 49)
    · rw [if_pos hc]
    · rw [if_neg hc] at h' ⊢
      exact scan_none a b _ h'
theorem scan_app : ∀ (a b : List Nat) (m k : Nat), scan m a = some k → scan m (a ++ b) = scan k b
  | [], b, m, k, h => by
    have : m = k := Option.some.inj h
    rw [this]
    rfl
  | c :: a, b, m, k, h => by
    show (if m = 0 ∨ ¬ (c = 48 ∨ c = 49) then none else scan (if c = 48 then m - 1 else m + 1) (a ++ b)) = _
    have h' : (if m = 0 ∨ ¬ (c = 48 ∨ c = 49) then none else scan (if c = 48 then m - 1 else m + 1) a) = some k := h
    by_cases hc : m = 0 ∨ ¬ (c = 48 ∨ c = 49)
    · rw [if_pos hc] at h'
      cases h'
    · rw [if_neg hc] at h' ⊢
      exact scan_app a b _ k h'
theorem sg_inj : ∀ {t u : Tr} {r s : List Nat}, t.sg ++ r = u.sg ++ s → t = u ∧ r = s
  | .leaf, .leaf, r, s, h => ⟨rfl, (List.cons.inj h).2⟩
  | .leaf, .node a b, r, s, h => by
    have := (List.cons.inj h).1
    omega
  | .node a b, .leaf, r, s, h => by
    have := (List.cons.inj h).1
    omega
  | .node a b, .node c d, r, s, h => by
    have h1 : (a.sg ++ b.sg) ++ r = (c.sg ++ d.sg) ++ s := (List.cons.inj h).2
    rw [List.append_assoc, List.append_assoc] at h1
    obtain ⟨e1, h2⟩ := sg_inj h1
    obtain ⟨e2, h3⟩ := sg_inj h2
    rw [e1, e2]
    exact ⟨rfl, h3⟩
theorem Tr.sg_inj {t u : Tr} (h : t.sg = u.sg) : t = u := by
  have := Nx.sg_inj (t := t) (u := u) (r := []) (s := []) (by rw [List.append_nil, List.append_nil]; exact h)
  exact this.1
theorem Tr.str_inj {t u : Tr} (h : t.str = u.str) : t = u := Tr.sg_inj (stS_inj h)
theorem Tr.str_len (t : Tr) : t.str.length = t.sg.length := stS_len _
end Nx

/-! Further rules, and what they say of signs. -/
namespace Nx
open PySem PySem.Spec PyProof.Rows L2 TL
theorem foldl_app {α : Type} : ∀ (ls : List (Array α)) (a : Array α), (ls.foldl (· ++ ·) a).toList = a.toList ++ (ls.map (·.toList)).flatten
  | [], a => by simp
  | x :: r, a => by
    rw [List.foldl_cons, foldl_app r (a ++ x)]
    simp
theorem mul_rep (x : Str) (n : Int) : Txt.mul x n = stS (repL n.toNat x.cps.toList) := by
  unfold Txt.mul repL
  by_cases h1 : n < 1
  · rw [if_pos h1, show n.toNat = 0 by omega]
    rfl
  · rw [if_neg h1]
    by_cases h2 : (n == 1 || x.length == 0) = true
    · rw [if_pos h2]
      have h3 : n = 1 ∨ x.length = 0 := by simpa using h2
      rcases h3 with h3 | h3
      · subst h3
        show x = stS (List.replicate 1 x.cps.toList).flatten
        rw [List.replicate_one, List.flatten_singleton, stS_of]
      · have h4 : x.cps.toList = [] := by
          have : x.cps.size = 0 := h3
          exact List.length_eq_zero_iff.mp (by rw [Array.length_toList]; exact this)
        rw [h4]
        have h5 : (List.replicate n.toNat ([] : List Nat)).flatten = [] := by simp
        rw [h5]
        have := stS_of x
        rw [h4] at this
        exact this.symm
    · rw [if_neg h2]
      have e : (⟨(List.replicate n.toNat x.cps).foldl (· ++ ·) #[]⟩ : Str) = stS ((List.replicate n.toNat x.cps).foldl (· ++ ·) #[]).toList := (stS_of _).symm
      rw [e, foldl_app, List.map_replicate]
      rfl
/-- a def that stands at a name and keeps a promise -/
structure Has (P : Program) (w : World) (K : PySem.W.Frag) (mg : Str → Option Value) (base : Heap) (CX : CXT) (k : Nat) (x : Str) (ps : List Str) (sp : Sp) : Prop where
  ex : ∃ f fd, FnOk P w K mg base CX k f fd ps sp ∧ mg x = some (.ref f) ∧ PySem.W.keepIn K (.ref f) = true ∧ Binds K fd ps []
/-- a method of a class, an __init__ -/
structure HasM (P : Program) (w : World) (K : PySem.W.Frag) (C : Addr) (mg : Str → Option Value) (base : Heap) (CX : CXT) (k : Nat) (m : Str) (ps : List Str) (sp : Sp) : Prop where
  ex : ∃ f fd, FnOk P w K mg base CX k f fd ps sp ∧ Meth K C m f ∧ Binds K fd ps []
structure HasI (P : Program) (w : World) (K : PySem.W.Frag) (C : Addr) (mg : Str → Option Value) (base : Heap) (CX : CXT) (k : Nat) (ps : List Str) (sp : Sp) : Prop where
  ex : ∃ f fd, FnOk P w K mg base CX k f fd ps sp ∧ Mk K C f ∧ Binds K fd ps []
section
variable {X : Cx}
def rLenS (K : PySem.W.Frag) : List V → Hp → VK → Prop := fun xs H Q => ∃ p ys, xs = [.ref p] ∧ (SqL K H p ys ∨ SqT K H p ys) ∧ Q (.int ys.length) H
def rListOf (K : PySem.W.Frag) : List V → Hp → VK → Prop := fun xs H Q => ∃ p ys, xs = [.ref p] ∧ (SqL K H p ys ∨ SqT K H p ys) ∧ ∀ l, H l = none → Q (.ref l) (upd H l (.lst ys))
theorem call_listOf : CallR X (.type "list") (rListOf X.K) := call_list_of
def rTupOf (K : PySem.W.Frag) : List V → Hp → VK → Prop := fun xs H Q => ∃ p ys, xs = [.ref p] ∧ ((SqL K H p ys ∧ ∀ l, H l = none → Q (.ref l) (upd H l (.tup ys))) ∨ (SqT K H p ys ∧ Q (.ref p) H))
theorem call_tupleOf : CallR X (.type "tuple") (rTupOf X.K) := call_tuple_of
theorem call_lenS : CallR X (.builtin "len") (rLenS X.K) := call_len_seq
/-- a test, an expression, with a word behind it: what follows is shown once, from the word -/
def tMid (t : TT) : TT := fun σ H Q => ∃ M : Bool → Hp → Prop, t σ H M ∧ ∀ b H', M b H' → Q b H'
def eMid (t : TE) : TE := fun σ H Q => ∃ M : V → Hp → Prop, t σ H M ∧ ∀ v H', M v H' → Q v H'
theorem pt_mid {e : Expr} {t : TT} (h : PT X e t) : PT X e (tMid t) := ⟨fun pins s σ H Q I ⟨M, hm, k⟩ => thn (h.run pins s σ H M I hm) fun b s1 ⟨H1, I1, q⟩ => ⟨H1, I1, k b H1 q⟩⟩
theorem pe_mid {e : Expr} {t : TE} (h : PE X e t) : PE X e (eMid t) := ⟨fun pins s σ H Q I ⟨M, hm, k⟩ => thn (h.run pins s σ H M I hm) fun u s1 ⟨v, H1, I1, r, q⟩ => ⟨v, H1, I1, r, k v H1 q⟩⟩
theorem op_mulS : OpR X (binaryOp .Mult) (fun x y H Q => ∃ (z : Str) (n : Int), x = .str z ∧ y = .int n ∧ -(2 ^ 62) ≤ n ∧ n < 2 ^ 62 ∧ z.length * n.toNat ≤ sizeLine ∧ Q (.str (stS (repL n.toNat z.cps.toList))) H) := by
  intro pins s σ H x y v u Q I rx ry h
  obtain ⟨z, n, rfl, rfl, h1, h2, hz, q⟩ := h
  obtain ⟨t, rfl⟩ := rx
  obtain ⟨t', rfl⟩ := ry
  rw [← mul_rep] at q
  refine PySem.SB.mul ⟨?_, ?_, ?_⟩ fun t' k => ⟨.str (Txt.mul z n), H, I.tok _, ⟨_, rfl⟩, q⟩
  · rw [decide_eq_false (by omega), decide_eq_false (by omega)]
    rfl
  · intro n1 n2 n3
    have h3 : 1 ≤ n := by omega
    have h4 : (n.toNat : Int) = n := by omega
    have h5 : ((z.length * n.toNat : Nat) : Int) ≤ (sizeLine : Int) := by exact_mod_cast hz
    rw [Int.natCast_mul, h4] at h5
    have h6 : (sizeLine : Int) ≤ 2 ^ 62 := by decide
    have h7 : (z.length : Int) * n ≤ 2 ^ 63 - 1 := by omega
    have h8 : (z.length : Int) ≤ (2 ^ 63 - 1) / n := (Int.le_ediv_iff_mul_le (by omega)).mpr h7
    omega
  · intro _ _
    show decide (z.length * n.toNat > sizeLine) = false
    exact decide_eq_false (by omega)
end
/-- a loop over a text's signs: what is done, what is left -/
theorem for_str {x : Str} {g : TG} {tb : TS} {D : Ends} {σ : L2.St} {H : Hp} (Pv : List Nat → List Nat → L2.St → Hp → Prop) (h0 : Pv [] x.cps.toList σ H)
    (hs : ∀ a c r σ H, a ++ c :: r = x.cps.toList → Pv a (c :: r) σ H → g (.str (stS [c])) σ H fun σ2 H2 => tb { D with nx := Pv (a ++ [c]) r, ct := Pv (a ++ [c]) r, bk := D.nx } σ2 H2)
    (hd : ∀ σ H, Pv x.cps.toList [] σ H → D.nx σ H) :
    ∃ W : Nat → Nat → L2.St → Hp → Prop, (∃ m, W 0 m σ H) ∧ ∀ i m σ H, W i m σ H →
      ((Its x).stop i H ∧ D.nx σ H) ∨ ((Its x).go i H ∧ ∃ N : L2.St → Hp → Prop, (∀ σ' H', N σ' H' → ∃ m', m' < m ∧ W (i + 1) m' σ' H') ∧ ∀ v H', (Its x).yld i H v H' → g v σ H' fun σ2 H2 => tb { D with nx := N, ct := N, bk := D.nx } σ2 H2) := by
  have hz : x.cps.toList.length = x.cps.size := Array.length_toList
  refine ⟨fun i m σ H => m = x.cps.size - i ∧ i ≤ x.cps.size ∧ Pv (x.cps.toList.take i) (x.cps.toList.drop i) σ H, ⟨_, rfl, Nat.zero_le _, h0⟩, ?_⟩
  rintro i m σ H ⟨rfl, hi, p⟩
  by_cases hlt : i < x.cps.size
  · have hl : i < x.cps.toList.length := by omega
    have e1 := List.drop_eq_getElem_cons hl
    have e2 : x.cps.toList.take i ++ [x.cps.toList[i]] = x.cps.toList.take (i + 1) := by
      rw [List.take_add_one, List.getElem?_eq_getElem hl]
      rfl
    refine .inr ⟨hlt, Pv (x.cps.toList.take (i + 1)) (x.cps.toList.drop (i + 1)), fun σ' H' p' => ⟨x.cps.size - (i + 1), by omega, rfl, hlt, p'⟩, fun v H' y => ?_⟩
    obtain ⟨e, c, hc, y⟩ := y
    have ec : c = x.cps.toList[i] := by
      have : x.cps[i]? = some x.cps.toList[i] := by
        rw [← Array.getElem?_toList]
        exact List.getElem?_eq_getElem hl
      rw [hc] at this
      exact Option.some.inj this
    subst e y
    rw [ec]
    rw [e1] at p
    have := hs (x.cps.toList.take i) x.cps.toList[i] (x.cps.toList.drop (i + 1)) σ _ (by rw [← e1, List.take_append_drop]) p
    rw [e2] at this
    exact this
  · have e : i = x.cps.size := by omega
    subst e
    rw [← hz, List.take_length, List.drop_length] at p
    exact .inl ⟨Nat.le_refl _, hd σ H p⟩
/-! ### joined texts -/
theorem joinL_nil : ∀ ls : List (List Nat), joinL [] ls = ls.flatten
  | [] => rfl
  | [p] => by
    show p = p ++ []
    rw [List.append_nil]
  | p :: q :: r => by
    show p ++ ([] ++ joinL [] (q :: r)) = p ++ (q :: r).flatten
    rw [joinL_nil (q :: r), List.nil_append]
theorem join_none (xs : List Str) : Txt.join (Str.ofString "") xs = stS (xs.map fun x : Str => x.cps.toList).flatten := by
  rw [join_eq]
  have h := tl_join (Str.ofString "") xs
  rw [show tl (Str.ofString "") = [] by decide +kernel, joinL_nil] at h
  have e : Str.join (Str.ofString "") xs = stS (tl (Str.join (Str.ofString "") xs)) := (stS_of _).symm
  rw [e, h]
/-! ### comprehensions over a list whose elements change nothing known -/
theorem lc_map {K : PySem.W.Frag} {a : Addr} {xs : List V} {te : TE} {vs : List Nat} {j : Nat} {σ : L2.St} {H1 : Hp} {D : Addr} {Qd : Hp → Prop} (f : V → V) (hD : H1 D = none) (hs : SqL K H1 a xs) (hz : xs.length < sizeLine)
    (hw : ∀ x, wipe ((wipe σ vs).set j (some x)) vs = wipe σ vs) (he : ∀ x H', x ∈ xs → Same H1 H' → ∀ Q : VK, (∀ H2, Same H' H2 → Q (f x) H2) → te ((wipe σ vs).set j (some x)) H' Q)
    (hd : ∀ H', Same H1 H' → H' D = some (.lst (xs.map f)) → Qd H') :
    ∃ W : Nat → Nat → Hp → Prop, (∃ m, W 0 m (upd H1 D (.lst []))) ∧ ∀ i m H, W i m H →
      ((Itl K a).stop i H ∧ Qd H) ∨ ((Itl K a).go i H ∧ ∃ Nx : Hp → Prop, (∀ H', Nx H' → ∃ m', m' < m ∧ W (i + 1) m' H') ∧ ∀ x H', (Itl K a).yld i H x H' → (gName j) x (wipe σ vs) H' fun σ2 H2 => wipe σ2 vs = wipe σ vs ∧ tYes σ2 H2 fun b H3 =>
        if b = true then te σ2 H3 fun y H4 => ∃ acc, H4 D = some (.lst acc) ∧ acc.length < sizeLine ∧ Nx (upd H4 D (.lst (acc ++ [y]))) else Nx H3) := by
  have hu : ∀ {H' : Hp} {o : HO}, Same H1 H' → Same H1 (upd H' D o) := fun {H' o} e b x q => by
    rw [upd_ne (ne_of_none q hD)]
    exact e b x q
  refine lc_list (xs := xs) (fun i H' => Same H1 H' ∧ H' D = some (.lst ((xs.take i).map f))) ⟨hu (.refl _), upd_same⟩ (fun i H' _ p => p.1.seq hs) (fun i x H' hi p => ?_) (fun H' p => ?_)
  · refine ⟨hw x, ?_⟩
    simp only [tYes, ↓reduceIte]
    refine he x H' (List.mem_of_getElem? hi) p.1 _ fun H2 e2 => ⟨_, e2 _ _ p.2, ?_, hu (p.1.trans e2), ?_⟩
    · rw [List.length_map, List.length_take]
      omega
    · rw [upd_same, List.take_add_one, hi, List.map_append]
      rfl
  · have e := p.2
    rw [List.take_length] at e
    exact hd H' p.1 e
theorem lc_mapT {K : PySem.W.Frag} {a : Addr} {xs : List V} {te : TE} {vs : List Nat} {j : Nat} {σ : L2.St} {H1 : Hp} {D : Addr} {Qd : Hp → Prop} (f : V → V) (hD : H1 D = none) (hs : SqT K H1 a xs) (hst : ∀ H', Same H1 H' → SqT K H' a xs) (hz : xs.length < sizeLine)
    (hw : ∀ x, wipe ((wipe σ vs).set j (some x)) vs = wipe σ vs) (he : ∀ x H', x ∈ xs → Same H1 H' → ∀ Q : VK, (∀ H2, Same H' H2 → Q (f x) H2) → te ((wipe σ vs).set j (some x)) H' Q)
    (hd : ∀ H', Same H1 H' → H' D = some (.lst (xs.map f)) → Qd H') :
    ∃ W : Nat → Nat → Hp → Prop, (∃ m, W 0 m (upd H1 D (.lst []))) ∧ ∀ i m H, W i m H →
      ((Itt K a).stop i H ∧ Qd H) ∨ ((Itt K a).go i H ∧ ∃ Nx : Hp → Prop, (∀ H', Nx H' → ∃ m', m' < m ∧ W (i + 1) m' H') ∧ ∀ x H', (Itt K a).yld i H x H' → (gName j) x (wipe σ vs) H' fun σ2 H2 => wipe σ2 vs = wipe σ vs ∧ tYes σ2 H2 fun b H3 =>
        if b = true then te σ2 H3 fun y H4 => ∃ acc, H4 D = some (.lst acc) ∧ acc.length < sizeLine ∧ Nx (upd H4 D (.lst (acc ++ [y]))) else Nx H3) := by
  have hu : ∀ {H' : Hp} {o : HO}, Same H1 H' → Same H1 (upd H' D o) := fun {H' o} e b x q => by
    rw [upd_ne (ne_of_none q hD)]
    exact e b x q
  refine lc_tup (xs := xs) (fun i H' => Same H1 H' ∧ H' D = some (.lst ((xs.take i).map f))) ⟨hu (.refl _), upd_same⟩ (fun i H' _ p => hst _ p.1) (fun i x H' hi p => ?_) (fun H' p => ?_)
  · refine ⟨hw x, ?_⟩
    simp only [tYes, ↓reduceIte]
    refine he x H' (List.mem_of_getElem? hi) p.1 _ fun H2 e2 => ⟨_, e2 _ _ p.2, ?_, hu (p.1.trans e2), ?_⟩
    · rw [List.length_map, List.length_take]
      omega
    · rw [upd_same, List.take_add_one, hi, List.map_append]
      rfl
  · have e := p.2
    rw [List.take_length] at e
    exact hd H' p.1 e
/-! ### cuts -/
theorem cut_both (l : List Nat) (i j : Nat) : cutS (stS l) (some (i : Int)) (some (j : Int)) = stS ((l.drop i).take (j - i)) := by
  show stS ((l.drop (HT.sIx (stS l).length 0 (some (i : Int)))).take (HT.sIx (stS l).length (stS l).length (some (j : Int)) - HT.sIx (stS l).length 0 (some (i : Int)))) = _
  rw [HT.sIx_nat, HT.sIx_nat, stS_len]
  congr 1
  by_cases h1 : i ≤ l.length
  · rw [Nat.min_eq_left h1]
    by_cases h2 : j ≤ l.length
    · rw [Nat.min_eq_left h2]
    · rw [Nat.min_eq_right (by omega), List.take_of_length_le (by rw [List.length_drop]; omega), List.take_of_length_le (by rw [List.length_drop]; omega)]
  · rw [show min i l.length = l.length by omega, List.drop_eq_nil_of_le (Nat.le_refl _), List.drop_eq_nil_of_le (by omega), List.take_nil, List.take_nil]
theorem cut_to (l : List Nat) (j : Nat) : cutS (stS l) none (some (j : Int)) = stS (l.take j) := by
  show stS ((l.drop 0).take (HT.sIx (stS l).length (stS l).length (some (j : Int)) - 0)) = _
  rw [HT.sIx_nat, stS_len, List.drop_zero, Nat.sub_zero]
  congr 1
  by_cases h2 : j ≤ l.length
  · rw [Nat.min_eq_left h2]
  · rw [Nat.min_eq_right (by omega), List.take_of_length_le (Nat.le_refl _), List.take_of_length_le (by omega)]
theorem cut_from (l : List Nat) (i : Nat) : cutS (stS l) (some (i : Int)) none = stS (l.drop i) := by
  show stS ((l.drop (HT.sIx (stS l).length 0 (some (i : Int)))).take ((stS l).length - HT.sIx (stS l).length 0 (some (i : Int)))) = _
  rw [HT.sIx_nat, stS_len]
  congr 1
  by_cases h1 : i ≤ l.length
  · rw [Nat.min_eq_left h1, List.take_of_length_le (by rw [List.length_drop]; omega)]
  · rw [show min i l.length = l.length by omega, List.drop_eq_nil_of_le (Nat.le_refl _), List.drop_eq_nil_of_le (by omega), List.take_nil]
/-! ### signs counted -/
theorem occ_one (x : Str) (c hi lim : Nat) (hh : hi ≤ x.length) : ∀ (n a : Nat) (st : Array Nat × Nat), st.2 ≤ a → st.1.size + n ≤ lim → a + n = hi + 1 →
    (forIn (List.range' a n) st (StrLaws.occBody x ⟨#[c]⟩ hi lim)).run.fst.size = st.1.size + ((x.cps.toList.drop a).take (hi - a)).count c
  | 0, a, st, _, _, e => by
    have : hi - a = 0 := by omega
    rw [this]
    simp
  | n + 1, a, st, h1, h2, e => by
    rw [List.range'_succ, List.forIn_cons]
    unfold StrLaws.occBody
    by_cases ha : a < hi
    · have hx : a < x.cps.toList.length := by
        rw [Array.length_toList]
        show a < x.length
        omega
      have ed : (x.cps.toList.drop a).take (hi - a) = x.cps.toList[a] :: (x.cps.toList.drop (a + 1)).take (hi - (a + 1)) := by
        rw [List.drop_eq_getElem_cons hx, show hi - a = (hi - (a + 1)) + 1 by omega, List.take_succ_cons]
      have key := StrLaws.subAt_one x c a
      by_cases hc : x.cps.toList[a] = c
      · have h3 : (st.1.size < lim ∧ st.2 ≤ a) ∧ a + (⟨#[c]⟩ : Str).length ≤ hi := ⟨⟨by omega, h1⟩, by show a + 1 ≤ hi; omega⟩
        have h4 := (key.mpr (by rw [List.getElem?_eq_getElem hx, hc])).2
        rw [if_pos ⟨h3, h4⟩]
        have ih := occ_one x c hi lim hh n (a + 1) (st.1.push a, a + (⟨#[c]⟩ : Str).length) (Nat.le_refl _) (by rw [Array.size_push]; omega) (by omega)
        unfold StrLaws.occBody at ih
        refine Eq.trans ih ?_
        rw [Array.size_push, ed, hc, List.count_cons_self]
        omega
      · have h4 : ¬ (((st.1.size < lim ∧ st.2 ≤ a) ∧ a + (⟨#[c]⟩ : Str).length ≤ hi) ∧ Builtin.Str.subAt x ⟨#[c]⟩ a = true) := by
          rintro ⟨⟨_, z1⟩, z2⟩
          have := key.mp ⟨by omega, z2⟩
          rw [List.getElem?_eq_getElem hx] at this
          exact hc (Option.some.inj this)
        rw [if_neg h4]
        have ih := occ_one x c hi lim hh n (a + 1) (st.1, st.2) (by show st.2 ≤ a + 1; omega) (by show st.1.size + n ≤ lim; omega) (by omega)
        unfold StrLaws.occBody at ih
        refine Eq.trans ih ?_
        rw [ed, List.count_cons_of_ne (fun q => hc q)]
    · have h4 : ¬ (((st.1.size < lim ∧ st.2 ≤ a) ∧ a + (⟨#[c]⟩ : Str).length ≤ hi) ∧ Builtin.Str.subAt x ⟨#[c]⟩ a = true) := by
        rintro ⟨⟨_, z1⟩, _⟩
        have : a + 1 ≤ hi := z1
        omega
      rw [if_neg h4]
      have ih := occ_one x c hi lim hh n (a + 1) (st.1, st.2) (by show st.2 ≤ a + 1; omega) (by show st.1.size + n ≤ lim; omega) (by omega)
      unfold StrLaws.occBody at ih
      refine Eq.trans ih ?_
      rw [show hi - (a + 1) = 0 by omega, show hi - a = 0 by omega]
      simp
theorem count_one (x : Str) (c : Nat) : Txt.count x ⟨#[c]⟩ = (x.cps.toList.count c : Nat) := by
  show (((Builtin.Str.occurrences x ⟨#[c]⟩ 0 x.length (x.length + 1)).length : Nat) : Int) = _
  rw [StrLaws.occ_eq, Array.length_toList, occ_one x c x.length (x.length + 1) (Nat.le_refl _) (x.length + 1 - 0) 0 (#[], 0) (Nat.le_refl _) (by show 0 + (x.length + 1 - 0) ≤ _; omega) (by omega)]
  have : ((x.cps.toList.drop 0).take (x.length - 0)) = x.cps.toList := by
    rw [List.drop_zero]
    exact List.take_of_length_le (by rw [Array.length_toList]; exact Nat.le_refl _)
  rw [this]
  show ((0 + _ : Nat) : Int) = _
  rw [Nat.zero_add]
theorem count_in (x : Str) (c : Nat) (i j : Nat) (h : i ≤ j) : Txt.countIn x ⟨#[c]⟩ (i : Int) (j : Int) = (((x.cps.toList.drop i).take (j - i)).count c : Nat) := by
  show (((Builtin.Str.occurrences x ⟨#[c]⟩ (fromIndex x.length (i : Int)) (toIndexW x.length (j : Int)) (x.length + 1)).length : Nat) : Int) = _
  have e2 : toIndexW x.length (j : Int) = min j x.length := by
    unfold toIndexW
    rw [if_neg (by omega)]
    congr 1
  have e1 : fromIndex x.length (i : Int) = i := by
    unfold fromIndex
    rw [if_neg (by omega)]
    omega
  rw [e1, e2, StrLaws.occ_eq, Array.length_toList]
  have hl : x.cps.toList.length = x.length := Array.length_toList
  by_cases hi : i ≤ x.length
  · by_cases hj : i ≤ min j x.length
    · rw [occ_one x c (min j x.length) (x.length + 1) (Nat.min_le_right _ _) (min j x.length + 1 - i) i (#[], i) (Nat.le_refl _) (by show 0 + _ ≤ _; omega) (by omega)]
      have : (x.cps.toList.drop i).take (min j x.length - i) = (x.cps.toList.drop i).take (j - i) := by
        by_cases hjx : j ≤ x.length
        · rw [Nat.min_eq_left hjx]
        · rw [List.take_of_length_le (by rw [List.length_drop]; omega), List.take_of_length_le (by rw [List.length_drop]; omega)]
      rw [this]
      show ((0 + _ : Nat) : Int) = _
      rw [Nat.zero_add]
    · omega
  · have h0 : min j x.length + 1 - i = 0 := by omega
    rw [h0, List.drop_eq_nil_of_le (by omega)]
    simp
end Nx

/-! What the laws' own helpers leave: the row of drawn numbers at one address. -/
namespace Nx
open PySem PySem.Spec PyProof.Rows L2
section
variable {X : Cx}
theorem _root_.L2.Room.units2 {k : Nat} {A : Around} (r : Room k A) : A.units + 65 < cLine := by have := r.un; omega
/-- a block that is only asked where p holds -/
theorem pss_guard {p : Prop} {b : List Stmt} {t : TS} (h : p → PSs X b t) : PSs X b (fun D σ H => p ∧ t D σ H) := ⟨fun pins s σ H D I q => (h q.1).run pins s σ H D I q.2⟩
def rInDT (K : PySem.W.Frag) : R2 := fun x y H Q => ∃ d ds, Dp K H x d ∧ Dp K H y (.tuple ds) ∧ SeqAt.shaped d = true ∧ SeqAt.shaped (.tuple ds) = true ∧ Q (.bl (ds.any fun z => PyData.eqv z d)) H
theorem op_inDT (hu : X.A.units + 65 < cLine) : OpR X (compareOp .In) (rInDT X.K) := by
  intro pins s σ H x y v u Q I rx ry h
  obtain ⟨d, ds, hd, he, sd, se, q⟩ := h
  obtain ⟨as, r1⟩ := Dp.reads I d x v hd rx
  obtain ⟨bs, r2⟩ := Dp.reads I (.tuple ds) y u he ry
  exact SeqAt.in_tuple_reads r2 r1 (SeqAt.canLay_of_shaped se) (SeqAt.canLay_of_shaped sd) (room_in_shaped sd hu) ⟨.bl _, H, I, rfl, q⟩
end
/-- the program's own classes -/
inductive Cn where
  | NarcissusError | TooLarge | BadText | NoCode | Ended | OutOfSteps | TooWide | BadClaim | Machine | SHAPES | WORDS | CODE_OF_FIRST | JOINING | FORMS | ITEMS | CHECKS
/-- what the top says of an error's class -/
structure ExcK (K : PySem.W.Frag) (C : Addr) : Prop where
  x : PySem.W.excIn K C [.type "ValueError", .type "Exception", .type "BaseException", .type "object"] "ValueError.__new__" = true
  k : PySem.W.keepIn K (.ref C) = true
  b : PySem.W.subIn K (.ref C) (.type "BaseException") = some true
  t : PySem.W.typeIn K (.ref C) = some (.type "type")
  c : ExcC K C
/-- at st stands a row from which numbers are drawn -/
def Strm (H : Hp) (st : Addr) : Prop := ∃ (l : Addr) (ns : List Int) (c i m : Int), H st = some (.lst [.ref l, .int c, .int i, .int m]) ∧ H l = some (.lst (ns.map V.int)) ∧ 0 ≤ c ∧ 0 ≤ i ∧ 0 ≤ m ∧ m < 2147483647
/-- all that was tracked but what stands at st is as it was; st's first item too -/
structure ExS (st : Addr) (H H' : Hp) : Prop where
  k : ∀ a o, a ≠ st → H a = some o → H' a = some o
  hd : ∀ l r, H st = some (.lst (.ref l :: r)) → ∃ r', H' st = some (.lst (.ref l :: r'))
instance {st : Addr} {H H' : Hp} : CoeFun (ExS st H H') (fun _ => ∀ a o, a ≠ st → H a = some o → H' a = some o) := ⟨ExS.k⟩
theorem ExS.refl {st : Addr} {H : Hp} : ExS st H H := ⟨fun _ _ _ h => h, fun _ r h => ⟨r, h⟩⟩
theorem ExS.trans {st : Addr} {H H1 H2 : Hp} (a : ExS st H H1) (b : ExS st H1 H2) : ExS st H H2 := ⟨fun c o n h => b c o n (a c o n h), fun l r h => by
  obtain ⟨r', h'⟩ := a.hd l r h
  exact b.hd l r' h'⟩
theorem ExS.put {st l : Addr} {H : Hp} {r r' : List V} (hst : H st = some (.lst (.ref l :: r))) : ExS st H (upd H st (.lst (.ref l :: r'))) := ⟨fun a u n h => by
  rw [upd_ne n]
  exact h, fun l2 r2 h => by
  rw [hst] at h
  have : l = l2 := V.ref.inj (List.cons.inj (HO.lst.inj (Option.some.inj h))).1
  rw [← this]
  exact ⟨r', upd_same⟩⟩
theorem _root_.L2.Same.exs {st : Addr} {H H' : Hp} (h : Same H H') : ExS st H H' := ⟨fun a o _ e => h a o e, fun l r e => ⟨r, h _ _ e⟩⟩
theorem _root_.L2.Same.upd {H : Hp} {p : Addr} {o : HO} (h : H p = none) : Same H (upd H p o) := fun b x e => by
  rw [upd_ne (ne_of_none e h)]
  exact e
theorem _root_.L2.Same.strm {H H' : Hp} {st : Addr} (e : Same H H') (h : Strm H st) : Strm H' st := by
  obtain ⟨l, ns, c, i, m, h1, h2, h3⟩ := h
  exact ⟨l, ns, c, i, m, e _ _ h1, e _ _ h2, h3⟩
theorem _root_.L2.Same.seqT {K : PySem.W.Frag} {H H' : Hp} {a : Addr} {xs : List V} (e : Same H H') (h : SqT K H a xs) : SqT K H' a xs := by
  rcases h with (h | ⟨o, h⟩) | h
  · exact .inl (.inl (e _ _ h))
  · exact .inl (.inr ⟨o, e _ _ h⟩)
  · exact .inr h
theorem Strm.has {H : Hp} {st : Addr} (h : Strm H st) : H st ≠ none := by
  obtain ⟨l, ns, c, i, m, h1, _⟩ := h
  rw [h1]
  intro z
  cases z
theorem Strm.ne {H : Hp} {st p : Addr} (h : Strm H st) (hp : H p = none) : p ≠ st := fun z => h.has (by rw [← z]; exact hp)
theorem map_int {ns : List Int} {j : Nat} {v : V} (h : (ns.map V.int)[j]? = some v) : ∃ n, ns[j]? = some n ∧ v = .int n := by
  rw [List.getElem?_map] at h
  cases e : ns[j]? with
  | none =>
    rw [e] at h
    cases h
  | some n =>
    rw [e] at h
    exact ⟨n, rfl, (Option.some.inj h).symm⟩
def treeV : V → Bool
  | .str s => decide (s.length ≤ 200000) && isT s.cps.toList
  | _ => false
/-- a value that is a text, or surely is none -/
def StrOr (K : PySem.W.Frag) (H : Hp) (x : V) : Prop := (∃ s, x = .str s ∧ s.length ≤ sizeLine) ∨ ∃ t, TyX K H x t ∧ PySem.W.kitOne K t (.type "str") = some false ∧ ∀ s, x ≠ .str s
theorem treeV_no {x : V} (h : ∀ s, x ≠ .str s) : treeV x = false := by
  cases x with
  | str s => exact absurd rfl (h s)
  | _ => rfl
theorem treeV_sg (t : Tr) (h : t.sg.length ≤ 200000) : treeV (.str t.str) = true := by
  show (decide (t.str.length ≤ 200000) && isT t.sg) = true
  rw [t.str_len, decide_eq_true h, isT_sg]
  rfl
theorem _root_.L2.TyX.same {K : PySem.W.Frag} {H H' : Hp} {x : V} {t : Value} (h : TyX K H x t) (e : Same H H') : TyX K H' x t := by
  cases h with
  | base b =>
    cases b with
    | non => exact .base .non
    | bl y => exact .base (.bl y)
    | int i => exact .base (.int i)
    | str y => exact .base (.str y)
    | flt y => exact .base (.flt y)
    | lst ea => exact .base (.lst (e _ _ ea))
    | frz ea => exact .base (.frz (e _ _ ea))
    | tup ea => exact .base (.tup (e _ _ ea))
    | dK ea => exact .base (.dK (e _ _ ea))
    | dT ea => exact .base (.dT (e _ _ ea))
    | ins ea cl ha hn htk hm => exact .base (.ins (e _ _ ea) cl ha hn htk hm)
  | byt b => exact .byt b
  | set ea => exact .set (e _ _ ea)
  | kList ea c => exact .kList ea c
  | kTuple ea c => exact .kTuple ea c
  | kDict ea c => exact .kDict ea c
  | fTuple ea => exact .fTuple (e _ _ ea)
  | fDict ea => exact .fDict (e _ _ ea)
theorem StrOr.same {K : PySem.W.Frag} {H H' : Hp} {x : V} (h : StrOr K H x) (e : Same H H') : StrOr K H' x := by
  rcases h with h | ⟨t, h1, h2⟩
  · exact .inl h
  · exact .inr ⟨t, h1.same e, h2⟩
def notTold (d : PyData) : Prop := SeqAt.shaped (.tuple [d]) = true ∧ PyData.eqv (.str "refused") d = false ∧ PyData.eqv (.str "large") d = false ∧ PyData.eqv (.str "wide") d = false
mutual
theorem Dp.same {K : PySem.W.Frag} {H H' : Hp} (e : Same H H') : ∀ {v : V} {d : PyData}, Dp K H v d → Dp K H' v d
  | _, _, .non => .non
  | _, _, .bl b => .bl b
  | _, _, .int i => .int i
  | _, _, .str x => .str x
  | _, _, .lst hs ha => .lst (e.seq hs) (DpAll.same e ha)
  | _, _, .tup hs ha => .tup (Same.seqT e hs) (DpAll.same e ha)
theorem DpAll.same {K : PySem.W.Frag} {H H' : Hp} (e : Same H H') : ∀ {vs : List V} {ds : List PyData}, DpAll K H vs ds → DpAll K H' vs ds
  | _, _, .nil => .nil
  | _, _, .cons h r => .cons (Dp.same e h) (DpAll.same e r)
end
theorem _root_.L2.Dp.same {K : PySem.W.Frag} {H H' : Hp} {v : V} {d : PyData} (h : Dp K H v d) (e : Same H H') : Dp K H' v d := Nx.Dp.same e h
theorem _root_.L2.DpAll.same {K : PySem.W.Frag} {H H' : Hp} {v : List V} {d : List PyData} (h : DpAll K H v d) (e : Same H H') : DpAll K H' v d := Nx.DpAll.same e h
/-- values that are texts of at most n signs -/
def strsB (n : Nat) (xs : List V) : Bool := xs.all fun v => match v with | .str z => decide (z.length ≤ n) | _ => false
theorem atI_some {α : Type} {xs : List α} {d : Nat} (h : d < xs.length) : ∃ v, atI xs (d : Int) = some v ∧ v ∈ xs := ⟨xs[d], atI_nat (List.getElem?_eq_getElem h), List.getElem_mem h⟩
/-- an item of a written list at an open place -/
theorem ixL_any {K : PySem.W.Frag} {H : Hp} {p : Addr} {xs : List V} {d : Nat} {Q : VK} (hp : H p = some (.lst xs)) (hd : d < xs.length) (q : ∀ v ∈ xs, Q v H) : rIxL K (.ref p) (.int d) H Q := by
  obtain ⟨v, h1, h2⟩ := atI_some hd
  exact ⟨p, xs, d, v, rfl, rfl, SqL.of hp, h1, q v h2⟩
theorem ixL_menu {K : PySem.W.Frag} {H : Hp} {p : Addr} {xs : List V} {d : Nat} {Q : VK} (n : Nat) (hp : H p = some (.lst xs)) (hs : strsB n xs = true) (hd : d < xs.length) (q : ∀ z : Str, z.length ≤ n → Q (.str z) H) : rIxL K (.ref p) (.int d) H Q := by
  refine ixL_any hp hd fun v hv => ?_
  have := List.all_eq_true.mp hs v hv
  cases v with
  | str z => exact q z (of_decide_eq_true this)
  | _ => cases this
theorem ixS_any {H : Hp} {z : Str} {d : Nat} {Q : VK} (n : Nat) (hz : z.length = n) (hn : n ≤ sizeLine) (hd : d < n) (q : ∀ c : Nat, Q (.str (stS [c])) H) : rIxS (.str z) (.int d) H Q := by
  have hl : z.cps.toList.length = z.length := Array.length_toList
  obtain ⟨c, h1, _⟩ := atI_some (xs := z.cps.toList) (d := d) (by omega)
  exact ⟨z, d, c, rfl, rfl, by omega, h1, q c⟩
theorem iteFb {b : Bool} {A B : Prop} (h : b = false) (g : B) : if b = true then A else B := by
  rw [h]
  exact iteF g
theorem iteTb {b : Bool} {A B : Prop} (h : b = true) (g : A) : if b = true then A else B := by
  rw [h]
  exact iteT g
theorem iteS {c A B : Prop} [Decidable c] (hc : c) (h : A) : if decide c = true then A else B := by
  rw [decide_eq_true hc]
  exact iteT h
theorem iteNo {c A B : Prop} [Decidable c] (hc : ¬ c) (h : B) : if decide c = true then A else B := by
  rw [decide_eq_false hc]
  exact iteF h
/-- the integer whose number a text is, or None -/
def valV (x : Str) : V := if x = (numT (x.length / 2)).str then .int ((x.length / 2 : Nat) : Int) else .non
theorem valV_num (n : Nat) : valV (numT n).str = .int n := by
  have h : (numT n).str.length / 2 = n := by
    rw [Tr.str_len, numT_len]
    omega
  unfold valV
  rw [h, if_pos rfl]
theorem valV_no {t : Tr} (h : ∀ k, t ≠ numT k) : valV t.str = .non := by
  unfold valV
  rw [if_neg fun z => h _ (Tr.str_inj z)]
theorem valV_or (t : Tr) : (∃ k, t = numT k ∧ valV t.str = .int k) ∨ ((∀ k, t ≠ numT k) ∧ valV t.str = .non) := by
  by_cases h : ∃ k, t = numT k
  · obtain ⟨k, rfl⟩ := h
    exact .inl ⟨k, rfl, valV_num k⟩
  · have h' : ∀ k, t ≠ numT k := fun k e => h ⟨k, e⟩
    exact .inr ⟨h', valV_no h'⟩
theorem s0 : (Str.ofString "0") = stS [48] := by decide +kernel
theorem s1 : (Str.ofString "1") = stS [49] := by decide +kernel
theorem strOk_01 {l : List Nat} (h : all01 l) : PyData.strOk (stS l) = true := by
  unfold PyData.strOk
  rw [Array.all_eq_true']
  intro c hc
  have hc' : c ∈ l := List.mem_toArray.mp hc
  rcases h c hc' with e | e
  · rw [e]
    decide
  · rw [e]
    decide
theorem shaped_01 {l : List Nat} (h : all01 l) : SeqAt.shaped (.str (stS l)) = true := by
  show (PyData.strOk (stS l) && decide (0 ≤ 64)) = true
  rw [strOk_01 h]
  rfl
theorem eqv_str (x : Str) : PyData.eqv (.str x) (.str x) = true := by
  show (x == x) = true
  exact beq_self_eq_true x
theorem cons_str (a b : Tr) : stS (49 :: (a.str.cps.toList ++ b.str.cps.toList)) = (Tr.node a b).str := rfl
theorem str_cons (a b : Tr) : Str.ofString "1" ++ a.str ++ b.str = (Tr.node a b).str := by
  rw [s1]
  show stS [49] ++ stS a.sg ++ stS b.sg = stS (49 :: (a.sg ++ b.sg))
  rw [stS_app, stS_app]
  rfl
/-- the text of a number as the laws write it -/
theorem num_str (n : Nat) : stS (repL n (Str.ofString "10").cps.toList) ++ Str.ofString "0" = (numT n).str := by
  rw [s0, stS_app, show (Str.ofString "10").cps.toList = [49, 48] by decide +kernel]
  show _ = stS _
  rw [numT_sg]
theorem len10 (n : Nat) : (stS (repL n (Str.ofString "10").cps.toList)).length = 2 * n := by
  rw [stS_len, repL_len, show (Str.ofString "10").cps.toList.length = 2 by decide +kernel]
  omega
theorem len1 (n : Nat) : (stS (repL n (Str.ofString "1").cps.toList)).length = n := by
  rw [stS_len, repL_len, show (Str.ofString "1").cps.toList.length = 1 by decide +kernel]
  omega
theorem len0 (n : Nat) : (stS (repL n (Str.ofString "0").cps.toList)).length = n := by
  rw [stS_len, repL_len, show (Str.ofString "0").cps.toList.length = 1 by decide +kernel]
  omega
theorem ch_str (n : Nat) : stS (repL n (Str.ofString "1").cps.toList) ++ stS (repL (n + 1) (Str.ofString "0").cps.toList) = (chT n).str := by
  rw [s0, s1, stS_app]
  show stS (repL n [49] ++ repL (n + 1) [48]) = stS _
  rw [chT_sg, repL_one, repL_one]
theorem chT_len (n : Nat) : (chT n).sg.length = 2 * n + 1 := by
  rw [chT_sg, List.length_append, List.length_replicate, List.length_replicate]
  omega
theorem in01 (c : Nat) : inV (.str (stS [c])) [.str "0", .str "1"] = decide (c = 48 ∨ c = 49) := by
  have h : ∀ d : Nat, eqV (.str (stS [d])) (.str (stS [c])) = decide (c = d) := fun d => by
    show (stS [d] == stS [c]) = _
    rw [Bool.eq_iff_iff, beq_iff_eq, decide_eq_true_eq]
    constructor
    · intro z
      exact (List.cons.inj (stS_inj z)).1.symm
    · intro z
      rw [z]
  show (eqV (.str "0") (.str (stS [c])) || (eqV (.str "1") (.str (stS [c])) || false)) = _
  rw [s0, s1, h, h, Bool.or_false, Bool.decide_or]
theorem sig01 (c : Nat) : decide (V.str (stS [c]) = V.str "0") = decide (c = 48) := by
  rw [s0, Bool.eq_iff_iff, decide_eq_true_eq, decide_eq_true_eq]
  constructor
  · intro z
    have := stS_inj (V.str.inj z)
    exact (List.cons.inj this).1
  · intro z
    rw [z]
/-- trees as values -/
def trV (ts : List Tr) : List V := ts.map fun t => V.str t.str
theorem trV_len (ts : List Tr) : (trV ts).length = ts.length := List.length_map _
theorem mem_trV {ts : List Tr} {x : V} (h : x ∈ trV ts) : ∃ t ∈ ts, x = .str t.str := by
  obtain ⟨t, h1, h2⟩ := List.mem_map.mp h
  exact ⟨t, h1, h2.symm⟩
theorem trV_of {P : Tr → Prop} : ∀ {ys : List V}, (∀ y ∈ ys, ∃ t : Tr, y = .str t.str ∧ P t) → ∃ ts : List Tr, ys = trV ts ∧ ∀ t ∈ ts, P t
  | [], _ => ⟨[], rfl, fun _ h => (by cases h)⟩
  | y :: ys, h => by
    obtain ⟨t, e, p⟩ := h y (List.mem_cons_self ..)
    obtain ⟨ts, e2, p2⟩ := trV_of (ys := ys) fun z hz => h z (List.mem_cons_of_mem _ hz)
    refine ⟨t :: ts, by rw [e, e2]; rfl, fun u hu => ?_⟩
    rcases List.mem_cons.mp hu with r | r
    · rw [r]
      exact p
    · exact p2 u r
theorem trV_inj : ∀ {a b : List Tr}, trV a = trV b → a = b
  | [], [], _ => rfl
  | [], y :: b, h => by cases h
  | x :: a, [], h => by cases h
  | x :: a, y :: b, h => by
    obtain ⟨h1, h2⟩ := List.cons.inj h
    rw [Tr.str_inj (V.str.inj h1), trV_inj h2]
/-- the same as data -/
def trD (ts : List Tr) : PyData := .list (ts.map fun t => .str t.str)
theorem trD_all {K : PySem.W.Frag} {H : Hp} : ∀ ts : List Tr, DpAll K H (trV ts) (ts.map fun t => .str t.str)
  | [] => .nil
  | t :: r => .cons (.str _) (trD_all r)
theorem trD_dp {K : PySem.W.Frag} {H : Hp} {a : Addr} {ts : List Tr} (h : SqL K H a (trV ts)) : Dp K H (.ref a) (trD ts) := .lst h (trD_all ts)
theorem trD_lay : ∀ ts : List Tr, PyData.canLayAll0 (ts.map fun t => PyData.str t.str) = true
  | [] => rfl
  | t :: r => by
    show (PyData.strOk t.str && PyData.canLayAll0 (r.map fun t => PyData.str t.str)) = true
    rw [show PyData.strOk t.str = true from strOk_01 t.sg_01, trD_lay r]
    rfl
theorem trD_deep : ∀ ts : List Tr, PyData.depthAll (ts.map fun t => PyData.str t.str) = 0
  | [] => rfl
  | t :: r => by
    show max 0 (PyData.depthAll (r.map fun t => PyData.str t.str)) = 0
    rw [trD_deep r]
    rfl
theorem trD_shaped (ts : List Tr) : SeqAt.shaped (trD ts) = true := by
  show (PyData.canLayAll0 (ts.map fun t => PyData.str t.str) && decide (PyData.depthAll (ts.map fun t => PyData.str t.str) + 1 ≤ 64)) = true
  rw [trD_lay, trD_deep]
  rfl
theorem eqv_same {d : PyData} (h : SeqAt.shaped d = true) : PyData.eqv d d = true := by
  unfold SeqAt.shaped at h
  rw [Bool.and_eq_true] at h
  exact SeqAt.eqv_refl d h.1
/-! ### the texts of lists of trees -/
def lenV : V → V
  | .str x => .int x.length
  | _ => .non
def oneV : V → V
  | .str x => .str (stS (49 :: x.cps.toList))
  | _ => .non
theorem oneV_map (ts : List Tr) : (trV ts).map oneV = (ts.map fun t => stS (49 :: t.sg)).map V.str := by
  unfold trV
  rw [List.map_map, List.map_map]
  rfl
theorem one_sum (ts : List Tr) : ((ts.map fun t => stS (49 :: t.sg)).map fun x : Str => x.length).sum + 1 = (lstT ts).sg.length := by
  rw [lstT_len, List.map_map]
  induction ts with
  | nil => rfl
  | cons t r ih =>
    rw [List.map_cons, List.sum_cons, List.map_cons, List.sum_cons, List.length_cons]
    have e : ((fun x : Str => x.length) ∘ fun t : Tr => stS (49 :: t.sg)) t = t.sg.length + 1 := by
      show (stS (49 :: t.sg)).length = _
      rw [stS_len]
      rfl
    rw [e]
    omega
theorem join_lst (ts : List Tr) : Txt.join (Str.ofString "") (ts.map fun t => stS (49 :: t.sg)) ++ Str.ofString "0" = (lstT ts).str := by
  rw [join_none]
  have e7 : ((ts.map fun t => stS (49 :: t.sg)).map fun x : Str => x.cps.toList) = ts.map fun t => 49 :: t.sg := by
    rw [List.map_map]
    rfl
  show _ = stS (lstT ts).sg
  rw [e7, lstT_sg, s0, stS_app]
theorem join_len (ts : List Tr) : (Txt.join (Str.ofString "") (ts.map fun t => stS (49 :: t.sg))).length + 1 = (lstT ts).sg.length := by
  have h := congrArg Str.length (join_lst ts)
  rw [Str.length_append, Tr.str_len] at h
  exact h
theorem one_te {σ : L2.St} {j : Nat} {t : Tr} {H : Hp} {Q : VK} (h : σ[j]? = some (some (.str t.str))) (hl : t.sg.length ≤ 1000000) (q : Q (oneV (.str t.str)) H) :
    tOp (fun x y H Q => ∃ i j, x = V.str i ∧ y = V.str j ∧ i.length + j.length ≤ sizeLine ∧ Q (V.str (i ++ j)) H) (tC (.str "1")) (tVar j) σ H Q := by
  have h2 := t.str_len
  have hz : sizeLine = 16777216 := rfl
  refine ⟨_, h, _, _, rfl, rfl, (by show 1 + t.str.length ≤ _; omega), ?_⟩
  rw [s1]
  show Q (V.str (stS [49] ++ stS t.sg)) H
  rw [stS_app]
  exact q
/-! ### a comprehension over a range whose elements draw -/
theorem Strm.off {H1 H' : Hp} {st D : Addr} {o : HO} (s1 : Strm H1 st) (hD : H1 D = none) (e : ExS st H1 H') (s : Strm H' st) : Strm (upd H' D o) st := by
  have nD : D ≠ st := s1.ne hD
  obtain ⟨l1, ns1, c1, i1, m1, g1, g2, g3⟩ := s1
  obtain ⟨l, ns, c, i, m, h1, h2, h3⟩ := s
  obtain ⟨r', hr⟩ := e.hd l1 _ g1
  rw [h1] at hr
  have hl : l = l1 := V.ref.inj (List.cons.inj (HO.lst.inj (Option.some.inj hr))).1
  have hlD : l ≠ D := by
    rw [hl]
    exact ne_of_none g2 hD
  exact ⟨l, ns, c, i, m, by rw [upd_ne nD.symm]; exact h1, by rw [upd_ne hlD]; exact h2, h3⟩
theorem ExS.off {H1 H' : Hp} {st D : Addr} {o : HO} (nD : D ≠ st) (hD : H1 D = none) (e : ExS st H1 H') : ExS st H1 (upd H' D o) := by
  refine ⟨fun b x nb q => ?_, fun l r h => ?_⟩
  · rw [upd_ne (ne_of_none q hD)]
    exact e b x nb q
  · rw [upd_ne nD.symm]
    exact e.hd l r h
theorem lc_draw {n : Nat} {te : TE} {vs : List Nat} {j : Nat} {σ : L2.St} {H1 : Hp} {D : Addr} {Qd : Hp → Prop} {st : Addr} (P : V → Prop) (hD : H1 D = none) (s1 : Strm H1 st) (hn : n < sizeLine)
    (hw : ∀ x, wipe ((wipe σ vs).set j (some x)) vs = wipe σ vs)
    (he : ∀ (i : Nat) H', i < n → ExS st H1 H' → Strm H' st → ∀ Q : VK, (∀ y H2, P y → ExS st H' H2 → Strm H2 st → Q y H2) → te ((wipe σ vs).set j (some (.int i))) H' Q)
    (hd : ∀ ys H', ys.length = n → (∀ y ∈ ys, P y) → ExS st H1 H' → Strm H' st → H' D = some (.lst ys) → Qd H') :
    ∃ W : Nat → Nat → Hp → Prop, (∃ m, W 0 m (upd H1 D (.lst []))) ∧ ∀ i m H, W i m H →
      ((Itr 0 n).stop i H ∧ Qd H) ∨ ((Itr 0 n).go i H ∧ ∃ Nx : Hp → Prop, (∀ H', Nx H' → ∃ m', m' < m ∧ W (i + 1) m' H') ∧ ∀ x H', (Itr 0 n).yld i H x H' → (gName j) x (wipe σ vs) H' fun σ2 H2 => wipe σ2 vs = wipe σ vs ∧ tYes σ2 H2 fun b H3 =>
        if b = true then te σ2 H3 fun y H4 => ∃ acc, H4 D = some (.lst acc) ∧ acc.length < sizeLine ∧ Nx (upd H4 D (.lst (acc ++ [y]))) else Nx H3) := by
  have nD : D ≠ st := s1.ne hD
  refine lc_range (lo := 0) (n := n) (fun i H' => ∃ ys : List V, ys.length = i ∧ (∀ y ∈ ys, P y) ∧ ExS st H1 H' ∧ Strm H' st ∧ H' D = some (.lst ys)) ⟨[], rfl, fun _ h => (by cases h), .off nD hD .refl, s1.off hD .refl s1, upd_same⟩ (fun i H' hi p => ?_) (fun H' p => ?_)
  · obtain ⟨ys, e1, e2, e3, e4, e5⟩ := p
    refine ⟨hw _, ?_⟩
    simp only [tYes, ↓reduceIte]
    have e0 : (0 : Int) + (i : Int) = (i : Int) := Int.zero_add _
    show te ((wipe σ vs).set j (some (.int ((0 : Int) + (i : Int))))) H' _
    rw [e0]
    refine he i H' hi e3 e4 _ fun y H2 hy ex st2 => ⟨ys, ex _ _ nD e5, by omega, ys ++ [y], by rw [List.length_append, e1]; rfl, fun z hz => ?_, .off nD hD (e3.trans ex), s1.off hD (e3.trans ex) st2, upd_same⟩
    rcases List.mem_append.mp hz with q | q
    · exact e2 z q
    · rw [List.mem_singleton.mp q]
      exact hy
  · obtain ⟨ys, e1, e2, e3, e4, e5⟩ := p
    exact hd ys H' e1 e2 e3 e4 e5
end Nx

/-! zip of a text and a tuple. -/
namespace Nx
open PySem PySem.Spec PyProof.Rows L2
/-- the signs of x beside the tuple at b, in new pairs -/
def ItzS (K : PySem.W.Frag) (x : Str) (b : Addr) : It :=
  ⟨fun i H => ∃ (ys : List V) (c : Nat) (y : V), SqT K H b ys ∧ x.cps[i]? = some c ∧ ys[i]? = some y,
    fun i H v H' => ∃ T c y, v = .ref T ∧ H T = none ∧ H' = upd H T (.tup [.str ⟨#[c]⟩, y]) ∧ x.cps[i]? = some c ∧ ∀ ys, SqT K H b ys → ys[i]? = some y,
    fun i H => ∃ ys : List V, SqT K H b ys ∧ i ≤ x.cps.size ∧ i ≤ ys.length ∧ (i = x.cps.size ∨ i = ys.length)⟩
theorem turn_zipS {P : Program} {w : World} {K : PySem.W.Frag} {elts : List Expr} {kk : Nat} {tpos : Pos} {x : Str} {t : Tok} {b z TI TO i1 i2 : Addr} (S : ZipSep2 z TI TO i1 i2 [i1] [i2, b]) (hb2 : b ≠ i2) :
    Turn P w K (.Tuple elts kk tpos) (ItzS K x b) [z, TI, TO, i1, i2] z (fun i h => IsZip h z TI TO .none ∧ IsTupOf2 h TI (.ref i1) (.ref i2) ∧ (∃ x y, IsTupOf2 h TO x y) ∧ h.IsStrIter i1 (strIterType x) x t i ∧ h.IsTupleIter i2 b i) where
  mem := by simp
  obj := fun i h st c hc => by
    obtain ⟨hz, hTI, ⟨x, y, hTO⟩, ⟨o1, e1, _, d1⟩, ⟨o2, e2, _, d2⟩⟩ := st
    have e' : c = z ∨ c = TI ∨ c = TO ∨ c = i1 ∨ c = i2 := by simpa using hc
    rcases e' with q | q | q | q | q
    · rw [q]; exact ⟨_, hz, fun v q => nomatch q⟩
    · rw [q]; exact ⟨_, hTI, fun v q => nomatch q⟩
    · rw [q]; exact ⟨_, hTO, fun v q => nomatch q⟩
    · rw [q]; exact ⟨o1, e1, fun v q => by rw [d1] at q; cases q⟩
    · rw [q]; exact ⟨o2, e2, fun v q => by rw [d2] at q; cases q⟩
  keep := fun i h h' st k => by
    obtain ⟨hz, hTI, ⟨x, y, hTO⟩, ⟨o1, e1, r1⟩, h2⟩ := st
    exact ⟨k z (by simp) _ hz, k TI (by simp) _ hTI, ⟨x, y, k TO (by simp) _ hTO⟩, ⟨o1, k i1 (by simp) o1 e1, r1⟩, h2.at fun o q => k i2 (by simp) o q⟩
  item := by
    intro X hP hw hK hc i pins s σ H E I hf st hg
    subst hP hw hK
    obtain ⟨hz, hTI, ⟨x0, y0, hTO⟩, h1, h2⟩ := st
    obtain ⟨ys, c, y, hqy, hx, hy⟩ := hg
    obtain ⟨its2, rv2, p2, _⟩ := I.tuple hqy
    obtain ⟨u2, hu2, ru2⟩ := rv2.get hy
    have hzl : z < s.heap.objs.size := Heap.lt_size hz
    have hh : X.A.in1.handled = none := I.ok.hd hc
    have hi1 : i < x.cps.size := by
      rcases Nat.lt_or_ge i x.cps.size with q | q
      · exact q
      · rw [Array.getElem?_eq_none q] at hx
        cases hx
    have hi2 : i < its2.toArray.size := by
      have := (List.getElem?_eq_some_iff.mp hu2).1
      simpa using this
    refine wpAny_pyNext_zipD2_item S (Draws.text hh i1 x t) (Draws.tuple hh i2 b hb2 its2.toArray) hz hTI hTO h1 ⟨h2, p2⟩ hi1 hi2 fun v1 v2 h' tk q1 q2 z' TO' h1' h2' hT hsz hk => ?_
    obtain ⟨c', t', hc', e1⟩ := q1
    have ec : c' = c := Option.some.inj (hc'.symm.trans hx)
    subst ec e1
    have e2 : v2 = u2 := by
      have z1 : its2.toArray[i]? = some v2 := q2
      have z2 : its2.toArray[i]? = some u2 := by simpa using hu2
      exact Option.some.inj (z1.symm.trans z2)
    subst e2
    refine ⟨_, rfl, wpAny_letOwnedTupleGo_zip (s := { s with heap := h', toks := tk }) z' fun h'' z'' sb => ?_⟩
    have hT2 : h''.get? s.heap.objs.size = some { cls := .type "tuple", data := .seq #[.str ⟨#[c']⟩ t', v2] } := (sb.2 _ (Nat.ne_of_gt hzl)).trans hT
    have new : ObjOk X.prog X.w (upd H s.heap.objs.size (.tup [.str ⟨#[c']⟩, y])) h'' s.heap.objs.size (.tup [.str ⟨#[c']⟩, y]) :=
      ⟨by show 2 ≤ sizeLine; decide, [.str ⟨#[c']⟩ t', v2], .cons ⟨_, rfl⟩ (.cons ru2 .nil), ⟨_, hT2, rfl, _, rfl⟩⟩
    have I1 : Inv X pins σ (upd H s.heap.objs.size (.tup [.str ⟨#[c']⟩, y])) { s with heap := h'', toks := tk } :=
      I.turnedNew (t' := tk) (ch := [z, TI, TO, i1, i2]) (fun c o hb q => (sb.2 c (fun q' => hb (by simp [q']))).trans (hk c o (fun q' => hb (by simp [q'])) (fun q' => hb (by simp [q'])) (fun q' => hb (by simp [q'])) (fun q' => hb (by simp [q'])) q)) hf (Nat.le_refl _) new
    refine ⟨.ref s.heap.objs.size, _, I1, rfl, ⟨_, c', y, rfl, I.hok.fresh (Nat.le_refl _), rfl, hx, fun l hl => by rw [I.tuple_inj hl hqy]; exact hy⟩, ⟨z'', ?_, ⟨.str ⟨#[c']⟩ t', v2, ?_⟩, ?_, ?_⟩, fun c hcm => ?_⟩
    · exact (sb.2 _ S.TIz).trans (hk _ _ S.TIz S.TITO S.TIi1 S.TIi2 hTI)
    · exact (sb.2 _ S.TOz).trans TO'
    · obtain ⟨o1, g1, r1⟩ := h1'
      exact ⟨o1, (sb.2 _ S.zi1.symm).trans g1, r1⟩
    · exact h2'.1.at fun o q => (sb.2 _ S.zi2.symm).trans q
    · have hlt : c < s.heap.objs.size := by
        have e' : c = z ∨ c = TI ∨ c = TO ∨ c = i1 ∨ c = i2 := by simpa using hcm
        rcases e' with q | q | q | q | q
        · rw [q]; exact hzl
        · rw [q]; exact Heap.lt_size hTI
        · rw [q]; exact Heap.lt_size hTO
        · rw [q]; obtain ⟨_, e1, _⟩ := h1; exact Heap.lt_size e1
        · rw [q]; obtain ⟨_, e2, _⟩ := h2; exact Heap.lt_size e2
      rw [upd_ne (Nat.ne_of_lt hlt)]
      exact (hf c hcm).1
  done := by
    intro X hP hw hK hc i pins s σ H E I hf st hg
    subst hP hw hK
    obtain ⟨hz, hTI, ⟨x0, y0, hTO⟩, h1, h2⟩ := st
    obtain ⟨ys, hqy, le1, le2, hend⟩ := hg
    obtain ⟨its2, rv2, p2, _⟩ := I.tuple hqy
    have l2 := rv2.length
    have hs2 : its2.toArray.size = ys.length := by simp [l2]
    have hh : X.A.in1.handled = none := I.ok.hd hc
    refine wpAny_pyNext_zipD2_end S (Draws.text hh i1 x t) (Draws.tuple hh i2 b hb2 its2.toArray) hz hTI hTO h1 ⟨h2, p2⟩ le1 (by omega) (by omega) fun h' tk hk => ⟨rfl, I.turnedL (t' := tk) (ch := [z, TI, TO, i1, i2]) (fun c o hb q =>
      hk c o (fun q' => hb (by simp [q'])) (fun q' => hb (by simp [q'])) (fun q' => hb (by simp [q'])) (fun q' => hb (by simp [q'])) q) hf⟩
  self := fun A i s Q E st h => wpAny_pyIter_zip st.1 h
def iZipS (K : PySem.W.Frag) (ta : TA) : TI := fun σ H R => ta σ H fun vs H1 => ∃ x b ys, vs = [.str x, .ref b] ∧ SqT K H1 b ys ∧ R (ItzS K x b) H1
theorem pi_zipS {X : Cx} {e e2 : Expr} {ta : TA} {p pos tpos : Pos} {elts : List Expr} {kk : Nat} (hg : Gl X "zip") (hm : X.mg "zip" = none) (ha : PA X [e, e2] ta)
    (hs : starEach [e, e2] X.env = (false, eval e X.env) :: starEach [e2] X.env := by rfl) (hpl : (backTo pos (starEach [e2] X.env)).any (·.1) = false := by rfl) :
    PI X (.Tuple elts kk tpos) (.Call (.Name "zip" p) [e, e2] [] pos) (iZipS X.K ta) := by
  refine ⟨fun pins s σ H R I h => ?_⟩
  refine Call_ (ld_blt I hg hm PyProof.Rows.boot_zip (PyProof.Rows.callWith_type1 (thn (ha.run pos pins s σ H _ I h) fun us s1 ⟨vs, H1, I1, r1, q1⟩ => ?_) hs hpl))
  obtain ⟨x, b, ys, ex, hqy, q⟩ := q1
  subst ex
  cases r1 with
  | cons r rr =>
    cases rr with
    | cons r' rr =>
      cases rr
      obtain ⟨t, rfl⟩ := r
      cases r'
      have fresh5 : ∀ c, c ∈ [s1.heap.objs.size + 4, s1.heap.objs.size + 2, s1.heap.objs.size + 3, s1.heap.objs.size, s1.heap.objs.size + 1] → FpOk X pins H1 c := fun c hcm => by
        have e' : c = s1.heap.objs.size + 4 ∨ c = s1.heap.objs.size + 2 ∨ c = s1.heap.objs.size + 3 ∨ c = s1.heap.objs.size ∨ c = s1.heap.objs.size + 1 := by simpa using hcm
        have hle : s1.heap.objs.size ≤ c := by
          rcases e' with z | z | z | z | z
          · rw [z]; exact Nat.le_add_right _ _
          · rw [z]; exact Nat.le_add_right _ _
          · rw [z]; exact Nat.le_add_right _ _
          · rw [z]; exact Nat.le_refl _
          · rw [z]; exact Nat.le_add_right _ _
        exact I1.fpOk hle (I1.hok.fresh hle)
      obtain ⟨its2, rv2, p2, _⟩ := I1.tuple hqy
      obtain ⟨o2, ho2, _⟩ := id p2
      have hb : b < s1.heap.objs.size := Heap.lt_size ho2
      refine zip_begins2 (begins_text x t) (begins_tuple b its2.toArray) True.intro p2 fun h' hz hTI hTO g1 g2 hsz hk => wpAny_pyIter_zip hz ?_
      have I2 : Inv X pins σ H1 { s1 with heap := h' } := I1.kept (t' := s1.toks) hk
      have S : ZipSep2 (s1.heap.objs.size + 4) (s1.heap.objs.size + 2) (s1.heap.objs.size + 3) s1.heap.objs.size (s1.heap.objs.size + 1) [s1.heap.objs.size] [s1.heap.objs.size + 1, b] :=
        zip_sep2 (fun _ z => (by cases z)) (fun c z => by rw [List.mem_singleton.mp z]; exact hb)
      exact ⟨s1.heap.objs.size + 4, [s1.heap.objs.size + 4, s1.heap.objs.size + 2, s1.heap.objs.size + 3, s1.heap.objs.size, s1.heap.objs.size + 1], _, _, H1, rfl, I2,
        turn_zipS (t := t) S (show b ≠ s1.heap.objs.size + 1 from Nat.ne_of_lt (Nat.lt_succ_of_lt hb)), ⟨hz, hTI, ⟨_, _, hTO⟩, ⟨_, g1, rfl, rfl⟩, ⟨_, g2, rfl, rfl⟩⟩, fresh5, q⟩
/-- a loop over zip of a text and a tuple of the same length -/
theorem for_zipS {K : PySem.W.Frag} {x : Str} {b : Addr} {ys : List V} {g : TG} {tb : TS} {D : Ends} {σ : L2.St} {H : Hp} (hl : x.cps.toList.length = ys.length) (Pv : Nat → L2.St → Hp → Prop) (h0 : Pv 0 σ H) (hq : ∀ i σ H, Pv i σ H → SqT K H b ys)
    (hs : ∀ i c y T σ H, x.cps.toList[i]? = some c → ys[i]? = some y → Pv i σ H → H T = none → g (.ref T) σ (upd H T (.tup [.str ⟨#[c]⟩, y])) fun σ2 H2 => tb { D with nx := Pv (i + 1), ct := Pv (i + 1), bk := D.nx } σ2 H2) (hd : ∀ σ H, Pv ys.length σ H → D.nx σ H) :
    ∃ W : Nat → Nat → L2.St → Hp → Prop, (∃ m, W 0 m σ H) ∧ ∀ i m σ H, W i m σ H →
      ((ItzS K x b).stop i H ∧ D.nx σ H) ∨ ((ItzS K x b).go i H ∧ ∃ N : L2.St → Hp → Prop, (∀ σ' H', N σ' H' → ∃ m', m' < m ∧ W (i + 1) m' σ' H') ∧ ∀ v H', (ItzS K x b).yld i H v H' → g v σ H' fun σ2 H2 => tb { D with nx := N, ct := N, bk := D.nx } σ2 H2) := by
  have hz : x.cps.toList.length = x.cps.size := Array.length_toList
  refine ⟨fun i m σ H => m = ys.length - i ∧ i ≤ ys.length ∧ Pv i σ H, ⟨_, rfl, Nat.zero_le _, h0⟩, ?_⟩
  rintro i m σ H ⟨rfl, hi, p⟩
  have q := hq i σ H p
  by_cases hlt : i < ys.length
  · have hc : x.cps[i]? = some (x.cps.toList[i]'(by omega)) := by
      rw [← Array.getElem?_toList]
      exact List.getElem?_eq_getElem _
    refine .inr ⟨⟨ys, _, ys[i], q, hc, List.getElem?_eq_getElem hlt⟩, Pv (i + 1), fun σ' H' p' => ⟨ys.length - (i + 1), by omega, rfl, hlt, p'⟩, fun v H' y => ?_⟩
    obtain ⟨T, c, y, rfl, hT, rfl, h1, h2⟩ := y
    refine hs i c y T σ H ?_ (h2 ys q) p hT
    rw [Array.getElem?_toList]
    exact h1
  · have e : i = ys.length := by omega
    subst e
    exact .inl ⟨⟨ys, q, by omega, Nat.le_refl _, .inr rfl⟩, hd σ H p⟩
/-- the same in a comprehension -/
theorem lc_zipS {K : PySem.W.Frag} {x : Str} {b : Addr} {ys : List V} {g : TG} {tt : TT} {te : TE} {vs : List Nat} {σ : L2.St} {H1 : Hp} {D : Addr} {Qd : Hp → Prop} (hl : x.cps.toList.length = ys.length) (Pv : Nat → Hp → Prop) (h0 : Pv 0 (upd H1 D (.lst []))) (hq : ∀ i H, Pv i H → SqT K H b ys)
    (hs : ∀ i c y T H, x.cps.toList[i]? = some c → ys[i]? = some y → Pv i H → H T = none → g (.ref T) (wipe σ vs) (upd H T (.tup [.str ⟨#[c]⟩, y])) fun σ2 H2 => wipe σ2 vs = wipe σ vs ∧ tt σ2 H2 fun b H3 =>
      if b = true then te σ2 H3 fun y H4 => ∃ acc, H4 D = some (.lst acc) ∧ acc.length < sizeLine ∧ Pv (i + 1) (upd H4 D (.lst (acc ++ [y]))) else Pv (i + 1) H3) (hd : ∀ H, Pv ys.length H → Qd H) :
    ∃ W : Nat → Nat → Hp → Prop, (∃ m, W 0 m (upd H1 D (.lst []))) ∧ ∀ i m H, W i m H →
      ((ItzS K x b).stop i H ∧ Qd H) ∨ ((ItzS K x b).go i H ∧ ∃ Nx : Hp → Prop, (∀ H', Nx H' → ∃ m', m' < m ∧ W (i + 1) m' H') ∧ ∀ v H', (ItzS K x b).yld i H v H' → g v (wipe σ vs) H' fun σ2 H2 => wipe σ2 vs = wipe σ vs ∧ tt σ2 H2 fun b H3 =>
        if b = true then te σ2 H3 fun y H4 => ∃ acc, H4 D = some (.lst acc) ∧ acc.length < sizeLine ∧ Nx (upd H4 D (.lst (acc ++ [y]))) else Nx H3) := by
  have hz : x.cps.toList.length = x.cps.size := Array.length_toList
  refine ⟨fun i m H => m = ys.length - i ∧ i ≤ ys.length ∧ Pv i H, ⟨_, rfl, Nat.zero_le _, h0⟩, ?_⟩
  rintro i m H ⟨rfl, hi, p⟩
  have q := hq i H p
  by_cases hlt : i < ys.length
  · have hc : x.cps[i]? = some (x.cps.toList[i]'(by omega)) := by
      rw [← Array.getElem?_toList]
      exact List.getElem?_eq_getElem _
    refine .inr ⟨⟨ys, _, ys[i], q, hc, List.getElem?_eq_getElem hlt⟩, Pv (i + 1), fun H' p' => ⟨ys.length - (i + 1), by omega, rfl, hlt, p'⟩, fun v H' y => ?_⟩
    obtain ⟨T, c, y, rfl, hT, rfl, h1, h2⟩ := y
    refine hs i c y T H ?_ (h2 ys q) p hT
    rw [Array.getElem?_toList]
    exact h1
  · have e : i = ys.length := by omega
    subst e
    exact .inl ⟨⟨ys, q, by omega, Nat.le_refl _, .inr rfl⟩, hd H p⟩
end Nx

/-! A comprehension whose element may raise. -/
namespace Nx
open PySem PySem.Spec PyProof.Rows L2
/-- a frame is noted by its own address alone -/
theorem note_eq {e1 e2 : Env} (h : e1.frame = e2.frame) (v : Value) : noteFrame v e1 = noteFrame v e2 := by
  unfold noteFrame PySem.frameOf
  rw [h]
theorem frames_but {h1 h2 B B1 : Heap} {C : Addr} (k : ∀ b, b ≠ C → h2.get? b = h1.get? b) (hC : B.get? C ≠ none) (hB : ∀ b, B.get? b = none → B1.get? b = none) :
    ∀ {l : List Env}, h1.FunFrames B l → h2.FunFrames B1 l
  | [], _ => trivial
  | v :: l, x => by
    obtain ⟨x1, ⟨L, ob, x2, x3, x4, x5⟩, x6⟩ := x
    have nL : L ≠ C := fun z => hC (z ▸ x3)
    exact ⟨x1, ⟨L, ob, x2, hB L x3, (k L nL).trans x4, x5⟩, frames_but k hC hB x6⟩
theorem inv_xe {X : Cx} {pins : List (Addr × Obj)} {σ : L2.St} {H : Hp} {s : Shared} (xe : Value → Shared → Prop) (I : Inv X pins σ H s) : Inv { X with xe := xe } pins σ H s := by
  obtain ⟨⟨a1, a2, a3, a4, a5, a6, a7, a8, a9, a10, a11, a12, a13, a14, a15, a16, a17, a18⟩, b1, b2, b3, b4, b5, b6, b7, b8, b9, b10⟩ := I
  exact ⟨⟨a1, a2, a3, a4, a5, a6, a7, a8, a9, a10, a11, a12, a13, a14, a15, a16, a17, a18⟩, b1, b2, b3, b4, b5, b6, b7, b8, b9, b10⟩
theorem blk_raise {X : Cx} {E : XK} {pins pins0 : List (Addr × Obj)} {σ σ0 : L2.St} {H H3 : Hp} {s s3 s' : Shared} {sc : Scope} {fp : List Addr} {ce : Env} {C : Addr} {xe : Value → Shared → Prop} {u : Value} {E2 : Value → Shared → Prop}
    (hst : X.stack = X.env :: X.outer) (hf : X.env.frame = some X.env.locals) (tk : Takes X fun c d _ H => E c d H) (I3 : Inv X pins0 σ0 H3 s3) (hfp : ∀ b ∈ fp, FpOk X pins0 H3 b) (hC : s3.heap.objs.size ≤ C)
    (hce : ce.frame = X.env.frame) (hcl : ce.locals = C) (Ib : Inv { X.blk s3 H3 sc ce fp with xe := xe } pins σ H s) (c : L2.CX X.prog X.w X.stack H s E u s') :
    wpAny (model X.prog X.w) X.A (noteFrame u ce) (fun _ s2 => ∃ m, s2.heap.Ns C m ∧ ∀ h2, Heap.SameBut C s2.heap h2 → ∀ v : Env, v.frame = X.env.frame →
      wpAny (model X.prog X.w) X.A (passOn "comprehension.variables-let-go" u v : Sem Value) (fun _ _ => False) X.xe { s2 with heap := h2 }) E2 s' := by
  obtain ⟨a, B, H', cls, d, rfl, fl, hok, ub, na, os, ag, hE⟩ := c
  have hfr : X.A.frames = some (X.env :: X.outer) := by rw [I3.ok.frames, hst]
  rw [hst] at fl
  rw [note_eq hce]
  refine HandSPX.looks_onZ Zc.steady hfr hf fl fun h1 hh up1 => ?_
  have hbC : H C = none := hcl ▸ Ib.free
  have hCf : C ∉ frs X.stack := fun z => by
    rcases List.mem_cons.mp (I3.stkSub C z) with z | z
    · rw [z] at hC
      exact absurd (Nat.lt_of_lt_of_le I3.lt hC) (Nat.lt_irrefl _)
    · exact I3.nofs hC z
  obtain ⟨m, ⟨ob, es, ep, ho, hd, hr⟩, _⟩ := Ib.loc
  have ho : s.heap.get? C = some ob := hcl ▸ ho
  have hB : B.get? C = some ob := ub.keep C ob ho hbC hCf
  refine ⟨m, ⟨ob, es, ep, hh.1 C ob hB, hd, hr⟩, fun h2 sb2 v hv => ?_⟩
  have b1 : ∀ b o, (PySem.W.hideAll B [C]).get? b = some o → B.get? b = some o ∧ b ≠ C := fun b o q => ⟨PySem.W.of_hideAll _ q, fun z => by
    rw [z, PySem.W.hideAll_none [C] (List.mem_singleton.mpr rfl)] at q
    cases q⟩
  have b2 : ∀ b o, B.get? b = some o → b ≠ C → (PySem.W.hideAll B [C]).get? b = some o := fun b o q n => PySem.W.hideAll_get _ q (fun z => n (List.mem_singleton.mp z))
  have b3 : ∀ b, B.get? b = none → (PySem.W.hideAll B [C]).get? b = none := fun b q => by
    cases r : (PySem.W.hideAll B [C]).get? b with
    | none => rfl
    | some o =>
      rw [(b1 b o r).1] at q
      cases q
  generalize PySem.W.hideAll B [C] = B1 at b1 b2 b3
  obtain ⟨k1, k2, k3, oe, vs, T, oT, ts, he, hz, hdv, hv1, hnT, hTe, hT, hdT, hfl⟩ := hh
  have nC : ∀ b, B.get? b = none → b ≠ C := fun b q z => by
    rw [z, hB] at q
    cases q
  have he2 : h2.get? a = some oe := (sb2.2 a (nC a k2)).trans he
  have hh2 : HandSPX.HeldZ B1 (X.env :: X.outer) a (Zc cls d) X.env.locals h2 :=
    ⟨fun b o q => (sb2.2 b (b1 b o q).2).trans (k1 b o (b1 b o q).1), b3 a k2, frames_but (fun b n => sb2.2 b n) (by rw [hB]; exact fun z => by cases z) b3 k3, oe, vs, T, oT, ts, he2, hz, hdv, hv1, b3 T hnT, hTe, (sb2.2 T (nC T hnT)).trans hT, hdT, hfl⟩
  unfold PySem.passOn
  refine wpAny_bind (wpAny_field he2 hdv hv1 ?_)
  rw [if_neg (show ¬ ((Value.ref T == Value.none) = true) by simp)]
  rw [hv, hf]
  refine wpAny_bind (HandSPX.setFlight_onZ hh2 fun h3 hh3 up3 => ?_)
  refine wpAny_throw (tk _ _ ?_)
  -- what stands without the block's names
  have hid : ∀ b o, (PySem.W.hideAll s.heap [C]).get? b = some o → s.heap.get? b = some o ∧ b ≠ C := fun b o q => ⟨PySem.W.of_hideAll _ q, fun z => by
    rw [z, PySem.W.hideAll_none [C] (List.mem_singleton.mpr rfl)] at q
    cases q⟩
  have hid2 : ∀ b o, s.heap.get? b = some o → b ≠ C → (PySem.W.hideAll s.heap [C]).get? b = some o := fun b o q n => PySem.W.hideAll_get _ q (fun z => n (List.mem_singleton.mp z))
  have old : ∀ b o, s3.heap.get? b = some o → b ≠ C := fun b o q z => by
    rw [z] at q
    exact absurd (Nat.lt_of_lt_of_le (Heap.lt_size q) hC) (Nat.lt_irrefl _)
  have bu : Un (frs X.stack) fp H3 H s3.heap s.heap := Ib.base
  have Ix : Inv X pins0 σ0 H { s with heap := PySem.W.hideAll s.heap [C] } := by
    refine I3.call' (ch := fp) Ib.os ⟨fun b o e n f x => hid2 b o (bu.keep b o e n f x) (old b o e), fun b o e n f x => ?_, bu.free, fun b o e x => ?_, bu.tups, bu.frzs, bu.tbls⟩ (fun b o q => ?_) Ib.bare fun b hb => ⟨(hfp b hb).2.2.2.1, (hfp b hb).2.1, (hfp b hb).2.2.2.2.1, (hfp b hb).2.2.2.2.2⟩
    · obtain ⟨sl, q⟩ := bu.slot b o e n f x
      exact ⟨sl, hid2 b _ q (old b o e)⟩
    · obtain ⟨o', q⟩ := bu.there b o e x
      exact ⟨o', hid2 b _ q (old b o e)⟩
    · refine (Ib.hok b o q).stay (fun c u hc r => hid2 c u r fun z => ?_) (fun _ r => r) fun _ _ r => r
      rcases hc with hc | hc
      · rw [← hc, z, hbC] at q
        cases q
      · rw [z, hbC] at hc
        cases hc
  obtain ⟨G, g1, g2⟩ := restrict h3 fun b => (B1.get? b).isSome || decide (b ∈ frs X.stack)
  have gB : ∀ b o, B1.get? b = some o → G.get? b = some o := fun b o e => by
    rw [g1 b (by simp [e])]
    exact hh3.1 b o e
  have gF : ∀ b, b ∈ frs X.stack → G.get? b = h3.get? b := fun b hb => g1 b (by simp [hb])
  have og : ∀ b o, G.get? b = some o → h3.get? b = some o ∧ ((B1.get? b).isSome = true ∨ b ∈ frs X.stack) := fun b o e => by
    cases q : ((B1.get? b).isSome || decide (b ∈ frs X.stack)) with
    | false =>
      rw [g2 b q] at e
      cases e
    | true =>
      rw [g1 b q] at e
      exact ⟨e, by simpa [Bool.or_eq_true] using q⟩
  have hC' : H' C = none := ub.free C ob ho hbC
  have fs : ∀ b o, s.heap.get? b = some o → b ≠ C → b ∈ frs X.stack → ∃ sl, G.get? b = some { o with slots := sl } := fun b o e n hb => by
    obtain ⟨sl, q⟩ := ub.slot b o e hb
    have nf : ∀ vs, o.data ≠ .fields vs := by
      obtain ⟨_, o2, q2, z⟩ := Ix.stack.mem hb
      have q2 := (hid b o2 q2).1
      rw [e] at q2
      cases q2
      exact z
    obtain ⟨sl1, q1⟩ := up1 b _ q nf
    obtain ⟨sl3, q3⟩ := up3 b _ ((sb2.2 b n).trans q1) nf
    exact ⟨sl3, by rw [gF b hb]; exact q3⟩
  refine ⟨a, B1, { s with heap := G, gens := s'.gens, drawn := s'.drawn, toks := s'.toks }, pins0, σ0, H', cls, d, rfl, ?_, fun b o e hb => ?_, Heap.UpToSlots.of_keeps fun b o e => (og b o e).1, .inr (.inr (by rw [hst]; exact hh3)), na, os, ag, hE⟩
  · refine L2.Inv.call (s := { s with heap := PySem.W.hideAll s.heap [C] }) (ch := []) Ix ⟨fun b o e n hb _ => gB b o (b2 b o (ub.keep b o (hid b o e).1 n hb) (hid b o e).2), fun b o e n hb _ => fs b o (hid b o e).1 (hid b o e).2 hb, fun b o e n _ => ub.free b o (hid b o e).1 n, fun b o e _ => ?_, ub.tups, ub.frzs, ub.tbls⟩ (fun b o q => ?_) ag (fun _ z => nomatch z)
    · by_cases hb : b ∈ frs X.stack
      · obtain ⟨sl, q⟩ := fs b o (hid b o e).1 (hid b o e).2 hb
        exact ⟨_, q⟩
      · obtain ⟨o', q⟩ := ub.there b o (hid b o e).1 hb
        exact ⟨o', gB b o' (b2 b o' q (hid b o e).2)⟩
    · refine (hok b o q).stay (fun c u hc r => gB c u (b2 c u r fun z => ?_)) (fun _ r => r) fun _ _ r => r
      rcases hc with hc | hc
      · rw [← hc, z, hC'] at q
        cases q
      · rw [z, hC'] at hc
        cases hc
  · obtain ⟨e', h⟩ := og b o e
    rcases h with h | h
    · obtain ⟨o', q⟩ := Option.isSome_iff_exists.mp h
      have z := hh3.1 b o' q
      rw [e'] at z
      cases z
      exact q
    · exact absurd h hb
/-- what stands behind a block: its end, or what it let out -/
def postE (M : Model) (A : Around) (E : Value → Shared → Prop) (use : Option (Value → Sem Unit)) (Q : Value → Shared → Prop) (acc : Value) (ce : Env) (r : Result) (s' : Shared) : Prop :=
  match r with
  | .ok f => compPost M A E use Q acc ce.locals (.ok f) s'
  | .error x => ∃ m, s'.heap.Ns ce.locals m ∧ ∀ h2, Heap.SameBut ce.locals s'.heap h2 → ∀ v : Env, v.frame = ce.frame →
      wpAny M A (passOn "comprehension.variables-let-go" x v : Sem Value) (fun _ _ => False) E { s' with heap := h2 }
theorem comp_freeE {M : Model} {A : Around} {E : Value → Shared → Prop} {s : Shared} {env : Env} {e : Expr} {scope : Scope} {pos : Pos} {newAcc first : Sem Value} {g : Comprehension} {gs : List Comprehension} {cl : List (Str × Addr)}
    {use : Option (Value → Sem Unit)} {Q : Value → Shared → Prop} (c1 : clausesOf e = g :: gs) (c2 : ∀ x, foldedSetIterable g.iter env x = pure x) (c3 : closureFor scope env = pure cl) (c4 : scope.kind = .function)
    (c5 : ∀ x ∈ scope.names, x.2 = .local → scope.names.lookup x.1 = some .local)
    (h : wpAny M A first (fun x t1 => wpAny M A (pyIter x) (fun it t2 => wpAny M A newAcc (fun acc t3 => wpAny M A (newFunctionEnv scope env.globals cl [] env.qual none .none (some env)) (fun ce t4 =>
      codeAny M A (.compStart e 0 it acc { ce with scope := relabel scope env }) (postE M A E use Q acc ce) t4) E t3) E t2) E t1) E s) :
    wpAny M A (comprehension e scope env pos newAcc false first use) Q E s := by
  have keep : ∀ (v : Value) (t : Shared), E v t → E v t := fun _ _ y => y
  unfold comprehension
  rw [c3, c1]
  apply wpAny_bind
  refine wpAny_mono h (fun x t1 h1 => ?_) keep
  apply wpAny_bind
  apply wpAny_standAt
  apply wpAny_bind
  refine wpAny_of_eq (c2 x) ?_
  apply wpAny_bind
  apply wpAny_holding
  refine wpAny_mono h1 (fun it t2 h2 => ?_) keep
  apply wpAny_standIf
  apply wpAny_bind
  refine wpAny_mono h2 (fun acc t3 h3 => ?_) keep
  apply wpAny_bind
  apply wpAny_pure
  apply wpAny_bind
  refine wpAny_mono h3 (fun ce t4 h4 => ?_) keep
  dsimp only
  have own : ∀ x ∈ (scope.names.filter fun x => (x.2 == .local || x.2 == .cell) && x.1 != (".0" : Str)).reverse, x.2 = .local →
      Env.kindOf { ce with scope := relabel scope env } x.1 = some .local := fun x hx hl => by
    have hm := (List.mem_filter.mp (List.mem_reverse.mp hx)).1
    exact lookup_relabel_local (c5 x hm hl)
  apply wpAny_holding
  apply wpAny_bind
  apply wpAny_attempt
  apply wpAny_holding
  refine wpAny_run (codeAny_mono h4 fun r t hr => ?_)
  cases r with
  | ok f =>
    have hr : compPost M A E use Q acc ce.locals (.ok f) t := hr
    cases use with
    | none =>
      obtain ⟨m, hn, hq⟩ := hr
      apply wpAny_bind
      apply wpAny_holding
      refine wpAny_comp_letGo (cenv := { ce with scope := relabel scope env }) c4 _ t m own hn fun h2 m2 _ sb => ?_
      exact wpAny_pure (hq h2 sb)
    | some u =>
      apply wpAny_bind
      apply wpAny_rule
      apply wpAny_bind
      apply wpAny_holding
      refine wpAny_mono hr (fun _ t5 hq => ?_) keep
      obtain ⟨m, hn, hq⟩ := hq
      apply wpAny_bind
      refine wpAny_comp_letGo (cenv := { ce with scope := relabel scope env }) c4 _ t5 m (fun x hx => ?_) hn fun h2 m2 _ sb => wpAny_pure (hq h2 sb)
      refine own x ?_
      rcases List.mem_append.mp hx with z | z
      · exact List.mem_of_mem_drop z
      · exact List.mem_of_mem_take z
  | error x =>
    obtain ⟨m, hn, hq⟩ := hr
    apply wpAny_bind
    apply wpAny_holding
    refine wpAny_comp_letGo (cenv := { ce with scope := relabel scope env }) c4 _ t m own hn fun h2 m2 _ sb => ?_
    exact wpAny_mono (hq h2 sb _ rfl) (fun _ _ z => z.elim) keep
theorem lc_coreE {X : Cx} {E : XK} {pins : List (Addr × Obj)} {s : Shared} {σ : L2.St} {H : Hp} {Q : VK} {elt tg iter : Expr} {ifs : List Expr} {scope : Scope} {own : List (Str × Nat)} {pos pos' : Pos} {wi : TI} {g : TG} {tt : TT} {te : TE}
    {use : Option (Value → Sem Unit)} {Qf : Value → Shared → Prop} (hst : X.stack = X.env :: X.outer) (hf : X.env.frame = some X.env.locals) (tk : Takes X fun c d _ H => E c d H)
    (hc : X.calm = true) (hN : X.N.Nodup) (I : Inv X pins σ H s) (hi : PI X tg iter wi) (ok : BlkOk X.N X.env.scope scope own)
    (hg : ∀ (t : Shared) (H : Hp) (C : Addr) (cl : List (Str × Addr)) (fp : List Addr), PG (X.blk t H scope (compEnvC scope cl C X.env) fp) tg g)
    (ht : ∀ (t : Shared) (H : Hp) (C : Addr) (cl : List (Str × Addr)) (fp : List Addr), PTs (X.blk t H scope (compEnvC scope cl C X.env) fp) ifs tt)
    (he : ∀ (t : Shared) (H : Hp) (C : Addr) (cl : List (Str × Addr)) (fp : List Addr) (xe : Value → Shared → Prop), (∀ σ, PassesAt (L2.CX X.prog X.w) { X.blk t H scope (compEnvC scope cl C X.env) fp with xe := xe } σ E) →
      PE { X.blk t H scope (compEnvC scope cl C X.env) fp with xe := xe } elt te)
    (hs : ∀ x, foldedSetIterable iter X.env x = pure x) (h : tLc wi g tt te (own.map (·.2)) σ H Q)
    (hRR : ∀ D C t m H', Inv X pins σ H' t → Q (.ref D) H' → t.heap.Ns C m → FpOk X pins H' C → compPost (model X.prog X.w) X.A X.xe use Qf (.ref D) C (.ok .next) t) :
    wpAny (model X.prog X.w) X.A (comprehension (.ListComp elt [⟨tg, iter, ifs, 0⟩] scope pos) scope X.env pos' (newList []) false (eval iter X.env) use) Qf X.xe s := by
  have hfree : ∀ y ∈ scope.names, y.2 = .free → ∃ c, X.env.cells.lookup y.1 = some c := fun y hy e => by
    rcases ok.free y hy e with k | k
    · exact I.ok.has _ (.inl k)
    · exact I.ok.has _ (.inr k)
  refine comp_freeE (use := use) rfl hs (closure_ok hfree) ok.kind (fun y hy e => by rw [ok.uniq y hy, e]) ?_
  refine thn (hi.run pins s σ H _ I h) fun xv s1 hx => thn hx fun itv s2 h2 => ?_
  obtain ⟨it, fp, tn, J, H2, rfl, I2, T, st2, f2, q⟩ := h2
  refine wpAny_newObj_type (newEnv_comp ?_) (by show 0 ≤ sizeLine; decide)
  generalize hD : s2.heap.objs.size = D
  have hDn : H2 D = none := I2.hok.fresh (Nat.le_of_eq hD)
  obtain ⟨W, ⟨m0, w0⟩, turn⟩ := q D hDn
  generalize hs3 : ({ s2 with heap := s2.heap.push { cls := .type "list", data := .seq ([] : List Value).toArray } } : Shared) = s3
  have h3 : s3.heap = s2.heap.push { cls := .type "list", data := .seq ([] : List Value).toArray } := by rw [← hs3]
  have I3 : Inv X pins σ (upd H2 D (.lst [])) s3 := by
    rw [← hs3]
    refine I2.laid (t' := s2.toks) (fun b o e => Heap.get?_push_of_some _ e) (Nat.le_of_eq hD) ⟨Nat.zero_le _, [], 0, .nil, ?_⟩
    rw [← hD]
    exact Heap.get?_push_size _ rfl
  have f3 : ∀ b ∈ fp, FpOk X pins (upd H2 D (.lst [])) b ∧ b < s3.heap.objs.size := fun b hb => by
    obtain ⟨o, e, _⟩ := T.obj _ _ st2 b hb
    have hlt := Heap.lt_size e
    refine ⟨⟨?_, (f2 b hb).2⟩, by rw [h3, Heap.size_push]; exact Nat.lt_succ_of_lt hlt⟩
    rw [upd_ne (by rw [← hD]; exact Nat.ne_of_lt hlt)]
    exact (f2 b hb).1
  have st3 : tn 0 s3.heap := T.keep _ _ _ st2 fun b _ o e => by
    rw [h3]
    exact Heap.get?_push_of_some _ e
  have I4 := block_start I3 ok hN f3
  have nfp : ∀ b ∈ fp, (upd H2 D (.lst [])) b = none := fun b hb => (f3 b hb).1.1
  -- the block's names, its context
  obtain ⟨e0, he0⟩ : ∃ e0 : Env, e0 = newEnv scope s3.heap.objs.size X.env.globals (cellsFrom (s3.heap.objs.size + 1) scope.names (cloFrom X.env.cells scope.names [])) X.env.qual none .none (some X.env) X.env.builtins := ⟨_, rfl⟩
  have l0 : e0.locals = s3.heap.objs.size := by
    rw [he0]
    rfl
  have r0 : e0.frame = X.env.frame := by
    rw [he0]
    rfl
  show codeAny _ _ (.compStart (.ListComp elt [⟨tg, iter, ifs, 0⟩] scope pos) 0 (.ref it) (.ref D) (compEnvC scope (cellsFrom (s3.heap.objs.size + 1) scope.names (cloFrom X.env.cells scope.names [])) s3.heap.objs.size X.env))
    (postE (model X.prog X.w) X.A X.xe use Qf (.ref D) (newEnv scope s3.heap.objs.size X.env.globals (cellsFrom (s3.heap.objs.size + 1) scope.names (cloFrom X.env.cells scope.names [])) X.env.qual none .none (some X.env) X.env.builtins)) { s3 with heap := pushCells (s3.heap.push { cls := .type "dict", data := .dict #[] }) scope.names }
  rw [← he0]
  have pg := hg s3 (upd H2 D (.lst [])) s3.heap.objs.size (cellsFrom (s3.heap.objs.size + 1) scope.names (cloFrom X.env.cells scope.names [])) fp
  have pt := ht s3 (upd H2 D (.lst [])) s3.heap.objs.size (cellsFrom (s3.heap.objs.size + 1) scope.names (cloFrom X.env.cells scope.names [])) fp
  have pe := he s3 (upd H2 D (.lst [])) s3.heap.objs.size (cellsFrom (s3.heap.objs.size + 1) scope.names (cloFrom X.env.cells scope.names [])) fp
  generalize hce : compEnvC scope (cellsFrom (s3.heap.objs.size + 1) scope.names (cloFrom X.env.cells scope.names [])) s3.heap.objs.size X.env = ce at I4 pg pt pe ⊢
  have cL : ce.locals = s3.heap.objs.size := by
    subst hce
    rfl
  have cF : ce.frame = X.env.frame := by
    subst hce
    rfl
  generalize hH3 : upd H2 D (.lst []) = H3 at I3 I4 pg pt pe w0 nfp f3
  generalize hs4 : ({ s3 with heap := pushCells (s3.heap.push { cls := .type "dict", data := .dict #[] }) scope.names } : Shared) = s4 at I4 ⊢
  have st4 : tn 0 s4.heap := T.keep _ _ _ st3 fun b _ o e => by
    rw [← hs4]
    exact pushCells_keeps _ _ _ _ (Heap.get?_push_of_some _ e)
  have stat : ∀ {σ' : L2.St} {H' : Hp} {s' : Shared}, Inv (X.blk s3 H3 scope ce fp) [] σ' H' s' → (∀ b ∈ fp, H' b = none) → ∀ b ∈ fp, FpOk (X.blk s3 H3 scope ce fp) [] H' b := fun {σ' H' s'} J hn b hb =>
    ⟨hn b hb, (J.ok.exf b hb).1, J.ok.exfs b hb, .inl hb, fun x c e => (J.ok.exf b hb).2 x c e, fun p hp => absurd (show p ∈ ([] : List (Addr × Obj)) ++ [] from hp) (by simp)⟩
  have pe := pe (notedBy (model X.prog X.w) X.A ce fun e s' => postE (model X.prog X.w) X.A X.xe use Qf (.ref D) e0 (.error e) s') fun τ pins' Hb sb u s' J c => by
    have z := blk_raise (E2 := fun e s' => postE (model X.prog X.w) X.A X.xe use Qf (.ref D) e0 (.error e) s') hst hf tk I3 (fun b hb => (f3 b hb).1) (Nat.le_refl _) cF cL J c
    refine wpAny_mono z (fun _ s5 q5 => ?_) fun _ _ y => y
    obtain ⟨m, hn, q5⟩ := q5
    refine ⟨m, by rw [l0]; exact hn, fun h2 sb2 v hv => q5 h2 (by rw [l0] at sb2; exact sb2) v (hv.trans r0)⟩
  have loop : codeAny (model X.prog X.w) X.A (.compLoop (.ListComp elt [⟨tg, iter, ifs, 0⟩] scope pos) 0 (.ref it) (.ref D) ce) (postE (model X.prog X.w) X.A X.xe use Qf (.ref D) e0) s4 := by
    refine compLoop_any (fun n s' => ∃ i H', Inv (X.blk s3 H3 scope ce fp) [] (wipe σ (own.map (·.2))) H' s' ∧ tn i s'.heap ∧ (∀ b ∈ fp, H' b = none) ∧ W i n H') ?_ m0 ⟨0, H3, I4, st4, nfp, w0⟩
    rintro n s5 ⟨i, H5, I5, st5, n5, w5⟩
    rcases turn i n H5 w5 with ⟨stop, qq⟩ | ⟨go, Nx, hNx, step⟩
    · refine thnF (T.done (X.blk s3 H3 scope ce fp) rfl rfl rfl hc i [] s5 _ H5 (fun _ _ => False) I5 (stat I5 n5) st5 stop) fun r s6 ⟨hr, I6⟩ => ?_
      subst hr
      have I7 : Inv X pins σ H5 s6 := I3.call' (ch := fp) I6.os I6.base I6.hok I6.bare fun b hb =>
        ⟨(f3 b hb).1.2.2.2.1, (f3 b hb).1.2.1, (f3 b hb).1.2.2.2.2.1, (f3 b hb).1.2.2.2.2.2⟩
      have nC : H5 s3.heap.objs.size = none := by
        have z : H5 ce.locals = none := I6.free
        rw [cL] at z
        exact z
      obtain ⟨m, hn, _⟩ := I6.loc
      have hn : s6.heap.Ns ce.locals m := hn
      rw [cL] at hn
      show compPost _ _ _ _ _ _ e0.locals _ _
      rw [l0]
      exact hRR D s3.heap.objs.size s6 m H5 I7 qq hn (I3.fpOk (Nat.le_refl _) nC)
    · refine thnF (T.item (X.blk s3 H3 scope ce fp) rfl rfl rfl hc i [] s5 _ H5 (fun _ _ => False) I5 (stat I5 n5) st5 go) fun r s6 ⟨u, hr, h6⟩ => ?_
      subst hr
      refine thnF h6 fun _ s7 ⟨x, H7, I7, r7, y7, st7, n7⟩ => ?_
      have I7' := I7.pinned (stat I7 n7) (T.obj _ _ st7)
      refine thnF (pg.run _ s7 _ H7 x u _ I7' r7 (step x H7 y7)) fun _ s8 ⟨σ8, H8, I8, hw8, q8⟩ => ?_
      refine thnF (pt.run _ s8 σ8 H8 _ I8 q8) fun b s9 ⟨H9, I9, q9⟩ => ?_
      have fin : ∀ {s' : Shared} {H' : Hp}, Inv (X.blk s3 H3 scope ce fp) ([] ++ pinsAt fp s7.heap) σ8 H' s' → Nx H' →
          ∃ m, m < n ∧ ∃ i H', Inv (X.blk s3 H3 scope ce fp) [] (wipe σ (own.map (·.2))) H' s' ∧ tn i s'.heap ∧ (∀ b ∈ fp, H' b = none) ∧ W i m H' := fun {s' H'} J nx => by
        obtain ⟨m', hm, w'⟩ := hNx H' nx
        have pin' : ∀ b ∈ fp, ∀ o, s7.heap.get? b = some o → s'.heap.get? b = some o ∧ H' b = none := fun b hb o e => by
          have z := J.pin (b, o) (List.mem_append_right _ (List.mem_append_right _ (mem_pinsAt hb e)))
          exact ⟨z.1, z.2.1⟩
        have hl : (wipe σ (own.map (·.2))).length = σ8.length := by rw [← hw8, wipe_length]
        refine ⟨m', hm, i + 1, H', (J.unpinned (pins := [])).weak hl (fun j v e => ?_), T.keep _ _ _ st7 fun b hb o e => (pin' b hb o e).1, fun b hb => ?_, w'⟩
        · rw [← hw8] at e
          exact (wipe_some e).1
        · obtain ⟨o, e, _⟩ := T.obj _ _ st7 b hb
          exact (pin' b hb o e).2
      cases b with
      | false =>
        simp only [Bool.false_eq_true, if_false] at q9 ⊢
        exact fin I9 q9
      | true =>
        simp only [if_true] at q9 ⊢
        refine thn (pe.run _ s9 σ8 H9 _ (inv_xe _ I9) q9) fun z s10 ⟨yv, H10, I10, r10, acc, hD10, hz10, nx⟩ => ?_
        exact app_ok (X := X.blk s3 H3 scope ce fp) (inv_xe (fun _ _ => False) I10) hD10 hz10 r10 fun s11 I11 => fin I11 nx
  exact codeAny_compStart_list loop (T.self X.A 0 _ _ _ st4 loop)
/-- as a value -/
theorem pe_lcE {X : Cx} {E : XK} {elt tg iter : Expr} {ifs : List Expr} {scope : Scope} {own : List (Str × Nat)} {pos : Pos} {wi : TI} {g : TG} {tt : TT} {te : TE}
    (hst : X.stack = X.env :: X.outer) (hf : X.env.frame = some X.env.locals) (tk : Takes X fun c d _ H => E c d H) (hc : X.calm = true) (hN : X.N.Nodup) (hi : PI X tg iter wi) (ok : BlkOk X.N X.env.scope scope own)
    (hg : ∀ (t : Shared) (H : Hp) (C : Addr) (cl : List (Str × Addr)) (fp : List Addr), PG (X.blk t H scope (compEnvC scope cl C X.env) fp) tg g)
    (ht : ∀ (t : Shared) (H : Hp) (C : Addr) (cl : List (Str × Addr)) (fp : List Addr), PTs (X.blk t H scope (compEnvC scope cl C X.env) fp) ifs tt)
    (he : ∀ (t : Shared) (H : Hp) (C : Addr) (cl : List (Str × Addr)) (fp : List Addr) (xe : Value → Shared → Prop), (∀ σ, PassesAt (L2.CX X.prog X.w) { X.blk t H scope (compEnvC scope cl C X.env) fp with xe := xe } σ E) →
      PE { X.blk t H scope (compEnvC scope cl C X.env) fp with xe := xe } elt te)
    (hs : ∀ x, foldedSetIterable iter X.env x = pure x := by intro _; rfl) : PE X (.ListComp elt [⟨tg, iter, ifs, 0⟩] scope pos) (tLc wi g tt te (own.map (·.2))) := by
  refine ⟨fun pins s σ H Q I h => ?_⟩
  rw [eval_ListComp]
  refine lc_coreE hst hf tk hc hN I hi ok hg ht he hs h fun D C t m H' J q hn f => ⟨m, hn, fun h2 sb => ?_⟩
  obtain ⟨f0, f1, f2, f3, f4, f5⟩ := f
  exact ⟨.ref D, H', J.turned (t' := t.toks) (fun b o hb e => (sb.2 b hb).trans e) f0 f1 f3 f4 f5, rfl, q⟩
/-- name = [..] on one line -/
theorem ps_setLcE {X : Cx} {E : XK} {i : Nat} {y : Str} {py : Pos} {elt tg iter : Expr} {ifs : List Expr} {scope : Scope} {own : List (Str × Nat)} {pos spos : Pos} {wi : TI} {g : TG} {tt : TT} {te : TE}
    (hst : X.stack = X.env :: X.outer) (hf : X.env.frame = some X.env.locals) (tk : Takes X fun c d _ H => E c d H) (hc : X.calm = true) (hN : X.N.Nodup) (hy : X.N[i]? = some y) (hyl : X.env.scope.names.lookup y = some .local)
    (hsw : swapsWith (.ListComp elt [⟨tg, iter, ifs, 0⟩] scope pos) (some (.Name y py)) spos.line X.env = pure true) (hi : PI X tg iter wi) (ok : BlkOk X.N X.env.scope scope own)
    (hg : ∀ (t : Shared) (H : Hp) (C : Addr) (cl : List (Str × Addr)) (fp : List Addr), PG (X.blk t H scope (compEnvC scope cl C X.env) fp) tg g)
    (ht : ∀ (t : Shared) (H : Hp) (C : Addr) (cl : List (Str × Addr)) (fp : List Addr), PTs (X.blk t H scope (compEnvC scope cl C X.env) fp) ifs tt)
    (he : ∀ (t : Shared) (H : Hp) (C : Addr) (cl : List (Str × Addr)) (fp : List Addr) (xe : Value → Shared → Prop), (∀ σ, PassesAt (L2.CX X.prog X.w) { X.blk t H scope (compEnvC scope cl C X.env) fp with xe := xe } σ E) →
      PE { X.blk t H scope (compEnvC scope cl C X.env) fp with xe := xe } elt te)
    (hs : ∀ x, foldedSetIterable iter X.env x = pure x := by intro _; rfl) : PS X (.Assign [.Name y py] (.ListComp elt [⟨tg, iter, ifs, 0⟩] scope pos) spos) (tAsg (tLc wi g tt te (own.map (·.2))) (gName i)) := by
  refine ⟨fun pins s σ H D I h => ?_⟩
  rw [exec_Assign_Name_used _ _ _ _ hsw]
  apply wpAny_bind
  apply wpAny_standAt
  apply wpAny_bind
  show wpAny _ X.A (do let _ ← comprehension (.ListComp elt [⟨tg, iter, ifs, 0⟩] scope pos) scope X.env (firstIterPos [⟨tg, iter, ifs, 0⟩] pos) (newList []) false (eval iter X.env) (some (assign (.Name y py) X.env))) _ _ s
  have h : tLc wi g tt te (own.map (·.2)) σ H (fun x H1 => gName i x σ H1 D.nx) := h
  apply wpAny_bind
  refine thn (lc_coreE (Qf := fun _ t => SP X pins D .next t) hst hf tk hc hN I hi ok hg ht he hs h fun L C t m H' J q hn f => ?_) fun _ t hq => wpAny_pure (wpAny_pure hq)
  show wpAny _ _ (assign (.Name y py) X.env (.ref L)) _ _ _
  refine wpAny_assign_Name (store_ok2 (v := V.ref L) J hN hy (.inl hyl) rfl (fun t2 J2 z => ?_) (.inr hyl))
  obtain ⟨a, sb, ha⟩ := z
  obtain ⟨f0, f1, f2, f3, f4, f5⟩ := f
  have haC : C ≠ a := by
    rcases ha with z | z
    · rw [z]
      exact f1
    · exact fun e => f4 y a z e.symm
  refine ⟨m, hn.sameBut sb haC, fun h3 sb3 => ⟨_, H', J2.turned (t' := t2.toks) (fun b o hb e => (sb3.2 b hb).trans e) f0 f1 f3 f4 f5, q⟩⟩
end Nx

/-! Several except clauses, with a name or without. -/
namespace Nx
open PySem PySem.Spec PyProof.Rows L2
/-- a clause: its class, the slot of its name, its suite -/
abbrev Clz := Value × Option Nat × (Addr → Value → Option Addr → TS)
/-- the ends of a suite behind which slot i is forgotten -/
def endsWo (D : Ends) (i : Nat) : Ends := { nx := fun σ H => D.nx (σ.set i none) H, rt := D.rt, bk := fun σ H => D.bk (σ.set i none) H, ct := fun σ H => D.ct (σ.set i none) H }
def clzTS (D : Ends) (z : Clz) (a : Addr) (cls : Value) (d : Option Addr) (σ : L2.St) (H : Hp) : Prop := match z.2.1 with
  | none => z.2.2 a cls d D σ H
  | some i => z.2.2 a cls d (endsWo D i) (σ.set i (some (.ref a))) H
def wClz (K : PySem.W.Frag) (Wout : WX) (D : Ends) : List Clz → WX
  | [] => Wout
  | z :: r => fun cls d σ H => ∃ b, PySem.W.exmOne K cls z.1 = some b ∧ (b = true → ∀ a, H a = none → clzTS D z a cls d σ H) ∧ (b = false → wClz K Wout D r cls d σ H)
inductive Clauses (X : Cx) : List ExceptHandler → List Clz → Prop where
  | nil : Clauses X [] []
  | only {x : Str} {c : Value} {ts : Addr → Value → Option Addr → TS} {b0 : Stmt} {bs : List Stmt} {p1 p2 : Pos} {hs : List ExceptHandler} {l : List Clz} (hc : Names X x c)
      (su : ∀ (a : Addr) (oe : Obj) (cls : Value) (d : Option Addr) (pn : List (Addr × Obj)), Zc cls d oe → (∃ vs, oe.data = .fields vs) → PSs (X.suite a ((a, oe) :: pn)) (b0 :: bs) (ts a cls d)) (r : Clauses X hs l) :
      Clauses X (.ExceptHandler (some (.Name x p1)) none (b0 :: bs) p2 :: hs) ((c, none, ts) :: l)
  | as {x n : Str} {i : Nat} {c : Value} {ts : Addr → Value → Option Addr → TS} {b0 : Stmt} {bs : List Stmt} {p1 p2 : Pos} {hs : List ExceptHandler} {l : List Clz} (hi : X.N[i]? = some n) (hl : X.env.kindOf n = some .local) (hc : Names X x c)
      (su : ∀ (a : Addr) (oe : Obj) (cls : Value) (d : Option Addr) (pn : List (Addr × Obj)), Zc cls d oe → (∃ vs, oe.data = .fields vs) → PSs (X.suite a ((a, oe) :: pn)) (b0 :: bs) (ts a cls d)) (r : Clauses X hs l) :
      Clauses X (.ExceptHandler (some (.Name x p1)) (some n) (b0 :: bs) p2 :: hs) ((c, some i, ts) :: l)
theorem ps_tries {X : Cx} {body : List Stmt} {h0 : ExceptHandler} {hs : List ExceptHandler} {l : List Clz} {pos : Pos} {tb : WX → TS} {Wout : WX}
    (hst : X.stack = X.env :: X.outer) (hf : X.env.frame = some X.env.locals) (hN : X.N.Nodup) (tk : Takes X Wout)
    (hb : ∀ (W : WX) (pn : List (Addr × Obj)) (xe : Value → Shared → Prop), Takes (X.tr pn xe) W → PassesOwn (model X.prog X.w) X.A X.env xe → PSs (X.tr pn xe) body (tb W)) (hh : Clauses X (h0 :: hs) l) :
    PS X (.Try body (h0 :: hs) [] [] pos) (fun D σ H => tb (wClz X.K Wout D l) D σ H) := by
  refine ⟨fun pins s σ H D I h => ?_⟩
  have ok := I.ok
  have hfr : X.A.frames = some (X.env :: X.outer) := by rw [ok.frames, hst]
  refine wpAny_Try_except ?_
  have run := (hb (wClz X.K Wout D l) (X.pn ++ pins) (fun e t1 => wpAny (model X.prog X.w) X.A (noteFrame e X.env) (fun _ t2 => wpAny (model X.prog X.w) X.A (setFlight e none) (fun _ t3 =>
    wpAny (model X.prog X.w) X.A (handleBy e X.env (h0 :: hs)) (SP X pins D) X.xe t3) X.xe t2) X.xe t1) (fun u t' xx => ?_) PassesOwn.looking).run [] s σ H D (I.toTry _) h
  · refine wpAny_mono run (fun f t1 z => ?_) (fun e t1 z => z)
    cases f with
    | next =>
      obtain ⟨σ1, H1, J1, q⟩ := z
      exact wpAny_execs_nil ⟨σ1, H1, J1.ofTry ok, q⟩
    | brk =>
      obtain ⟨σ1, H1, J1, q⟩ := z
      exact ⟨σ1, H1, J1.ofTry ok, q⟩
    | cont =>
      obtain ⟨σ1, H1, J1, q⟩ := z
      exact ⟨σ1, H1, J1.ofTry ok, q⟩
    | ret u =>
      obtain ⟨v, σ1, H1, J1, r, q⟩ := z
      exact ⟨v, σ1, H1, J1.ofTry ok, r, q⟩
  · obtain ⟨a, B, sI, pins1, σ1, H1, cls, d, rfl, J0, nb, up, sky, na, os, ag, w⟩ := xx
    have J : Inv X pins σ1 H1 sI := J0.ofTry ok
    have sky : Sky B (X.env :: X.outer) a (Zc cls d) X.env.locals t'.heap := by
      rw [← hst]
      exact sky
    show wpAny (model X.prog X.w) X.A (noteFrame (.ref a) X.env) _ _ _
    refine Sky.land Zc.steady hfr hf sky fun h3 fl3 up3 => ?_
    have J3 : Inv X pins σ1 H1 { t' with heap := h3 } := J.landed nb fl3.1 (up.trans up3) os ag
    obtain ⟨oe3, vs3, he3, hz3, hd3⟩ := fl3.there
    have nfr : a ∉ frs (X.env :: X.outer) := fun hm => by
      obtain ⟨_, o1, e1, hnf⟩ := fl3.2.2.1.mem hm
      rw [he3] at e1
      cases e1
      exact hnf _ hd3
    have nL : a ≠ X.env.locals := fun z => nfr (List.mem_filterMap.mpr ⟨X.env, List.mem_cons_self, by rw [hf, z]⟩)
    have nF : a ∉ X.fs := fun hm => by
      obtain ⟨e, he, q⟩ := List.mem_filterMap.mp hm
      exact nfr (List.mem_filterMap.mpr ⟨e, List.mem_cons_of_mem _ he, q⟩)
    have S3 := J3.suite he3 hd3 na nL nF
    have LT : PySem.W.Looks (model X.prog X.w) h3 (typeOf (.ref a)) cls := fun A Q E s k q => wpAny_typeOf_ref (k _ _ he3) (by rw [hz3.1]; exact q)
    have test : ∀ {x : Str} {c : Value} {p1 : Pos} (hc : Names X x c) {Q : Value → Shared → Prop} {E : Value → Shared → Prop}, Q c { t' with heap := h3 } →
        wpAny (model X.prog X.w) (X.A.mark (some (.ref a))) (eval (.Name x p1) X.env) Q E { t' with heap := h3 } := fun {x c p1} hc {Q E} q => by
      obtain ⟨hg, hdb, hm | ⟨hm, hv, hn⟩⟩ := hc
      · exact ld_glob (X := X.suite a ((a, oe3) :: (X.pn ++ pins))) S3 hg hm q hdb
      · exact ld_blt (X := X.suite a ((a, oe3) :: (X.pn ++ pins))) S3 hg hm hv q hn hdb
    have go : ∀ {hs1 : List ExceptHandler} {l1 : List Clz}, Clauses X hs1 l1 → wClz X.K Wout D l1 cls d σ1 H1 → wpAny (model X.prog X.w) X.A (handleBy (.ref a) X.env hs1) (SP X pins D) X.xe { t' with heap := h3 } := by
      intro hs1 l1 hk
      induction hk with
      | nil =>
        intro w
        refine wpAny_handleBy_nil ?_
        obtain ⟨_, _, _, oe, vs, T, oT, ts1, he, hz, hd, hv1, hr⟩ := id fl3
        unfold PySem.passOn
        refine wpAny_bind (wpAny_field he hd hv1 ?_)
        rw [if_neg (show ¬ ((Value.ref T == Value.none) = true) by simp)]
        have last : wpAny (model X.prog X.w) X.A (setFlight (.ref a) X.env.frame) (fun _ t4 => wpAny (model X.prog X.w) X.A (throw (.ref a) : Sem Flow) (SP X pins D) X.xe t4) X.xe { t' with heap := h3 } := by
          rw [hf]
          refine HandSPX.setFlight_upZ fl3 fun h4 hh4 up4 => wpAny_throw (tk _ _ ?_)
          refine ⟨a, B, sI, pins, σ1, H1, cls, d, rfl, J, nb, (up.trans up3).trans up4, .inr (.inr ?_), na, os, ag, w⟩
          rw [hst]
          exact hh4
        first
          | exact wpAny_bind (wpAny_pure (wpAny_bind last))
          | exact wpAny_bind last
      | @only x c ts b0 bs p1 p2 hs2 l2 hc su r ih =>
        rintro ⟨b, w1, w2, w3⟩
        refine wpAny_handleBy_cons (codeAny_handlers_test ?_) (by intro q; cases q)
        refine test hc ((PySem.W.exm_one (M := model X.prog X.w) J3.kIn LT w1).here ?_)
        cases b with
        | false => exact ih (w3 rfl)
        | true =>
          refine codeAny_handlers_suite (HandSPX.lands_againZ fl3 fun h4 fl4 up4 => ?_)
          have J4 : Inv X pins σ1 H1 { t' with heap := h4 } := J.landed nb fl4.1 ((up.trans up3).trans up4) os ag
          obtain ⟨oe4, vs4, he4, hz4, hd4⟩ := fl4.there
          have S4 := J4.suite he4 hd4 na nL nF
          refine wpAny_mono ((su a oe4 cls d (X.pn ++ pins) hz4 ⟨_, hd4⟩).run [] _ _ H1 _ S4 (w2 rfl a na)) (fun f t6 z => ?_) (fun _ _ z => z.elim)
          cases f with
          | next =>
            obtain ⟨σ6, H6, S6, q6⟩ := z
            exact ⟨_, _, S6.unsuite ok, q6⟩
          | brk =>
            obtain ⟨σ6, H6, S6, q6⟩ := z
            exact ⟨_, _, S6.unsuite ok, q6⟩
          | cont =>
            obtain ⟨σ6, H6, S6, q6⟩ := z
            exact ⟨_, _, S6.unsuite ok, q6⟩
          | ret u =>
            obtain ⟨v6, σ6, H6, S6, r6, q6⟩ := z
            exact ⟨_, _, _, S6.unsuite ok, r6, q6⟩
      | @as x n i c ts b0 bs p1 p2 hs2 l2 hi hl hc su r ih =>
        rintro ⟨b, w1, w2, w3⟩
        refine wpAny_handleBy_cons (codeAny_handlers_test ?_) (by intro q; cases q)
        refine test hc ((PySem.W.exm_one (M := model X.prog X.w) J3.kIn LT w1).here ?_)
        cases b with
        | false => exact ih (w3 rfl)
        | true =>
          refine codeAny_handlers_suite_as (HandSPX.lands_againZ fl3 fun h4 fl4 up4 => ?_)
          have J4 : Inv X pins σ1 H1 { t' with heap := h4 } := J.landed nb fl4.1 ((up.trans up3).trans up4) os ag
          obtain ⟨oe4, vs4, he4, hz4, hd4⟩ := fl4.there
          have S4 := J4.suite he4 hd4 na nL nF
          have hloc : Loc X.env.scope n := .inl hl
          refine store_ok (X := X.suite a ((a, oe4) :: (X.pn ++ pins))) (v := .ref a) S4 hN hi hloc rfl (fun t5 S5 => ?_) (.inr hl)
          refine wpAny_mono ((su a oe4 cls d (X.pn ++ pins) hz4 ⟨_, hd4⟩).run [] t5 _ H1 _ S5 (w2 rfl a na)) (fun f t6 z => ?_) (fun _ _ z => z.elim)
          have behind : ∀ {σ6 : L2.St} {H6 : Hp} {Q : Shared → Prop}, Inv (X.suite a ((a, oe4) :: (X.pn ++ pins))) [] σ6 H6 t6 → (∀ t7, Inv X pins (σ6.set i none) H6 t7 → Q t7) →
              wpAny (model X.prog X.w) X.A (do bindName X.env n .none; unbindBehindTheSuite X.env n p2) (fun _ t7 => Q t7) X.xe t6 := fun {σ6 H6 Q} S6 hq => gone_ok (S6.unsuite ok) hN hi hl hq
          cases f with
          | next =>
            obtain ⟨σ6, H6, S6, q6⟩ := z
            exact behind S6 fun t7 J7 => ⟨_, _, J7, q6⟩
          | brk =>
            obtain ⟨σ6, H6, S6, q6⟩ := z
            exact behind S6 fun t7 J7 => ⟨_, _, J7, q6⟩
          | cont =>
            obtain ⟨σ6, H6, S6, q6⟩ := z
            exact behind S6 fun t7 J7 => ⟨_, _, J7, q6⟩
          | ret u =>
            obtain ⟨v6, σ6, H6, S6, r6, q6⟩ := z
            exact behind S6 fun t7 J7 => ⟨_, _, _, J7, r6, q6⟩
    exact go hh w
end Nx

/-! Programs as data, and where they stand. -/
namespace Nx
open PySem PySem.Spec PyProof.Rows L2
inductive Ins where
  | set (a : Nat) (t : Tr)
  | move (a b : Nat)
  | cons (a b c : Nat)
  | head (a b : Nat)
  | tail (a b : Nat)
  | jump (a : Nat) (n : Int)
  deriving DecidableEq
def Ins.word : Ins → Str
  | .set _ _ => "set"
  | .move _ _ => "move"
  | .cons _ _ _ => "cons"
  | .head _ _ => "head"
  | .tail _ _ => "tail"
  | .jump _ _ => "jump"
/-- the parts behind the word -/
def Ins.parts : Ins → List V
  | .set a t => [.int a, .str t.str]
  | .move a b => [.int a, .int b]
  | .cons a b c => [.int a, .int b, .int c]
  | .head a b => [.int a, .int b]
  | .tail a b => [.int a, .int b]
  | .jump a n => [.int a, .int n]
def Ins.vs (i : Ins) : List V := .str i.word :: i.parts
def Ins.dparts : Ins → List PyData
  | .set a t => [.int a, .str t.str]
  | .move a b => [.int a, .int b]
  | .cons a b c => [.int a, .int b, .int c]
  | .head a b => [.int a, .int b]
  | .tail a b => [.int a, .int b]
  | .jump a n => [.int a, .int n]
def Ins.data (i : Ins) : PyData := .tuple (.str i.word :: i.dparts)
/-- the registers that an instruction names -/
def Ins.regs : Ins → List Nat
  | .set a _ => [a]
  | .move a b => [a, b]
  | .cons a b c => [a, b, c]
  | .head a b => [a, b]
  | .tail a b => [a, b]
  | .jump a _ => [a]
/-- an instruction at i of a program of n: registers below w, trees of at most k pairs -/
def Ins.ok (w k i n : Nat) : Ins → Prop
  | .set a t => a < w ∧ t.pairs ≤ k
  | .move a b => a < w ∧ b < w
  | .cons a b c => a < w ∧ b < w ∧ c < w
  | .head a b => a < w ∧ b < w
  | .tail a b => a < w ∧ b < w
  | .jump a m => a < w ∧ 0 ≤ (i : Int) + m ∧ (i : Int) + m ≤ n
def PgOk (w k : Nat) (is : List Ins) : Prop := ∀ (i : Nat) (x : Ins), is[i]? = some x → x.ok w k i is.length
def progD (is : List Ins) : PyData := .list (is.map Ins.data)
abbrev Rows (H : Hp) : List Addr → List Ins → Prop := Paired fun a i => H a = some (.tup i.vs)
def PgAt (H : Hp) (p : Addr) (is : List Ins) : Prop := ∃ as : List Addr, H p = some (.lst (as.map V.ref)) ∧ Rows H as is
theorem Paired.imp {α β : Type} {F G : α → β → Prop} (h : ∀ a b, F a b → G a b) : ∀ {l : List α} {m : List β}, Paired F l m → Paired G l m
  | _, _, .nil => .nil
  | _, _, .cons r t => .cons (h _ _ r) (Paired.imp h t)
theorem Paired.get {α β : Type} {F : α → β → Prop} : ∀ {l : List α} {m : List β} {i : Nat} {b : β}, Paired F l m → m[i]? = some b → ∃ a, l[i]? = some a ∧ F a b
  | _, _, _, _, .nil, e => by simp at e
  | _, _, 0, _, .cons r _, e => by
    simp at e
    subst e
    exact ⟨_, rfl, r⟩
  | _, _, i + 1, b, .cons _ t, e => by
    obtain ⟨a, h1, h2⟩ := Paired.get (i := i) (b := b) t (by simpa using e)
    exact ⟨a, by simpa using h1, h2⟩
theorem Paired.len {α β : Type} {F : α → β → Prop} : ∀ {l : List α} {m : List β}, Paired F l m → l.length = m.length
  | _, _, .nil => rfl
  | _, _, .cons _ t => by rw [List.length_cons, List.length_cons, Paired.len t]
theorem Paired.app {α β : Type} {F : α → β → Prop} : ∀ {l l' : List α} {m m' : List β}, Paired F l m → Paired F l' m' → Paired F (l ++ l') (m ++ m')
  | _, _, _, _, .nil, s => s
  | _, _, _, _, .cons r t, s => .cons r (Paired.app t s)
theorem Rows.same {H H' : Hp} {as : List Addr} {is : List Ins} (e : Same H H') (h : Rows H as is) : Rows H' as is := Paired.imp (fun a i q => e a _ q) h
theorem Rows.exs {st : Addr} {H H' : Hp} {as : List Addr} {is : List Ins} (s : Strm H st) (e : ExS st H H') (h : Rows H as is) : Rows H' as is := Paired.imp (fun a i q => e a _ (fun z => by
  obtain ⟨l, ns, c, i, m, h1, _⟩ := s
  rw [z, h1] at q
  cases q) q) h
theorem PgAt.same {H H' : Hp} {p : Addr} {is : List Ins} (h : PgAt H p is) (e : Same H H') : PgAt H' p is := by
  obtain ⟨as, h1, h2⟩ := h
  exact ⟨as, e _ _ h1, Rows.same e h2⟩
theorem PgAt.exs {st : Addr} {H H' : Hp} {p : Addr} {is : List Ins} (h : PgAt H p is) (s : Strm H st) (n : p ≠ st) (e : ExS st H H') : PgAt H' p is := by
  obtain ⟨as, h1, h2⟩ := h
  exact ⟨as, e _ _ n h1, Rows.exs s e h2⟩
theorem PgAt.len {H : Hp} {p : Addr} {is : List Ins} (h : PgAt H p is) : ∃ xs, H p = some (.lst xs) ∧ xs.length = is.length := by
  obtain ⟨as, h1, h2⟩ := h
  exact ⟨_, h1, by rw [List.length_map, Paired.len h2]⟩
theorem PgAt.ne {H : Hp} {p q : Addr} {is : List Ins} (h : PgAt H p is) (n : H q = none) : q ≠ p := fun z => by
  obtain ⟨as, h1, _⟩ := h
  rw [← z, n] at h1
  cases h1
/-- an item of a program -/
theorem PgAt.get {H : Hp} {p : Addr} {is : List Ins} (h : PgAt H p is) : ∃ xs : List V, H p = some (.lst xs) ∧ xs.length = is.length ∧ ∀ (i : Nat) (x : Ins), is[i]? = some x → ∃ a : Addr, xs[i]? = some (V.ref a) ∧ H a = some (.tup x.vs) := by
  obtain ⟨as, h1, h2⟩ := h
  refine ⟨_, h1, by rw [List.length_map, Paired.len h2], fun i x hi => ?_⟩
  obtain ⟨a, e1, e2⟩ := Paired.get h2 hi
  exact ⟨a, by rw [List.getElem?_map, e1]; rfl, e2⟩
theorem Rows.push {H : Hp} {as : List Addr} {is : List Ins} {p T : Addr} {ys zs : List V} {i : Ins} (h : Rows H as is) (hp : H p = some (.lst ys)) (hT : H T = none) : Rows (upd (upd H T (.tup i.vs)) p (.lst zs)) (as ++ [T]) (is ++ [i]) := by
  have nT : p ≠ T := ne_of_none hp hT
  refine Paired.app (Paired.imp (fun a j q => ?_) h) (.cons ?_ .nil)
  · have na : a ≠ p := fun z => by
      rw [z, hp] at q
      cases q
    rw [upd_ne na, upd_ne (ne_of_none q hT)]
    exact q
  · rw [upd_ne nT.symm, upd_same]
/-! ### as data -/
theorem Ins.dp {K : PySem.W.Frag} {H : Hp} {a : Addr} {i : Ins} (h : H a = some (.tup i.vs)) : Dp K H (.ref a) i.data := by
  refine .tup (SqT.of h) (.cons (.str _) ?_)
  cases i with
  | set a t => exact .cons (.int _) (.cons (.str _) .nil)
  | move a b => exact .cons (.int _) (.cons (.int _) .nil)
  | cons a b c => exact .cons (.int _) (.cons (.int _) (.cons (.int _) .nil))
  | head a b => exact .cons (.int _) (.cons (.int _) .nil)
  | tail a b => exact .cons (.int _) (.cons (.int _) .nil)
  | jump a n => exact .cons (.int _) (.cons (.int _) .nil)
theorem rows_dp {K : PySem.W.Frag} {H : Hp} : ∀ {as : List Addr} {is : List Ins}, Rows H as is → DpAll K H (as.map V.ref) (is.map Ins.data)
  | _, _, .nil => .nil
  | _, _, .cons r t => .cons (Ins.dp r) (rows_dp t)
theorem PgAt.dp {K : PySem.W.Frag} {H : Hp} {p : Addr} {is : List Ins} (h : PgAt H p is) : Dp K H (.ref p) (progD is) := by
  obtain ⟨as, h1, h2⟩ := h
  exact .lst (SqL.of h1) (rows_dp h2)
theorem Ins.word_ok (i : Ins) : PyData.strOk i.word = true := by
  cases i with
  | set a t => exact (by decide +kernel : PyData.strOk (Str.ofString "set") = true)
  | move a b => exact (by decide +kernel : PyData.strOk (Str.ofString "move") = true)
  | cons a b c => exact (by decide +kernel : PyData.strOk (Str.ofString "cons") = true)
  | head a b => exact (by decide +kernel : PyData.strOk (Str.ofString "head") = true)
  | tail a b => exact (by decide +kernel : PyData.strOk (Str.ofString "tail") = true)
  | jump a n => exact (by decide +kernel : PyData.strOk (Str.ofString "jump") = true)
theorem Ins.lay (i : Ins) : i.data.canLay0 = true := by
  show (PyData.strOk i.word && PyData.canLayAll0 i.dparts) = true
  rw [i.word_ok]
  cases i with
  | set a t =>
    show (true && (true && (PyData.strOk t.str && true))) = true
    rw [show PyData.strOk t.str = true from strOk_01 t.sg_01]
    rfl
  | _ => rfl
theorem Ins.deep (i : Ins) : i.data.depth = 1 := by cases i <;> rfl
theorem prog_lay : ∀ is : List Ins, PyData.canLayAll0 (is.map Ins.data) = true
  | [] => rfl
  | i :: r => by
    show (i.data.canLay0 && PyData.canLayAll0 (r.map Ins.data)) = true
    rw [i.lay, prog_lay r]
    rfl
theorem prog_deep : ∀ is : List Ins, PyData.depthAll (is.map Ins.data) ≤ 1
  | [] => by decide
  | i :: r => by
    show max i.data.depth (PyData.depthAll (r.map Ins.data)) ≤ 1
    have := prog_deep r
    rw [i.deep]
    omega
theorem progD_shaped (is : List Ins) : SeqAt.shaped (progD is) = true := by
  show (PyData.canLayAll0 (is.map Ins.data) && decide (PyData.depthAll (is.map Ins.data) + 1 ≤ 64)) = true
  have := prog_deep is
  rw [prog_lay, decide_eq_true (by omega)]
  rfl
theorem Ins.shaped (i : Ins) : SeqAt.shaped i.data = true := by
  show (i.data.canLay0 && decide (i.data.depth ≤ 64)) = true
  rw [i.lay, i.deep]
  rfl
/-! ### a written dict from texts to texts -/
structure DLit (K : PySem.W.Frag) (w : World) (a : Addr) (l : List (Str × Str)) : Prop where
  kd : ∃ es n, KDict K w a es n
  get : ∀ z, (∃ x t, l.lookup z = some x ∧ PySem.W.nsIn K a z = some (some (.str x t))) ∨ (l.lookup z = none ∧ PySem.W.nsIn K a z = some none)
theorem Paired.cons' {e : DictEntry} {p : Str × Str} {es : List DictEntry} {l : List (Str × Str)} (h1 : ∃ t, e.key = .str p.1 t) (h2 : ∃ t, e.val = .str p.2 t)
    (r : Paired (fun (e : DictEntry) (p : Str × Str) => (∃ t, e.key = .str p.1 t) ∧ ∃ t, e.val = .str p.2 t) es l) : Paired (fun (e : DictEntry) (p : Str × Str) => (∃ t, e.key = .str p.1 t) ∧ ∃ t, e.val = .str p.2 t) (e :: es) (p :: l) := .cons ⟨h1, h2⟩ r
theorem dlit_find : ∀ {es : List DictEntry} {l : List (Str × Str)}, Paired (fun (e : DictEntry) (p : Str × Str) => (∃ t, e.key = .str p.1 t) ∧ ∃ t, e.val = .str p.2 t) es l → ∀ z : Str,
    (∃ e x t, es.find? (·.key.isStr z) = some e ∧ l.lookup z = some x ∧ e.val = .str x t) ∨ (es.find? (·.key.isStr z) = none ∧ l.lookup z = none ∧ es.any (·.refKey) = false)
  | _, _, .nil, z => .inr ⟨rfl, rfl, rfl⟩
  | e :: es, (k, v) :: l, .cons r t, z => by
    obtain ⟨⟨t1, h1⟩, ⟨t2, h2⟩⟩ := r
    have h1' : e.key = .str k t1 := h1
    have ek : e.key.isStr z = (k == z) := by
      rw [h1']
      rfl
    have el : List.lookup z ((k, v) :: l) = if (z == k) = true then some v else List.lookup z l := by
      rw [List.lookup_cons]
      cases z == k <;> rfl
    rw [el, List.find?_cons, ek]
    by_cases c : z = k
    · subst c
      rw [beq_self_eq_true, if_pos rfl]
      exact .inl ⟨e, v, t2, rfl, rfl, h2⟩
    · rw [beq_eq_false_iff_ne.mpr (fun q => c q.symm), beq_eq_false_iff_ne.mpr c, if_neg Bool.false_ne_true]
      rcases dlit_find t z with h | ⟨g1, g2, g3⟩
      · exact .inl h
      · refine .inr ⟨g1, g2, ?_⟩
        rw [List.any_cons, g3, Bool.or_false]
        unfold DictEntry.refKey
        rw [h1']
theorem dlit_mk {K : PySem.W.Frag} {w : World} {a : Addr} {es : Array DictEntry} {n : Nat} {l : List (Str × Str)} (h : K.lookup a = some ⟨.type "dict", none, .dict es n, #[]⟩) (hk : PySem.W.KeysLit w.params es.toList) (low : (a == sysModules) = false)
    (hp : Paired (fun (e : DictEntry) (p : Str × Str) => (∃ t, e.key = .str p.1 t) ∧ ∃ t, e.val = .str p.2 t) es.toList l) : DLit K w a l := by
  refine ⟨⟨es, n, h, hk, low⟩, fun z => ?_⟩
  have hn : PySem.W.nsIn K a z = (match es.toList.find? (·.key.isStr z) with
      | some e => some (some e.val)
      | none => if es.toList.any (·.refKey) then none else some none) := by
    unfold PySem.W.nsIn
    rw [h]
    rfl
  rw [hn]
  rcases dlit_find hp z with ⟨e, x, t, e1, e2, e3⟩ | ⟨e1, e2, e3⟩
  · rw [e1]
    exact .inl ⟨x, t, e2, by show some (some e.val) = _; rw [e3]⟩
  · rw [e1, e3]
    exact .inr ⟨e2, rfl⟩
theorem DLit.dct {K : PySem.W.Frag} {w : World} {a : Addr} {l : List (Str × Str)} (D : DLit K w a l) {z x : Str} (h : l.lookup z = some x) : KDct K w a z (.str x) := by
  obtain ⟨es, n, d1, d2, d3⟩ := D.kd
  rcases D.get z with ⟨x', t, e1, e2⟩ | ⟨e1, e2⟩
  · rw [h] at e1
    rw [← Option.some.inj e1] at e2
    exact ⟨es, n, _, d1, d2, e2, ⟨t, rfl⟩⟩
  · rw [h] at e1
    cases e1
/-! ### a program that is drawn -/
structure PInv (H2 : Hp) (st p : Addr) (wide many : Nat) (as : List Addr) (is : List Ins) (H' : Hp) : Prop where
  at_ : H' p = some (.lst (as.map V.ref))
  rows : Rows H' as is
  ok : ∀ (j : Nat) (x : Ins), is[j]? = some x → x.ok wide 3 j many
  ex : ExS st H2 H'
  sm : Strm H' st
theorem PInv.go {H2 H5 H6 : Hp} {st p : Addr} {wide many : Nat} {as : List Addr} {is : List Ins} (np : p ≠ st) (h : PInv H2 st p wide many as is H5) (e : ExS st H5 H6) (s : Strm H6 st) : PInv H2 st p wide many as is H6 :=
  ⟨e _ _ np h.at_, Rows.exs h.sm e h.rows, h.ok, h.ex.trans e, s⟩
theorem PInv.push {H2 H5 : Hp} {st p T : Addr} {wide many : Nat} {as : List Addr} {is : List Ins} {x : Ins} (hp : H2 p = none) (s2 : Strm H2 st) (h : PInv H2 st p wide many as is H5) (hx : x.ok wide 3 is.length many) (hT : H5 T = none) :
    PInv H2 st p wide many (as ++ [T]) (is ++ [x]) (upd (upd H5 T (.tup x.vs)) p (.lst (as.map V.ref ++ [.ref T]))) := by
  have np : p ≠ st := s2.ne hp
  have smT := Same.upd (o := .tup x.vs) hT
  have e1 : ExS st H2 (upd H5 T (.tup x.vs)) := h.ex.trans smT.exs
  refine ⟨?_, Rows.push h.rows h.at_ hT, fun j y hj => ?_, .off np hp e1, s2.off hp e1 (smT.strm h.sm)⟩
  · rw [upd_same, List.map_append]
    rfl
  · by_cases c : j < is.length
    · rw [List.getElem?_append_left c] at hj
      exact h.ok j y hj
    · have c2 : j = is.length := by
        have := (List.getElem?_eq_some_iff.mp hj).1
        rw [List.length_append] at this
        have h1 : ([x] : List Ins).length = 1 := rfl
        omega
      subst c2
      rw [List.getElem?_append_right (Nat.le_refl _), Nat.sub_self] at hj
      have : x = y := by simpa using hj
      rw [← this]
      exact hx
theorem PInv.done {H2 H' : Hp} {st p : Addr} {wide many : Nat} {as : List Addr} {is : List Ins} (h : PInv H2 st p wide many as is H') (hl : is.length = many) : PgAt H' p is ∧ PgOk wide 3 is :=
  ⟨⟨as, h.at_, h.rows⟩, fun i x hi => by
    rw [hl]
    exact h.ok i x hi⟩
theorem PInv.size {H2 H' : Hp} {st p : Addr} {wide many : Nat} {as : List Addr} {is : List Ins} (h : PInv H2 st p wide many as is H') : (as.map V.ref).length = is.length := by
  rw [List.length_map, Paired.len h.rows]
/-! ### what the parts of an instruction are -/
def Ins.shape : Ins → Str
  | .set _ _ => "rt"
  | .move _ _ => "rr"
  | .cons _ _ _ => "rrr"
  | .head _ _ => "rr"
  | .tail _ _ => "rr"
  | .jump _ _ => "rn"
def shapes : List (Str × Str) := [(("set" : Str), ("rt" : Str)), (("move" : Str), ("rr" : Str)), (("cons" : Str), ("rrr" : Str)), (("head" : Str), ("rr" : Str)), (("tail" : Str), ("rr" : Str)), (("jump" : Str), ("rn" : Str))]
theorem shapes_at (i : Ins) : shapes.lookup i.word = some i.shape := by
  cases i with
  | set a t => exact (by decide +kernel : shapes.lookup (Str.ofString "set") = some (Str.ofString "rt"))
  | move a b => exact (by decide +kernel : shapes.lookup (Str.ofString "move") = some (Str.ofString "rr"))
  | cons a b c => exact (by decide +kernel : shapes.lookup (Str.ofString "cons") = some (Str.ofString "rrr"))
  | head a b => exact (by decide +kernel : shapes.lookup (Str.ofString "head") = some (Str.ofString "rr"))
  | tail a b => exact (by decide +kernel : shapes.lookup (Str.ofString "tail") = some (Str.ofString "rr"))
  | jump a n => exact (by decide +kernel : shapes.lookup (Str.ofString "jump") = some (Str.ofString "rn"))
theorem s_rt : (Str.ofString "rt").cps.toList = [114, 116] := by decide +kernel
theorem s_rr : (Str.ofString "rr").cps.toList = [114, 114] := by decide +kernel
theorem s_rrr : (Str.ofString "rrr").cps.toList = [114, 114, 114] := by decide +kernel
theorem s_rn : (Str.ofString "rn").cps.toList = [114, 110] := by decide +kernel
/-- the kinds of the parts, as signs -/
def Ins.kinds : Ins → List Nat
  | .set _ _ => [114, 116]
  | .move _ _ => [114, 114]
  | .cons _ _ _ => [114, 114, 114]
  | .head _ _ => [114, 114]
  | .tail _ _ => [114, 114]
  | .jump _ _ => [114, 110]
theorem Ins.shape_kinds (i : Ins) : i.shape.cps.toList = i.kinds := by
  cases i with
  | set a t => exact s_rt
  | move a b => exact s_rr
  | cons a b c => exact s_rrr
  | head a b => exact s_rr
  | tail a b => exact s_rr
  | jump a n => exact s_rn
theorem Ins.kinds_len (i : Ins) : i.kinds.length = i.parts.length := by cases i <;> rfl
theorem Ins.part_is (i : Ins) {j c : Nat} {y : V} (h1 : i.kinds[j]? = some c) (h2 : i.parts[j]? = some y) : (∃ r, i.regs[j]? = some r ∧ c = 114 ∧ y = .int r) ∨ (i.regs.length ≤ j ∧ c ≠ 114) := by
  cases i <;> (match j, h1, h2 with
    | 0, h1, h2 => simp [Ins.kinds, Ins.parts] at h1 h2; subst h1 h2; exact .inl ⟨_, rfl, rfl, rfl⟩
    | 1, h1, h2 => simp [Ins.kinds, Ins.parts] at h1 h2; subst h1 h2; first | exact .inl ⟨_, rfl, rfl, rfl⟩ | exact .inr ⟨Nat.le_refl _, by decide⟩
    | 2, h1, h2 => simp [Ins.kinds, Ins.parts] at h1 h2 <;> (subst h1 h2; exact .inl ⟨_, rfl, rfl, rfl⟩)
    | j + 3, h1, h2 => simp [Ins.kinds, Ins.parts] at h1 h2)
/-- 1 more than the greatest register -/
def gst (g : Nat) (is : List Ins) : Nat := (is.flatMap Ins.regs).foldl max g
def wid (is : List Ins) : Nat := gst 0 is + 1
theorem gst_cons (g : Nat) (i : Ins) (r : List Ins) : gst g (i :: r) = gst (i.regs.foldl max g) r := by
  unfold gst
  rw [List.flatMap_cons, List.foldl_append]
theorem gst_take {is : List Ins} {k : Nat} {x : Ins} (g : Nat) (h : is[k]? = some x) : gst g (is.take (k + 1)) = x.regs.foldl max (gst g (is.take k)) := by
  unfold gst
  rw [List.take_add_one, h, List.flatMap_append, List.foldl_append]
  show List.foldl max _ (x.regs ++ []) = _
  rw [List.append_nil]
theorem rep_ref (n : Nat) (T : Addr) : (List.replicate n [V.ref T]).flatten = (List.replicate n T).map V.ref := by
  induction n with
  | zero => rfl
  | succ n ih =>
    rw [List.replicate_succ, List.flatten_cons, ih, List.replicate_succ, List.map_cons]
    rfl
theorem rows_rep {H : Hp} {T : Addr} {i : Ins} (h : H T = some (.tup i.vs)) : ∀ n : Nat, Rows H (List.replicate n T) (List.replicate n i)
  | 0 => .nil
  | n + 1 => by
    rw [List.replicate_succ, List.replicate_succ]
    exact .cons h (rows_rep h n)
theorem PgAt.nil {H : Hp} {p : Addr} (h : H p = some (.lst [])) : PgAt H p [] := ⟨[], h, .nil⟩
end Nx

/-! Any values, and what a program is among them. -/
namespace Nx
open PySem PySem.Spec PyProof.Rows L2
theorem iteT' {b : Bool} {A B : Prop} (h : b = true) (g : A) : if b = true then A else B := by
  rw [h]
  exact iteT g
theorem iteF' {b : Bool} {A B : Prop} (h : b = false) (g : B) : if b = true then A else B := by
  rw [h]
  exact iteF g
theorem bl_ne (x y : Bool) : (!decide (V.bl x = V.bl y)) = xor x y := by
  cases x <;> cases y <;> decide +kernel
theorem notI {b : Bool} {A B : Prop} (h : b = false → A) (g : b = true → B) : if (!b) = true then A else B := by
  cases b with
  | false => exact iteT (h rfl)
  | true => exact iteF (g rfl)
mutual
/-- a value that stands in H, made of lists and tuples -/
inductive Vd (H : Hp) : V → PyData → Prop where
  | non : Vd H .non .none
  | bl (b : Bool) : Vd H (.bl b) (.bool b)
  | int (i : Int) : Vd H (.int i) (.int i)
  | str (x : Str) (h : x.length ≤ sizeLine) : Vd H (.str x) (.str x)
  | lst {a : Addr} {xs : List V} {ds : List PyData} (h : H a = some (.lst xs)) (hl : xs.length ≤ 1000000) (r : VdA H xs ds) : Vd H (.ref a) (.list ds)
  | tup {a : Addr} {xs : List V} {ds : List PyData} (h : H a = some (.tup xs)) (hl : xs.length ≤ 1000000) (r : VdA H xs ds) : Vd H (.ref a) (.tuple ds)
inductive VdA (H : Hp) : List V → List PyData → Prop where
  | nil : VdA H [] []
  | cons {v : V} {vs : List V} {d : PyData} {ds : List PyData} (h : Vd H v d) (r : VdA H vs ds) : VdA H (v :: vs) (d :: ds)
end
mutual
theorem Vd.dp {K : PySem.W.Frag} {H : Hp} : ∀ {v : V} {d : PyData}, Vd H v d → Dp K H v d
  | _, _, .non => .non
  | _, _, .bl b => .bl b
  | _, _, .int i => .int i
  | _, _, .str x _ => .str x
  | _, _, .lst h _ r => .lst (SqL.of h) (VdA.dp r)
  | _, _, .tup h _ r => .tup (SqT.of h) (VdA.dp r)
theorem VdA.dp {K : PySem.W.Frag} {H : Hp} : ∀ {v : List V} {d : List PyData}, VdA H v d → DpAll K H v d
  | _, _, .nil => .nil
  | _, _, .cons h r => .cons (Vd.dp h) (VdA.dp r)
end
mutual
theorem Vd.same {H H' : Hp} (e : Same H H') : ∀ {v : V} {d : PyData}, Vd H v d → Vd H' v d
  | _, _, .non => .non
  | _, _, .bl b => .bl b
  | _, _, .int i => .int i
  | _, _, .str x h => .str x h
  | _, _, .lst h l r => .lst (e _ _ h) l (VdA.same e r)
  | _, _, .tup h l r => .tup (e _ _ h) l (VdA.same e r)
theorem VdA.same {H H' : Hp} (e : Same H H') : ∀ {v : List V} {d : List PyData}, VdA H v d → VdA H' v d
  | _, _, .nil => .nil
  | _, _, .cons h r => .cons (Vd.same e h) (VdA.same e r)
end
theorem VdA.len {H : Hp} : ∀ {vs : List V} {ds : List PyData}, VdA H vs ds → vs.length = ds.length
  | _, _, .nil => rfl
  | _, _, .cons _ r => congrArg (· + 1) (VdA.len r)
theorem VdA.get {H : Hp} : ∀ {vs : List V} {ds : List PyData} {i : Nat} {d : PyData}, VdA H vs ds → ds[i]? = some d → ∃ v, vs[i]? = some v ∧ Vd H v d
  | _, _, i, d, .nil, e => by simp at e
  | _, _, 0, d, .cons h _, e => ⟨_, rfl, by
    have : _ = d := Option.some.inj e
    rw [← this]
    exact h⟩
  | _, _, i + 1, d, .cons _ r, e => VdA.get (i := i) r e
theorem VdA.get' {H : Hp} : ∀ {vs : List V} {ds : List PyData} {i : Nat} {v : V}, VdA H vs ds → vs[i]? = some v → ∃ d, ds[i]? = some d ∧ Vd H v d
  | _, _, i, d, .nil, e => by simp at e
  | _, _, 0, d, .cons h _, e => ⟨_, rfl, by
    have : _ = d := Option.some.inj e
    rw [← this]
    exact h⟩
  | _, _, i + 1, d, .cons _ r, e => VdA.get' (i := i) r e
theorem VdA.drop {H : Hp} : ∀ {vs : List V} {ds : List PyData} (n : Nat), VdA H vs ds → VdA H (vs.drop n) (ds.drop n)
  | _, _, 0, h => h
  | _, _, _ + 1, .nil => .nil
  | _, _, n + 1, .cons _ r => VdA.drop n r
theorem VdA.take {H : Hp} : ∀ {vs : List V} {ds : List PyData} (n : Nat), VdA H vs ds → VdA H (vs.take n) (ds.take n)
  | _, _, 0, _ => .nil
  | _, _, _ + 1, .nil => .nil
  | _, _, n + 1, .cons h r => .cons h (VdA.take n r)
theorem VdA.app {H : Hp} : ∀ {vs ws : List V} {ds es : List PyData}, VdA H vs ds → VdA H ws es → VdA H (vs ++ ws) (ds ++ es)
  | _, _, _, _, .nil, s => s
  | _, _, _, _, .cons h r, s => .cons h (VdA.app r s)
/-! ### types -/
def tyD : PyData → String
  | .none => "NoneType"
  | .bool _ => "bool"
  | .int _ => "int"
  | .str _ => "str"
  | .list _ => "list"
  | .tuple _ => "tuple"
  | .dict _ => "dict"
def isL : PyData → Bool
  | .list _ => true
  | _ => false
def isTup : PyData → Bool
  | .tuple _ => true
  | _ => false
def isS : PyData → Bool
  | .str _ => true
  | _ => false
def isB : PyData → Bool
  | .bool _ => true
  | _ => false
def isI : PyData → Bool
  | .int _ => true
  | .bool _ => true
  | _ => false
theorem Vd.ty {K : PySem.W.Frag} {H : Hp} {v : V} {d : PyData} (h : Vd H v d) : TyX K H v (.type (tyD d)) := by
  cases h with
  | non => exact .base .non
  | bl b => exact .base (.bl b)
  | int i => exact .base (.int i)
  | str x _ => exact .base (.str x)
  | lst h _ _ => exact .base (.lst h)
  | tup h _ _ => exact .base (.tup h)
theorem kL {K : PySem.W.Frag} (d : PyData) : PySem.W.kitOne K (.type (tyD d)) (.type "list") = some (isL d) := kit_ty (by cases d <;> (simp only [tyD, isL]; decide +kernel))
theorem kT {K : PySem.W.Frag} (d : PyData) : PySem.W.kitOne K (.type (tyD d)) (.type "tuple") = some (isTup d) := kit_ty (by cases d <;> (simp only [tyD, isTup]; decide +kernel))
theorem kS {K : PySem.W.Frag} (d : PyData) : PySem.W.kitOne K (.type (tyD d)) (.type "str") = some (isS d) := kit_ty (by cases d <;> (simp only [tyD, isS]; decide +kernel))
theorem kB {K : PySem.W.Frag} (d : PyData) : PySem.W.kitOne K (.type (tyD d)) (.type "bool") = some (isB d) := kit_ty (by cases d <;> (simp only [tyD, isB]; decide +kernel))
theorem kI {K : PySem.W.Frag} (d : PyData) : PySem.W.kitOne K (.type (tyD d)) (.type "int") = some (isI d) := kit_ty (by cases d <;> (simp only [tyD, isI]; decide +kernel))
theorem lookup_mem {w sh : Str} : ∀ {l : List (Str × Str)}, l.lookup w = some sh → (w, sh) ∈ l
  | [], h => by cases h
  | (k, v) :: l, h => by
    rw [List.lookup_cons] at h
    by_cases c : w = k
    · subst c
      rw [beq_self_eq_true] at h
      rw [← Option.some.inj h]
      exact List.mem_cons_self ..
    · rw [beq_eq_false_iff_ne.mpr c] at h
      exact List.mem_cons_of_mem _ (lookup_mem h)
theorem shapes_len {w sh : Str} (h : shapes.lookup w = some sh) : 2 ≤ sh.length ∧ sh.length ≤ 3 := by
  have h1 := lookup_mem h
  have h2 : (shapes.all fun p => decide (2 ≤ p.2.length) && decide (p.2.length ≤ 3)) = true := by decide +kernel
  have h3 := List.all_eq_true.mp h2 _ h1
  rw [Bool.and_eq_true] at h3
  exact ⟨of_decide_eq_true h3.1, of_decide_eq_true h3.2⟩
theorem one_is {k : Nat} {x : Str} (c : Nat) (e : x = stS [c]) : decide (V.str ⟨#[k]⟩ = V.str x) = decide (k = c) := by
  rw [e, decide_eq_decide]
  constructor
  · intro z
    exact (List.cons.inj (stS_inj (V.str.inj z))).1
  · intro z
    rw [z]
    rfl
/-! ### what a program is -/
/-- a part of this kind (116 a tree, 114 a register, else a way) -/
def fitsD (k : Nat) (d : PyData) (i n : Int) : Bool :=
  if k = 116 then isS d else match d with
    | .int m => if k = 114 then decide (0 ≤ m) && decide (m < 20) else decide (0 ≤ i + m) && decide (i + m ≤ n)
    | _ => false
def rowD (d : PyData) (i n : Int) : Bool := match d with
  | .tuple (.str w :: ps) => match shapes.lookup w with
    | some sh => decide (ps.length = sh.length) && (sh.cps.toList.zip ps).all fun q => fitsD q.1 q.2 i n
    | none => false
  | _ => false
/-- the tree of an instruction -/
def treeD : PyData → Option Str
  | .tuple [.str w, _, .str t] => if w = (Str.ofString "set") then some t else none
  | _ => none
def rowsD (n : Int) : Int → List PyData → Bool
  | _, [] => true
  | i, d :: r => rowD d i n && rowsD n (i + 1) r
theorem rowsD_iff (n : Int) : ∀ (i : Int) (ds : List PyData), rowsD n i ds = true ↔ ∀ (j : Nat) (d : PyData), ds[j]? = some d → rowD d (i + j) n = true
  | i, [] => ⟨fun _ j d h => by simp at h, fun _ => rfl⟩
  | i, x :: r => by
    show (rowD x i n && rowsD n (i + 1) r) = true ↔ _
    rw [Bool.and_eq_true, rowsD_iff n (i + 1) r]
    constructor
    · rintro ⟨h1, h2⟩ j d h
      cases j with
      | zero =>
        have e : x = d := Option.some.inj h
        rw [← e]
        rw [show i + ((0 : Nat) : Int) = i by omega]
        exact h1
      | succ j =>
        have := h2 j d h
        rw [show i + ((j + 1 : Nat) : Int) = i + 1 + j by omega]
        exact this
    · intro h
      refine ⟨?_, fun j d hd => ?_⟩
      · have := h 0 x rfl
        rw [show i + ((0 : Nat) : Int) = i by omega] at this
        exact this
      · have := h (j + 1) d hd
        rw [show i + ((j + 1 : Nat) : Int) = i + 1 + j by omega] at this
        exact this
def progOk (d : PyData) : Bool := match d with
  | .list ds => decide (ds.length ≤ 600) && (rowsD ds.length 0 ds && (decide (((ds.filterMap treeD).map Str.length).sum ≤ 200000) && (ds.filterMap treeD).all fun t => isT t.cps.toList))
  | _ => false
theorem row_form {d : PyData} {i n : Int} (h : rowD d i n = true) : ∃ w ps, d = .tuple (.str w :: ps) ∧ ((w = Str.ofString "set" ∧ ∃ p0 t, ps = [p0, .str t] ∧ treeD d = some t) ∨ (w ≠ Str.ofString "set" ∧ treeD d = none)) := by
  cases d with
  | tuple ds =>
    cases ds with
    | nil => cases h
    | cons d0 ps =>
      cases d0 with
      | str w =>
        refine ⟨w, ps, rfl, ?_⟩
        by_cases c : w = Str.ofString "set"
        · refine .inl ⟨c, ?_⟩
          have h1 : shapes.lookup w = some (Str.ofString "rt") := by
            rw [c]
            decide +kernel
          have h2 : (match shapes.lookup w with | some sh => decide (ps.length = sh.length) && (sh.cps.toList.zip ps).all (fun q => fitsD q.1 q.2 i n) | none => false) = true := h
          rw [h1] at h2
          have h3 : decide (ps.length = (Str.ofString "rt").length) && ((Str.ofString "rt").cps.toList.zip ps).all (fun q => fitsD q.1 q.2 i n) := h2
          rw [s_rt, show (Str.ofString "rt").length = 2 by decide +kernel] at h3
          match ps, h3 with
          | [p0, p1], h3 =>
            have h4 : fitsD 114 p0 i n = true ∧ fitsD 116 p1 i n = true := by simpa using h3
            have h5 : isS p1 = true := h4.2
            cases p1 with
            | str t =>
              refine ⟨p0, t, rfl, ?_⟩
              show (if w = Str.ofString "set" then some t else none) = some t
              rw [if_pos c]
            | _ => cases h5
          | [], h3 => cases h3
          | [p0], h3 => cases h3
          | p0 :: p1 :: p2 :: r, h3 =>
            have : decide ((p0 :: p1 :: p2 :: r).length = 2) = false := decide_eq_false (by simp)
            rw [this] at h3
            cases h3
        · refine .inr ⟨c, ?_⟩
          unfold treeD
          split
          · rename_i w2 p0 t e
            have : w = w2 := by
              injection e with e
              injection e with e1 e2
              injection e1
            rw [← this, if_neg c]
          · rfl
      | _ => cases h
  | _ => cases h
theorem Vd.row {H : Hp} {y : V} {w : Str} {ps : List PyData} (h : Vd H y (.tuple (.str w :: ps))) : ∃ T us, y = .ref T ∧ H T = some (.tup (.str w :: us)) ∧ VdA H us ps ∧ w.length ≤ sizeLine := by
  cases h with
  | tup h _ r =>
    cases r with
    | cons h0 r =>
      cases h0 with
      | str _ hw => exact ⟨_, _, rfl, h, r, hw⟩
theorem take_fm {α β : Type} {f : α → Option β} {l : List α} {j : Nat} {d : α} (h : l[j]? = some d) : (l.take (j + 1)).filterMap f = (l.take j).filterMap f ++ (f d).toList := by
  rw [List.take_add_one, h, List.filterMap_append]
  show _ ++ List.filterMap f [d] = _
  cases e : f d <;> simp [List.filterMap, e]
/-! ### tuples cut and put together -/
theorem sl_any {K : PySem.W.Frag} {H : Hp} {a : Addr} {xs : List V} {lo hi : Option Int} {Q : VK} (h : H a = some (.tup xs)) (q : ∀ b H', Same H H' → H' b = some (.tup (cutV xs lo hi)) → Q (.ref b) H') : rSlA K (.ref a) lo hi H Q := by
  refine ⟨a, xs, rfl, SqT.of h, fun hw => q a H (.refl _) ?_, fun _ p np => q p _ (Same.upd np) upd_same⟩
  have : cutV xs lo hi = xs := by
    unfold cutV
    rw [hw.1, hw.2, List.drop_zero, Nat.sub_zero]
    exact List.take_of_length_le (Nat.le_refl _)
  rw [this]
  exact h
theorem cat_any {K : PySem.W.Frag} {H : Hp} {a b : Addr} {xs ys : List V} {Q : VK} (h : H a = some (.tup xs)) (g : H b = some (.tup ys)) (hz : xs.length + ys.length ≤ sizeLine) (q : ∀ c H', Same H H' → H' c = some (.tup (xs ++ ys)) → Q (.ref c) H') : rCatA K (.ref a) (.ref b) H Q := by
  refine ⟨a, b, xs, ys, rfl, rfl, SqT.of h, SqT.of g, hz, fun e => q b H (.refl _) ?_, fun _ e => q a H (.refl _) ?_, fun _ _ p np => q p _ (Same.upd np) upd_same⟩
  · rw [e]
    exact g
  · rw [e, List.append_nil]
    exact h
theorem cutV_from (xs : List V) (k : Nat) : cutV xs (some (k : Int)) none = xs.drop k := by
  show (xs.drop (HT.sIx xs.length 0 (some (k : Int)))).take (xs.length - HT.sIx xs.length 0 (some (k : Int))) = _
  rw [HT.sIx_nat]
  by_cases h : k ≤ xs.length
  · rw [Nat.min_eq_left h]
    exact List.take_of_length_le (by rw [List.length_drop]; omega)
  · rw [Nat.min_eq_right (by omega), List.drop_of_length_le (Nat.le_refl _), List.drop_of_length_le (by omega), List.take_nil]
theorem cutV_to (xs : List V) (k : Nat) : cutV xs none (some (k : Int)) = xs.take k := by
  show (xs.drop 0).take (HT.sIx xs.length xs.length (some (k : Int)) - 0) = _
  rw [HT.sIx_nat, List.drop_zero, Nat.sub_zero]
  by_cases h : k ≤ xs.length
  · rw [Nat.min_eq_left h]
  · rw [Nat.min_eq_right (by omega), List.take_of_length_le (Nat.le_refl _), List.take_of_length_le (by omega)]
theorem cutV_two (xs : List V) (j k : Nat) : cutV xs (some (j : Int)) (some (k : Int)) = (xs.drop j).take (k - j) := by
  show (xs.drop (HT.sIx xs.length 0 (some (j : Int)))).take (HT.sIx xs.length xs.length (some (k : Int)) - HT.sIx xs.length 0 (some (j : Int))) = _
  rw [HT.sIx_nat, HT.sIx_nat]
  by_cases h : j ≤ xs.length
  · rw [Nat.min_eq_left h]
    by_cases g : k ≤ xs.length
    · rw [Nat.min_eq_left g]
    · rw [Nat.min_eq_right (by omega), List.take_of_length_le (by rw [List.length_drop]; omega), List.take_of_length_le (by rw [List.length_drop]; omega)]
  · rw [Nat.min_eq_right (show xs.length ≤ j by omega), List.drop_of_length_le (Nat.le_refl _), List.drop_of_length_le (show xs.length ≤ j by omega), List.take_nil, List.take_nil]
theorem cutV_1 (x : V) (xs : List V) : cutV (x :: xs) (some 1) none = xs := cutV_from (x :: xs) 1
theorem cutV_12 (x y : V) (xs : List V) : cutV (x :: y :: xs) (some 1) (some 2) = [y] := cutV_two (x :: y :: xs) 1 2
/-! ### an instruction, told in another way -/
def treeB : PyData → Bool
  | .str x => isT x.cps.toList
  | _ => false
def regD (d : PyData) : Bool := match d with
  | .int m => decide (0 ≤ m) && decide (m ≤ 19)
  | _ => false
def regVb (v : V) : Bool := match v with
  | .int m => decide (0 ≤ m) && decide (m ≤ 19)
  | _ => false
theorem VdA.regs {H : Hp} : ∀ {vs : List V} {ds : List PyData}, VdA H vs ds → vs.all regVb = ds.all regD
  | _, _, .nil => rfl
  | _, _, .cons h r => by
    rw [List.all_cons, List.all_cons, VdA.regs r]
    congr 1
    cases h <;> rfl
theorem VdA.mem {H : Hp} {vs : List V} {ds : List PyData} {v : V} (h : VdA H vs ds) (m : v ∈ vs) : ∃ d, Vd H v d := by
  obtain ⟨i, hi⟩ := List.getElem?_of_mem m
  obtain ⟨d, _, hd⟩ := h.get' hi
  exact ⟨d, hd⟩
theorem fits_reg (d : PyData) (i n : Int) : fitsD 114 d i n = regD d := by
  cases d with
  | int m =>
    show (decide (0 ≤ m) && decide (m < 20)) = (decide (0 ≤ m) && decide (m ≤ 19))
    rw [show decide (m < 20) = decide (m ≤ 19) from decide_eq_decide.mpr (by omega)]
  | _ => rfl
def rowL (d : PyData) (i n : Int) : Bool := rowD d i n && (treeD d).all fun t => isT t.cps.toList
theorem rowL_no {d : PyData} {i n : Int} (h : rowD d i n = false) : rowL d i n = false := by
  unfold rowL
  rw [h]
  rfl
theorem shapes_cases {w sh : Str} (h : shapes.lookup w = some sh) : (w = Str.ofString "set" ∧ sh.cps.toList = [114, 116]) ∨ (w = Str.ofString "cons" ∧ sh.cps.toList = [114, 114, 114]) ∨ (w = Str.ofString "jump" ∧ sh.cps.toList = [114, 110]) ∨
    ((w ≠ Str.ofString "set" ∧ w ≠ Str.ofString "cons" ∧ w ≠ Str.ofString "jump") ∧ sh.cps.toList = [114, 114]) := by
  have h1 := lookup_mem h
  unfold shapes at h1
  simp only [List.mem_cons, Prod.mk.injEq, List.not_mem_nil, or_false] at h1
  rcases h1 with ⟨rfl, rfl⟩ | ⟨rfl, rfl⟩ | ⟨rfl, rfl⟩ | ⟨rfl, rfl⟩ | ⟨rfl, rfl⟩ | ⟨rfl, rfl⟩
  · exact .inl ⟨rfl, by decide +kernel⟩
  · exact .inr (.inr (.inr (by decide +kernel)))
  · exact .inr (.inl ⟨rfl, by decide +kernel⟩)
  · exact .inr (.inr (.inr (by decide +kernel)))
  · exact .inr (.inr (.inr (by decide +kernel)))
  · exact .inr (.inr (.inl ⟨rfl, by decide +kernel⟩))
theorem rowD_is {w sh : Str} (h : shapes.lookup w = some sh) (ps : List PyData) (i n : Int) : rowD (.tuple (.str w :: ps)) i n = (decide (ps.length = sh.cps.toList.length) && (sh.cps.toList.zip ps).all fun q => fitsD q.1 q.2 i n) := by
  show (match shapes.lookup w with | some sh => decide (ps.length = sh.length) && (sh.cps.toList.zip ps).all (fun q => fitsD q.1 q.2 i n) | none => false) = _
  rw [h]
  show (decide (ps.length = sh.cps.size) && _) = _
  rw [← Array.length_toList]
theorem rowD_none {w : Str} (h : shapes.lookup w = none) (ps : List PyData) (i n : Int) : rowD (.tuple (.str w :: ps)) i n = false := by
  show (match shapes.lookup w with | some sh => decide (ps.length = sh.length) && (sh.cps.toList.zip ps).all (fun q => fitsD q.1 q.2 i n) | none => false) = _
  rw [h]
theorem inV_lookup (w : Str) : ∀ l : List (Str × Str), inV (.str w) (l.map fun p => V.str p.1) = (l.lookup w).isSome
  | [] => rfl
  | (k, v) :: l => by
    show ((k == w) || inV (.str w) (l.map fun p => V.str p.1)) = _
    rw [inV_lookup w l, List.lookup_cons]
    by_cases c : w = k
    · rw [c, beq_self_eq_true]
      rfl
    · rw [beq_eq_false_iff_ne.mpr c, beq_eq_false_iff_ne.mpr (fun z => c z.symm)]
      rfl
theorem treeD_set {w : Str} {p0 p1 : PyData} (h : w = Str.ofString "set") : (treeD (.tuple [.str w, p0, p1])).all (fun t => isT t.cps.toList) = (!isS p1 || treeB p1) := by
  cases p1 with
  | str t =>
    show Option.all _ (if w = Str.ofString "set" then some t else none) = _
    rw [if_pos h]
    rfl
  | _ => rfl
theorem treeD_no {w : Str} (ps : List PyData) (h : w ≠ Str.ofString "set") : treeD (.tuple (.str w :: ps)) = none := by
  unfold treeD
  split
  · rename_i w2 p0 t e
    have : w = w2 := by
      injection e with e
      injection e with e1 e2
      injection e1
    rw [← this, if_neg h]
  · rfl
/-- the three forms -/
theorem rowL_set {w : Str} (h : w = Str.ofString "set") (p0 p1 : PyData) (i n : Int) : rowL (.tuple [.str w, p0, p1]) i n = (regD p0 && treeB p1) := by
  have hl : shapes.lookup w = some (Str.ofString "rt") := by
    rw [h]
    decide +kernel
  unfold rowL
  rw [rowD_is hl, s_rt, treeD_set h]
  show ((true && (fitsD 114 p0 i n && (fitsD 116 p1 i n && true))) && (!isS p1 || treeB p1)) = _
  rw [fits_reg, show fitsD 116 p1 i n = isS p1 from rfl]
  cases p1 with
  | str t => cases regD p0 <;> rfl
  | _ => cases regD p0 <;> rfl
theorem rowL_jump {w : Str} (h : w = Str.ofString "jump") (p0 p1 : PyData) (i n : Int) : rowL (.tuple [.str w, p0, p1]) i n = (fitsD 110 p1 i n && regD p0) := by
  have hl : shapes.lookup w = some (Str.ofString "rn") := by
    rw [h]
    decide +kernel
  unfold rowL
  rw [rowD_is hl, s_rn, treeD_no _ (by rw [h]; decide +kernel)]
  show ((true && (fitsD 114 p0 i n && (fitsD 110 p1 i n && true))) && true) = _
  rw [fits_reg]
  cases regD p0 <;> cases fitsD 110 p1 i n <;> rfl
theorem rowL_regs {w sh : Str} (h : shapes.lookup w = some sh) (ns : w ≠ Str.ofString "set") (ps : List PyData) (i n : Int) (hk : sh.cps.toList = List.replicate ps.length 114) : rowL (.tuple (.str w :: ps)) i n = ps.all regD := by
  unfold rowL
  rw [rowD_is h, hk, treeD_no _ ns, List.length_replicate, decide_eq_true rfl, Bool.true_and, show Option.all _ none = true from rfl, Bool.and_true]
  clear h hk
  induction ps with
  | nil => rfl
  | cons x r ih =>
    show (fitsD 114 x i n && ((List.replicate r.length 114).zip r).all _) = _
    rw [fits_reg, ih]
    rfl
/-! ### what the law says a program is -/
def dueB (ds : List PyData) : List Bool := (List.range ds.length).map fun j => rowL (ds.getD j .none) j ds.length
def dueD (d : PyData) : Bool := match d with
  | .list ds => decide (ds.length ≤ 600) && (dueB ds).all id
  | _ => false
/-! ### small values, and what stands beside the row of drawn numbers -/
def okD (n : Nat) (d : PyData) : Prop := d.canLay0 = true ∧ d.depth ≤ n ∧ ∀ x, d = .str x → x.length ≤ 10
def okA (n : Nat) (ds : List PyData) : Prop := ∀ d ∈ ds, okD n d
theorem okA.lay {n : Nat} : ∀ {ds : List PyData}, okA n ds → PyData.canLayAll0 ds = true
  | [], _ => rfl
  | d :: r, h => by
    show (d.canLay0 && PyData.canLayAll0 r) = true
    rw [(h d (List.mem_cons_self ..)).1, okA.lay (n := n) fun x hx => h x (List.mem_cons_of_mem _ hx)]
    rfl
theorem okA.deep {n : Nat} : ∀ {ds : List PyData}, okA n ds → PyData.depthAll ds ≤ n
  | [], _ => Nat.zero_le _
  | d :: r, h => by
    show max d.depth (PyData.depthAll r) ≤ n
    have h1 := (h d (List.mem_cons_self ..)).2.1
    have h2 := okA.deep (n := n) (ds := r) fun x hx => h x (List.mem_cons_of_mem _ hx)
    omega
theorem okA.tup {n : Nat} {ds : List PyData} (h : okA n ds) : okD (n + 1) (.tuple ds) := ⟨h.lay, Nat.succ_le_succ h.deep, fun x z => by cases z⟩
theorem okA.lst {n : Nat} {ds : List PyData} (h : okA n ds) : okD (n + 1) (.list ds) := ⟨h.lay, Nat.succ_le_succ h.deep, fun x z => by cases z⟩
theorem okA.app {n : Nat} {a b : List PyData} (h : okA n a) (g : okA n b) : okA n (a ++ b) := fun d hd => (List.mem_append.mp hd).elim (h d) (g d)
theorem okA.take {n : Nat} {a : List PyData} (k : Nat) (h : okA n a) : okA n (a.take k) := fun d hd => h d (List.mem_of_mem_take hd)
theorem okA.drop {n : Nat} {a : List PyData} (k : Nat) (h : okA n a) : okA n (a.drop k) := fun d hd => h d (List.mem_of_mem_drop hd)
theorem okA.nil {n : Nat} : okA n [] := fun d hd => by cases hd
theorem okA.cons {n : Nat} {d : PyData} {ds : List PyData} (h : okD n d) (g : okA n ds) : okA n (d :: ds) := fun x hx => (List.mem_cons.mp hx).elim (fun z => z ▸ h) (g x)
theorem okD.up {n m : Nat} {d : PyData} (h : okD n d) (k : n ≤ m) : okD m d := ⟨h.1, Nat.le_trans h.2.1 k, h.2.2⟩
theorem okA.up {n m : Nat} {d : List PyData} (h : okA n d) (k : n ≤ m) : okA m d := fun x hx => (h x hx).up k
theorem okD.non {n : Nat} : okD n .none := ⟨rfl, Nat.zero_le _, fun x z => by cases z⟩
theorem okD.bl {n : Nat} (b : Bool) : okD n (.bool b) := ⟨rfl, Nat.zero_le _, fun x z => by cases z⟩
theorem okD.int {n : Nat} (i : Int) : okD n (.int i) := ⟨rfl, Nat.zero_le _, fun x z => by cases z⟩
theorem okD.str {n : Nat} {x : Str} (h : PyData.strOk x = true) (g : x.length ≤ 10) : okD n (.str x) := ⟨h, Nat.zero_le _, fun y z => by
  injection z with z
  rw [← z]
  exact g⟩
theorem okD.shaped {n : Nat} {d : PyData} (h : okD n d) (k : n ≤ 64) : SeqAt.shaped d = true := by
  show (d.canLay0 && decide (d.depth ≤ 64)) = true
  rw [h.1, decide_eq_true (Nat.le_trans h.2.1 k)]
  rfl
/-- no great tree in it -/
def tinyD (d : PyData) : Prop := ∀ t, treeD d = some t → t.length ≤ 10
theorem treeD_some {d : PyData} {t : Str} (h : treeD d = some t) : ∃ w p0, d = .tuple [.str w, p0, .str t] := by
  unfold treeD at h
  split at h
  · rename_i w p0 t2
    by_cases c : w = Str.ofString "set"
    · rw [if_pos c] at h
      rw [← Option.some.inj h]
      exact ⟨_, _, rfl⟩
    · rw [if_neg c] at h
      cases h
  · cases h
theorem okA.tiny {n : Nat} {ds : List PyData} (h : okA n ds) : tinyD (.tuple ds) := fun t ht => by
  obtain ⟨w, p0, e⟩ := treeD_some ht
  injection e with e
  exact (h (.str t) (by rw [e]; simp)).2.2 t rfl
def goodR (d : PyData) : Prop := okD 3 d ∧ tinyD d
def goodV (d : PyData) : Prop := SeqAt.shaped d = true ∧ ∀ ds, d = .list ds → ds.length ≤ 9 ∧ ∀ x ∈ ds, tinyD x
theorem okA.goodR {n : Nat} {ds : List PyData} (h : okA n ds) (k : n ≤ 2) : goodR (.tuple ds) := ⟨h.tup.up (by omega), h.tiny⟩
theorem goodR.of {d : PyData} (h : okD 3 d) (g : ∀ ds, d ≠ .tuple ds) : Nx.goodR d := ⟨h, fun t ht => by
  obtain ⟨w, p0, e⟩ := treeD_some ht
  exact absurd e (g _)⟩
theorem goodV.of {d : PyData} {n : Nat} (h : okD n d) (k : n ≤ 64) (g : ∀ ds, d ≠ .list ds) : Nx.goodV d := ⟨h.shaped k, fun ds e => absurd e (g ds)⟩
theorem goodV.lst {ds : List PyData} (h : ∀ x ∈ ds, goodR x) (g : ds.length ≤ 9) : Nx.goodV (.list ds) := ⟨(okA.lst (n := 3) fun d hd => (h d hd).1).shaped (by decide), fun ds' e => by
  injection e with e
  rw [← e]
  exact ⟨g, fun x hx => (h x hx).2⟩⟩
/-- all but what stands at st -/
def off (st : Addr) (H : Hp) : Hp := fun a => if a = st then none else H a
theorem off_at {st a : Addr} {H : Hp} (h : a ≠ st) : off st H a = H a := if_neg h
theorem off_same {st : Addr} {H : Hp} : Same (off st H) H := fun a o h => by
  by_cases c : a = st
  · rw [Nx.off, if_pos c] at h
    cases h
  · rw [off_at c] at h
    exact h
theorem ExS.offS {st : Addr} {H H' : Hp} (e : ExS st H H') : Same (Nx.off st H) (Nx.off st H') := fun a o h => by
  by_cases c : a = st
  · rw [Nx.off, if_pos c] at h
    cases h
  · rw [off_at c] at h ⊢
    exact e a o c h
theorem _root_.L2.Same.offS {st : Addr} {H H' : Hp} (e : Same H H') : Same (Nx.off st H) (Nx.off st H') := e.exs.offS
theorem off_new {st p : Addr} {H : Hp} {o : HO} (h : Strm H st) (np : H p = none) : off st (upd H p o) p = some o := by
  rw [off_at (h.ne np)]
  exact upd_same
theorem off_tup {st b : Addr} {H : Hp} {xs : List V} (h : Strm H st) (e : H b = some (.tup xs)) : off st H b = some (.tup xs) := by
  rw [off_at]
  · exact e
  · rintro rfl
    obtain ⟨l, ns, c, i, m, h1, _⟩ := h
    rw [h1] at e
    cases e
theorem vdT {st b : Addr} {H : Hp} {xs : List V} {ds : List PyData} (h : Strm H st) (e : H b = some (.tup xs)) (hl : xs.length ≤ 1000000) (r : VdA (off st H) xs ds) : Vd (off st H) (.ref b) (.tuple ds) := .tup (off_tup h e) hl r
theorem le6 {n m : Nat} (h : Nat.ble n m = true) : n ≤ m := Nat.le_of_ble_eq_true h
theorem off_upd {D : Addr} {H : Hp} {o : HO} : off D (upd H D o) = off D H := by
  funext a
  by_cases c : a = D
  · rw [Nx.off, Nx.off, if_pos c, if_pos c]
  · rw [off_at c, off_at c, upd_ne c]
theorem same_off {D : Addr} {H : Hp} (h : H D = none) : Same H (off D H) := fun a o e => by
  rw [off_at (ne_of_none e h)]
  exact e
/-- how great the tree of an instruction is -/
def Ins.big : Ins → Nat
  | .set _ t => t.sg.length
  | _ => 0
theorem Ins.word_len (i : Ins) : i.word.length ≤ 4 := by
  cases i with
  | set a t => exact (by decide +kernel : (Str.ofString "set").length ≤ 4)
  | move a b => exact (by decide +kernel : (Str.ofString "move").length ≤ 4)
  | cons a b c => exact (by decide +kernel : (Str.ofString "cons").length ≤ 4)
  | head a b => exact (by decide +kernel : (Str.ofString "head").length ≤ 4)
  | tail a b => exact (by decide +kernel : (Str.ofString "tail").length ≤ 4)
  | jump a n => exact (by decide +kernel : (Str.ofString "jump").length ≤ 4)
theorem Ins.vda {H : Hp} (i : Ins) (h : i.big ≤ sizeLine) : VdA H i.vs (.str i.word :: i.dparts) := by
  have hz : sizeLine = 16777216 := rfl
  refine .cons (.str _ (by have := i.word_len; omega)) ?_
  cases i with
  | set a t => exact .cons (.int _) (.cons (.str _ (by rw [t.str_len]; exact h)) .nil)
  | move a b => exact .cons (.int _) (.cons (.int _) .nil)
  | cons a b c => exact .cons (.int _) (.cons (.int _) (.cons (.int _) .nil))
  | head a b => exact .cons (.int _) (.cons (.int _) .nil)
  | tail a b => exact .cons (.int _) (.cons (.int _) .nil)
  | jump a n => exact .cons (.int _) (.cons (.int _) .nil)
theorem Ins.vs_len (i : Ins) : 3 ≤ i.vs.length ∧ i.vs.length ≤ 4 := by
  cases i <;> (simp only [Ins.vs, Ins.parts, List.length_cons, List.length_nil]; omega)
theorem Ins.vd {H : Hp} {a : Addr} {i : Ins} (h : H a = some (.tup i.vs)) (hb : i.big ≤ sizeLine) : Vd H (.ref a) i.data := .tup h (by have := i.vs_len; omega) (i.vda hb)
theorem rows_vd {H : Hp} : ∀ {as : List Addr} {is : List Ins}, Rows H as is → (∀ i ∈ is, i.big ≤ sizeLine) → VdA H (as.map V.ref) (is.map Ins.data)
  | _, _, .nil, _ => .nil
  | _, _, .cons r t, h => .cons (Ins.vd r (h _ (List.mem_cons_self ..))) (rows_vd t fun i hi => h i (List.mem_cons_of_mem _ hi))
theorem rows_off {st : Addr} {H : Hp} {as : List Addr} {is : List Ins} (s : Strm H st) (h : Rows H as is) : Rows (off st H) as is := Paired.imp (fun a i q => by
  rw [off_at]
  · exact q
  · rintro rfl
    obtain ⟨l, ns, c, i, m, h1, _⟩ := s
    rw [h1] at q
    cases q) h
theorem Ins.okA (i : Ins) (h : i.big ≤ 10) : Nx.okA 0 (.str i.word :: i.dparts) := by
  refine .cons (.str i.word_ok (by have := i.word_len; omega)) ?_
  cases i with
  | set a t => exact .cons (.int _) (.cons (.str (strOk_01 t.sg_01) (by rw [t.str_len]; exact h)) .nil)
  | move a b => exact .cons (.int _) (.cons (.int _) .nil)
  | cons a b c => exact .cons (.int _) (.cons (.int _) (.cons (.int _) .nil))
  | head a b => exact .cons (.int _) (.cons (.int _) .nil)
  | tail a b => exact .cons (.int _) (.cons (.int _) .nil)
  | jump a n => exact .cons (.int _) (.cons (.int _) .nil)
theorem PgOk.big {w k : Nat} {is : List Ins} (h : PgOk w k is) : ∀ i ∈ is, i.big ≤ 2 * k + 1 := fun i hi => by
  obtain ⟨j, hj⟩ := List.getElem?_of_mem hi
  have := h j i hj
  cases i with
  | set a t =>
    have h1 := t.sg_len
    have h2 : t.pairs ≤ k := this.2
    show t.sg.length ≤ _
    omega
  | _ => exact Nat.zero_le _
/-- one of some values, at an open place -/
theorem ixL_vd {K : PySem.W.Frag} {H O : Hp} {p : Addr} {xs : List V} {ds : List PyData} {k : Nat} {Q : VK} (h : H p = some (.lst xs)) (r : VdA O xs ds) (hk : k < xs.length) (q : ∀ v d, d ∈ ds → Vd O v d → Q v H) : rIxL K (.ref p) (.int k) H Q := by
  obtain ⟨d, hd, hv⟩ := r.get' (List.getElem?_eq_getElem hk)
  exact ⟨p, xs, k, _, rfl, rfl, SqL.of h, atI_nat (List.getElem?_eq_getElem hk), q _ d (List.mem_of_getElem? hd) hv⟩
/-! ### programs among the values -/
def Ins.tree : Ins → Option Tr
  | .set _ t => some t
  | _ => none
def treesSum (is : List Ins) : Nat := ((is.filterMap Ins.tree).map fun t => t.sg.length).sum
theorem Ins.treeD (i : Ins) : Nx.treeD i.data = i.tree.map Tr.str := by
  cases i with
  | set a t =>
    show (if Str.ofString "set" = Str.ofString "set" then some t.str else none) = _
    rw [if_pos rfl]
    rfl
  | move a b => exact treeD_no _ (by decide +kernel : Str.ofString "move" ≠ Str.ofString "set")
  | cons a b c => exact treeD_no _ (by decide +kernel : Str.ofString "cons" ≠ Str.ofString "set")
  | head a b => exact treeD_no _ (by decide +kernel : Str.ofString "head" ≠ Str.ofString "set")
  | tail a b => exact treeD_no _ (by decide +kernel : Str.ofString "tail" ≠ Str.ofString "set")
  | jump a n => exact treeD_no _ (by decide +kernel : Str.ofString "jump" ≠ Str.ofString "set")
theorem fm_trees : ∀ is : List Ins, (is.map Ins.data).filterMap treeD = (is.filterMap Ins.tree).map Tr.str
  | [] => rfl
  | i :: r => by
    rw [List.map_cons, List.filterMap_cons, List.filterMap_cons, i.treeD]
    cases e : i.tree with
    | none => exact fm_trees r
    | some t =>
      show t.str :: _ = t.str :: _
      rw [fm_trees r]
theorem Ins.data_eq (i : Ins) : i.data = .tuple (.str i.word :: i.dparts) := rfl
theorem Ins.rowD {w k n j : Nat} {i : Ins} (h : i.ok w k j n) (hw : w ≤ 20) : Nx.rowD i.data j n = true := by
  rw [i.data_eq, rowD_is (shapes_at i), i.shape_kinds]
  have r : ∀ a : Nat, a < w → ∀ j n, fitsD 114 (.int a) j n = true := fun a ha j n => by
    show (decide (0 ≤ (a : Int)) && decide ((a : Int) < 20)) = true
    rw [decide_eq_true (by omega), decide_eq_true (by omega)]
    rfl
  cases i with
  | set a t =>
    show (true && (fitsD 114 (.int a) j n && (fitsD 116 (.str t.str) j n && true))) = true
    rw [r a h.1]
    rfl
  | move a b =>
    show (true && (fitsD 114 (.int a) j n && (fitsD 114 (.int b) j n && true))) = true
    rw [r a h.1, r b h.2]
    rfl
  | cons a b c =>
    show (true && (fitsD 114 (.int a) j n && (fitsD 114 (.int b) j n && (fitsD 114 (.int c) j n && true)))) = true
    rw [r a h.1, r b h.2.1, r c h.2.2]
    rfl
  | head a b =>
    show (true && (fitsD 114 (.int a) j n && (fitsD 114 (.int b) j n && true))) = true
    rw [r a h.1, r b h.2]
    rfl
  | tail a b =>
    show (true && (fitsD 114 (.int a) j n && (fitsD 114 (.int b) j n && true))) = true
    rw [r a h.1, r b h.2]
    rfl
  | jump a m =>
    show (true && (fitsD 114 (.int a) j n && ((decide (0 ≤ (j : Int) + m) && decide ((j : Int) + m ≤ n)) && true))) = true
    rw [r a h.1, decide_eq_true h.2.1, decide_eq_true h.2.2]
    rfl
theorem progOk_is {w k : Nat} {is : List Ins} (h : PgOk w k is) (hw : w ≤ 20) : progOk (progD is) = (decide (is.length ≤ 600) && decide (treesSum is ≤ 200000)) := by
  show (decide ((is.map Ins.data).length ≤ 600) && (rowsD (is.map Ins.data).length 0 (is.map Ins.data) && (decide ((((is.map Ins.data).filterMap treeD).map Str.length).sum ≤ 200000) && ((is.map Ins.data).filterMap treeD).all fun t => isT t.cps.toList))) = _
  rw [fm_trees, List.length_map]
  have e1 : rowsD is.length 0 (is.map Ins.data) = true := (rowsD_iff _ _ _).mpr fun j d hd => by
    rw [List.getElem?_map] at hd
    cases e : is[j]? with
    | none =>
      rw [e] at hd
      cases hd
    | some i =>
      rw [e] at hd
      rw [← Option.some.inj hd, Int.zero_add]
      exact Ins.rowD (h j i e) hw
  have e2 : (((is.filterMap Ins.tree).map Tr.str).all fun t => isT t.cps.toList) = true := by
    rw [List.all_eq_true]
    intro x hx
    obtain ⟨t, _, rfl⟩ := List.mem_map.mp hx
    exact isT_sg t
  have e3 : (((is.filterMap Ins.tree).map Tr.str).map Str.length).sum = treesSum is := by
    unfold treesSum
    rw [List.map_map]
    rfl
  rw [e1, e2, e3, Bool.true_and, Bool.and_true]
theorem sum_le {α : Type} (f : α → Nat) (m : Nat) : ∀ l : List α, (∀ x ∈ l, f x ≤ m) → (l.map f).sum ≤ l.length * m
  | [], _ => Nat.zero_le _
  | x :: r, h => by
    have h1 := h x (List.mem_cons_self ..)
    have h2 := sum_le f m r fun y hy => h y (List.mem_cons_of_mem _ hy)
    rw [List.map_cons, List.sum_cons, List.length_cons, Nat.succ_mul]
    omega
theorem treesSum_le {w k : Nat} {is : List Ins} (h : PgOk w k is) : treesSum is ≤ is.length * (2 * k + 1) := by
  refine Nat.le_trans (sum_le _ (2 * k + 1) _ fun t ht => ?_) (Nat.mul_le_mul_right _ (List.length_filterMap_le ..))
  obtain ⟨i, hi, e⟩ := List.mem_filterMap.mp ht
  have := h.big i hi
  cases i with
  | set a t2 =>
    rw [← Option.some.inj e]
    exact this
  | _ => cases e
theorem progOk_due {d : PyData} (g : goodV d) : progOk d = dueD d := by
  cases d with
  | list ds =>
    obtain ⟨hl, ht⟩ := g.2 ds rfl
    show (decide (ds.length ≤ 600) && (rowsD ds.length 0 ds && (decide (((ds.filterMap treeD).map Str.length).sum ≤ 200000) && (ds.filterMap treeD).all fun t => isT t.cps.toList))) = (decide (ds.length ≤ 600) && (dueB ds).all id)
    have h1 : ((ds.filterMap treeD).map Str.length).sum ≤ 200000 := by
      have h2 : ((ds.filterMap treeD).map Str.length).sum ≤ (ds.filterMap treeD).length * 10 := sum_le _ 10 _ fun t h => by
        obtain ⟨x, hx, e⟩ := List.mem_filterMap.mp h
        exact ht x hx t e
      have h3 := List.length_filterMap_le treeD ds
      omega
    rw [decide_eq_true h1, Bool.true_and]
    congr 1
    rw [Bool.eq_iff_iff, Bool.and_eq_true, rowsD_iff, List.all_eq_true, List.all_eq_true]
    have hd : ∀ j : Nat, j < ds.length → (dueB ds)[j]? = some (rowL (ds.getD j .none) j ds.length) := fun j hj => by
      unfold dueB
      rw [List.getElem?_map, List.getElem?_range hj]
      rfl
    have hg : ∀ (j : Nat) d, ds[j]? = some d → ds.getD j .none = d := fun j d h => by
      rw [List.getD_eq_getElem?_getD, h]
      rfl
    constructor
    · rintro ⟨a, b⟩ x hx
      obtain ⟨j, hj⟩ := List.getElem?_of_mem hx
      have hj2 : j < ds.length := by
        have := (List.getElem?_eq_some_iff.mp hj).1
        unfold dueB at this
        rw [List.length_map, List.length_range] at this
        exact this
      rw [hd j hj2] at hj
      have e := List.getElem?_eq_getElem hj2
      have a' := a j _ e
      rw [Int.zero_add] at a'
      rw [← Option.some.inj hj, hg j _ e]
      show (Nx.rowD ds[j] j ds.length && _) = true
      rw [a', Bool.true_and]
      cases e3 : treeD ds[j] with
      | none => rfl
      | some t => exact b t (List.mem_filterMap.mpr ⟨_, List.getElem_mem hj2, e3⟩)
    · intro a
      have a' : ∀ (j : Nat) d, ds[j]? = some d → rowL d j ds.length = true := fun j d h => by
        have hj := (List.getElem?_eq_some_iff.mp h).1
        have := a _ (List.mem_of_getElem? (hd j hj))
        rw [hg j d h] at this
        exact this
      refine ⟨fun j d h => ?_, fun t h => ?_⟩
      · have := a' j d h
        rw [Int.zero_add]
        exact (Bool.and_eq_true _ _ ▸ this : Nx.rowD d j ds.length = true ∧ _).1
      · obtain ⟨x, hx, e⟩ := List.mem_filterMap.mp h
        obtain ⟨j, hj⟩ := List.getElem?_of_mem hx
        have h1 := a' j x hj
        unfold rowL at h1
        rw [e, Bool.and_eq_true] at h1
        exact h1.2
  | _ => rfl
end Nx

/-! Codes of programs, and back. -/
namespace Nx
open PySem PySem.Spec PyProof.Rows L2
def wayT (n : Int) : Tr := .node (if n < 0 then .node .leaf .leaf else .leaf) (numT n.natAbs)
def Ins.no : Ins → Nat
  | .set _ _ => 0
  | .move _ _ => 1
  | .cons _ _ _ => 2
  | .head _ _ => 3
  | .tail _ _ => 4
  | .jump _ _ => 5
/-- the trees of the parts -/
def Ins.partsT : Ins → List Tr
  | .set a t => [numT a, t]
  | .move a b => [numT a, numT b]
  | .cons a b c => [numT a, numT b, numT c]
  | .head a b => [numT a, numT b]
  | .tail a b => [numT a, numT b]
  | .jump a n => [numT a, wayT n]
def Ins.restT : Ins → Tr
  | .set a t => .node (numT a) t
  | .move a b => .node (numT a) (numT b)
  | .cons a b c => .node (numT a) (.node (numT b) (numT c))
  | .head a b => .node (numT a) (numT b)
  | .tail a b => .node (numT a) (numT b)
  | .jump a n => .node (numT a) (wayT n)
def Ins.codeT (i : Ins) : Tr := .node (numT i.no) i.restT
def codeT (is : List Ins) : Tr := lstT (is.map Ins.codeT)
/-! ### back -/
def numOf : Tr → Option Nat
  | .leaf => some 0
  | .node .leaf r => (numOf r).map (· + 1)
  | .node (.node _ _) _ => none
theorem numOf_num (n : Nat) : numOf (numT n) = some n := by
  induction n with
  | zero => rfl
  | succ n ih =>
    show (numOf (numT n)).map (· + 1) = _
    rw [ih]
    rfl
theorem numOf_some : ∀ {t : Tr} {k : Nat}, numOf t = some k → t = numT k
  | .leaf, k, h => by
    have : 0 = k := Option.some.inj h
    rw [← this]
    rfl
  | .node .leaf r, k, h => by
    have h : (numOf r).map (· + 1) = some k := h
    cases e : numOf r with
    | none =>
      rw [e] at h
      cases h
    | some j =>
      rw [e] at h
      have : j + 1 = k := Option.some.inj h
      rw [← this, numOf_some e]
      rfl
  | .node (.node _ _) _, k, h => by cases h
theorem numOf_none {t : Tr} (h : numOf t = none) : ∀ k, t ≠ numT k := fun k e => by
  rw [e, numOf_num] at h
  cases h
def wayOf : Tr → Option Int
  | .leaf => none
  | .node s r => match numOf r with
    | none => none
    | some k => if s = .leaf then some k else if s = .node .leaf .leaf ∧ 0 < k then some (-k) else none
theorem wayOf_way (n : Int) : wayOf (wayT n) = some n := by
  unfold wayT wayOf
  dsimp only
  rw [numOf_num]
  dsimp only
  by_cases h : n < 0
  · rw [if_pos h, if_neg (by intro z; cases z), if_pos ⟨rfl, by omega⟩]
    congr 1
    omega
  · rw [if_neg h, if_pos rfl]
    congr 1
    omega
theorem wayOf_some {t : Tr} {n : Int} (h : wayOf t = some n) : t = wayT n := by
  cases t with
  | leaf => cases h
  | node s r =>
    unfold wayOf at h
    dsimp only at h
    cases e : numOf r with
    | none =>
      rw [e] at h
      cases h
    | some k =>
      rw [e] at h
      dsimp only at h
      have er := numOf_some e
      unfold wayT
      by_cases h1 : s = .leaf
      · rw [if_pos h1] at h
        have : (k : Int) = n := Option.some.inj h
        rw [← this, if_neg (by omega), h1, er]
        rfl
      · rw [if_neg h1] at h
        by_cases h2 : s = .node .leaf .leaf ∧ 0 < k
        · rw [if_pos h2] at h
          have : -(k : Int) = n := Option.some.inj h
          rw [← this, if_pos (by omega), h2.1, er, show (-(k : Int)).natAbs = k by omega]
        · rw [if_neg h2] at h
          cases h
theorem wayT_inj {n m : Int} (h : wayT n = wayT m) : n = m := by
  have := wayOf_way n
  rw [h, wayOf_way] at this
  exact (Option.some.inj this).symm
theorem Ins.codeT_inj {i j : Ins} (h : i.codeT = j.codeT) : i = j := by
  have h1 : i.no = j.no := numT_inj (Tr.node.inj h).1
  have h2 : i.restT = j.restT := (Tr.node.inj h).2
  cases i with
  | set a t =>
    cases j with
    | set a2 t2 =>
      obtain ⟨e1, e2⟩ := Tr.node.inj h2
      rw [numT_inj e1, e2]
    | _ => exact absurd h1 (by simp only [Ins.no]; decide)
  | move a b =>
    cases j with
    | move a2 b2 =>
      obtain ⟨e1, e2⟩ := Tr.node.inj h2
      rw [numT_inj e1, numT_inj e2]
    | _ => exact absurd h1 (by simp only [Ins.no]; decide)
  | cons a b c =>
    cases j with
    | cons a2 b2 c2 =>
      obtain ⟨e1, e2⟩ := Tr.node.inj h2
      obtain ⟨e2, e3⟩ := Tr.node.inj e2
      rw [numT_inj e1, numT_inj e2, numT_inj e3]
    | _ => exact absurd h1 (by simp only [Ins.no]; decide)
  | head a b =>
    cases j with
    | head a2 b2 =>
      obtain ⟨e1, e2⟩ := Tr.node.inj h2
      rw [numT_inj e1, numT_inj e2]
    | _ => exact absurd h1 (by simp only [Ins.no]; decide)
  | tail a b =>
    cases j with
    | tail a2 b2 =>
      obtain ⟨e1, e2⟩ := Tr.node.inj h2
      rw [numT_inj e1, numT_inj e2]
    | _ => exact absurd h1 (by simp only [Ins.no]; decide)
  | jump a n =>
    cases j with
    | jump a2 n2 =>
      obtain ⟨e1, e2⟩ := Tr.node.inj h2
      rw [numT_inj e1, wayT_inj e2]
    | _ => exact absurd h1 (by simp only [Ins.no]; decide)
theorem map_codeT_inj : ∀ {a b : List Ins}, a.map Ins.codeT = b.map Ins.codeT → a = b
  | [], [], _ => rfl
  | [], y :: b, h => by cases h
  | x :: a, [], h => by cases h
  | x :: a, y :: b, h => by
    obtain ⟨h1, h2⟩ := List.cons.inj h
    rw [Ins.codeT_inj h1, map_codeT_inj h2]
theorem codeT_inj {a b : List Ins} (h : codeT a = codeT b) : a = b := by
  have h1 := congrArg Tr.items h
  unfold codeT at h1
  rw [items_lstT, items_lstT] at h1
  exact map_codeT_inj h1
def decP (k : Nat) (t : Tr) : Option V := if k = 116 then some (.str t.str) else if k = 114 then (numOf t).map fun n => V.int n else (wayOf t).map V.int
def decL : List Nat → Tr → Option (List V)
  | [], _ => none
  | [k], t => (decP k t).map fun v => [v]
  | _ :: _ :: _, .leaf => none
  | k :: k2 :: ks, .node a b => match decP k a with
    | none => none
    | some v => (decL (k2 :: ks) b).map fun vs => v :: vs
def wordsL : List (Str × List Nat) := [("set", [114, 116]), ("move", [114, 114]), ("cons", [114, 114, 114]), ("head", [114, 114]), ("tail", [114, 114]), ("jump", [114, 110])]
def decV : Tr → Option (List V)
  | .leaf => none
  | .node a b => match numOf a with
    | none => none
    | some n => match wordsL[n]? with
      | none => none
      | some (w, ks) => (decL ks b).map fun vs => .str w :: vs
theorem decP_114 (t : Tr) : decP 114 t = (numOf t).map fun n => V.int n := by
  unfold decP
  rw [if_neg (by decide), if_pos rfl]
theorem decP_110 (t : Tr) : decP 110 t = (wayOf t).map V.int := by
  unfold decP
  rw [if_neg (by decide), if_neg (by decide)]
theorem decP_reg (a : Nat) : decP 114 (numT a) = some (.int a) := by
  rw [decP_114, numOf_num]
  rfl
theorem decP_way (n : Int) : decP 110 (wayT n) = some (.int n) := by
  rw [decP_110, wayOf_way]
  rfl
theorem decV_code (i : Ins) : decV i.codeT = some i.vs := by
  show (match numOf (numT i.no) with | none => none | some n => match wordsL[n]? with | none => none | some (w, ks) => (decL ks i.restT).map fun vs => V.str w :: vs) = _
  rw [numOf_num]
  cases i with
  | set a t =>
    show (match decP 114 (numT a) with | none => none | some v => (decL [116] t).map fun vs => v :: vs).map _ = _
    rw [decP_reg]
    rfl
  | move a b =>
    show (match decP 114 (numT a) with | none => none | some v => ((decP 114 (numT b)).map fun v => [v]).map fun vs => v :: vs).map _ = _
    rw [decP_reg, decP_reg]
    rfl
  | cons a b c =>
    show (match decP 114 (numT a) with | none => none | some v => (match decP 114 (numT b) with | none => none | some v => ((decP 114 (numT c)).map fun v => [v]).map fun vs => v :: vs).map fun vs => v :: vs).map _ = _
    rw [decP_reg, decP_reg, decP_reg]
    rfl
  | head a b =>
    show (match decP 114 (numT a) with | none => none | some v => ((decP 114 (numT b)).map fun v => [v]).map fun vs => v :: vs).map _ = _
    rw [decP_reg, decP_reg]
    rfl
  | tail a b =>
    show (match decP 114 (numT a) with | none => none | some v => ((decP 114 (numT b)).map fun v => [v]).map fun vs => v :: vs).map _ = _
    rw [decP_reg, decP_reg]
    rfl
  | jump a n =>
    show (match decP 114 (numT a) with | none => none | some v => ((decP 110 (wayT n)).map fun v => [v]).map fun vs => v :: vs).map _ = _
    rw [decP_reg, decP_way]
    rfl
theorem decP_regS {t : Tr} {v : V} (h : decP 114 t = some v) : ∃ a : Nat, t = numT a ∧ v = .int a := by
  rw [decP_114] at h
  cases e : numOf t with
  | none =>
    rw [e] at h
    cases h
  | some a =>
    rw [e] at h
    exact ⟨a, numOf_some e, (Option.some.inj h).symm⟩
theorem decP_wayS {t : Tr} {v : V} (h : decP 110 t = some v) : ∃ n : Int, t = wayT n ∧ v = .int n := by
  rw [decP_110] at h
  cases e : wayOf t with
  | none =>
    rw [e] at h
    cases h
  | some a =>
    rw [e] at h
    exact ⟨a, wayOf_some e, (Option.some.inj h).symm⟩
theorem decL_one {k : Nat} {t : Tr} {vs : List V} (h : decL [k] t = some vs) : ∃ v, decP k t = some v ∧ vs = [v] := by
  have h : (decP k t).map (fun v => [v]) = some vs := h
  cases e : decP k t with
  | none =>
    rw [e] at h
    cases h
  | some v =>
    rw [e] at h
    exact ⟨v, rfl, (Option.some.inj h).symm⟩
theorem decL_more {k k2 : Nat} {ks : List Nat} {t : Tr} {vs : List V} (h : decL (k :: k2 :: ks) t = some vs) : ∃ a b v us, t = .node a b ∧ decP k a = some v ∧ decL (k2 :: ks) b = some us ∧ vs = v :: us := by
  cases t with
  | leaf => cases h
  | node a b =>
    have h : (match decP k a with | none => none | some v => (decL (k2 :: ks) b).map fun vs => v :: vs) = some vs := h
    cases e : decP k a with
    | none =>
      rw [e] at h
      cases h
    | some v =>
      rw [e] at h
      dsimp only at h
      cases e2 : decL (k2 :: ks) b with
      | none =>
        rw [e2] at h
        cases h
      | some us =>
        rw [e2] at h
        exact ⟨a, b, v, us, rfl, e, e2, (Option.some.inj h).symm⟩
theorem decL_rr {t : Tr} {vs : List V} (h : decL [114, 114] t = some vs) : ∃ a b : Nat, t = .node (numT a) (numT b) ∧ vs = [.int a, .int b] := by
  obtain ⟨p, q, v, us, rfl, h1, h2, rfl⟩ := decL_more h
  obtain ⟨a, rfl, rfl⟩ := decP_regS h1
  obtain ⟨w, h3, rfl⟩ := decL_one h2
  obtain ⟨b, rfl, rfl⟩ := decP_regS h3
  exact ⟨a, b, rfl, rfl⟩
theorem decV_some {t : Tr} {vs : List V} (h : decV t = some vs) : ∃ i : Ins, vs = i.vs ∧ t = i.codeT := by
  cases t with
  | leaf => cases h
  | node a b =>
    have h : (match numOf a with | none => none | some n => match wordsL[n]? with | none => none | some (w, ks) => (decL ks b).map fun vs => V.str w :: vs) = some vs := h
    cases e : numOf a with
    | none =>
      rw [e] at h
      cases h
    | some n =>
      rw [e] at h
      have ea := numOf_some e
      have key : ∀ w ks, wordsL[n]? = some (w, ks) → ∃ us, decL ks b = some us ∧ vs = .str w :: us := fun w ks hw => by
        dsimp only at h
        rw [hw] at h
        dsimp only at h
        cases e2 : decL ks b with
        | none =>
          rw [e2] at h
          cases h
        | some us =>
          rw [e2] at h
          exact ⟨us, rfl, (Option.some.inj h).symm⟩
      match n, ea, h, key with
      | 0, ea, _, key =>
        obtain ⟨us, h0, rfl⟩ := key _ _ rfl
        obtain ⟨p, q, v, us, rfl, h1, h2, rfl⟩ := decL_more h0
        obtain ⟨r, rfl, rfl⟩ := decP_regS h1
        obtain ⟨w, h3, rfl⟩ := decL_one h2
        have h3 : some (V.str q.str) = some w := h3
        exact ⟨.set r q, by rw [← Option.some.inj h3]; rfl, by rw [ea]; rfl⟩
      | 1, ea, _, key =>
        obtain ⟨us, h0, rfl⟩ := key _ _ rfl
        obtain ⟨r, q, rfl, rfl⟩ := decL_rr h0
        exact ⟨.move r q, rfl, by rw [ea]; rfl⟩
      | 2, ea, _, key =>
        obtain ⟨us, h0, rfl⟩ := key _ _ rfl
        obtain ⟨p, q, v, us, rfl, h1, h2, rfl⟩ := decL_more h0
        obtain ⟨r, rfl, rfl⟩ := decP_regS h1
        obtain ⟨c, d, rfl, rfl⟩ := decL_rr h2
        exact ⟨.cons r c d, rfl, by rw [ea]; rfl⟩
      | 3, ea, _, key =>
        obtain ⟨us, h0, rfl⟩ := key _ _ rfl
        obtain ⟨r, q, rfl, rfl⟩ := decL_rr h0
        exact ⟨.head r q, rfl, by rw [ea]; rfl⟩
      | 4, ea, _, key =>
        obtain ⟨us, h0, rfl⟩ := key _ _ rfl
        obtain ⟨r, q, rfl, rfl⟩ := decL_rr h0
        exact ⟨.tail r q, rfl, by rw [ea]; rfl⟩
      | 5, ea, _, key =>
        obtain ⟨us, h0, rfl⟩ := key _ _ rfl
        obtain ⟨p, q, v, us, rfl, h1, h2, rfl⟩ := decL_more h0
        obtain ⟨r, rfl, rfl⟩ := decP_regS h1
        obtain ⟨w, h3, rfl⟩ := decL_one h2
        obtain ⟨m, rfl, rfl⟩ := decP_wayS h3
        exact ⟨.jump r m, rfl, by rw [ea]; rfl⟩
      | n + 6, ea, h, _ => cases h
theorem decV_none {t : Tr} (h : decV t = none) (i : Ins) : t ≠ i.codeT := fun e => by
  rw [e, decV_code] at h
  cases h
/-- numbers that are small -/
def Ins.small : Ins → Prop
  | .set a t => a < 1000 ∧ t.sg.length ≤ 200000
  | .move a b => a < 1000 ∧ b < 1000
  | .cons a b c => a < 1000 ∧ b < 1000 ∧ c < 1000
  | .head a b => a < 1000 ∧ b < 1000
  | .tail a b => a < 1000 ∧ b < 1000
  | .jump a n => a < 1000 ∧ n.natAbs < 1000
theorem Ins.ok_small {w k i n : Nat} {x : Ins} (h : x.ok w k i n) (hw : w ≤ 1000) (hk : 2 * k + 1 ≤ 200000) (hi : i ≤ n) (hn : n < 1000) : x.small := by
  cases x with
  | set a t =>
    have h2 := t.sg_len
    have h3 : t.pairs ≤ k := h.2
    exact ⟨Nat.lt_of_lt_of_le h.1 hw, by omega⟩
  | move a b => exact ⟨Nat.lt_of_lt_of_le h.1 hw, Nat.lt_of_lt_of_le h.2 hw⟩
  | cons a b c => exact ⟨Nat.lt_of_lt_of_le h.1 hw, Nat.lt_of_lt_of_le h.2.1 hw, Nat.lt_of_lt_of_le h.2.2 hw⟩
  | head a b => exact ⟨Nat.lt_of_lt_of_le h.1 hw, Nat.lt_of_lt_of_le h.2 hw⟩
  | tail a b => exact ⟨Nat.lt_of_lt_of_le h.1 hw, Nat.lt_of_lt_of_le h.2 hw⟩
  | jump a m =>
    obtain ⟨h1, h2, h3⟩ := h
    exact ⟨Nat.lt_of_lt_of_le h1 hw, by omega⟩
theorem PgOk.small {w k : Nat} {is : List Ins} (h : PgOk w k is) (hw : w ≤ 1000) (hk : 2 * k + 1 ≤ 200000) (hn : is.length < 1000) : ∀ i ∈ is, i.small := fun i hi => by
  obtain ⟨j, hj⟩ := List.getElem?_of_mem hi
  have := (List.getElem?_eq_some_iff.mp hj).1
  exact Ins.ok_small (h j i hj) hw hk (by omega) hn
/-- the parts beside their trees -/
inductive PartT : Nat → V → Tr → Prop where
  | tree (t : Tr) : PartT 116 (.str t.str) t
  | reg (a : Nat) : PartT 114 (.int a) (numT a)
  | way (n : Int) : PartT 110 (.int n) (wayT n)
theorem Ins.part_tree (i : Ins) {j c : Nat} {y : V} (h1 : i.kinds[j]? = some c) (h2 : i.parts[j]? = some y) : ∃ T, i.partsT[j]? = some T ∧ PartT c y T := by
  cases i <;> (match j, h1, h2 with
    | 0, h1, h2 => simp [Ins.kinds, Ins.parts] at h1 h2; subst h1 h2; exact ⟨_, rfl, by first | exact .reg _ | exact .tree _ | exact .way _⟩
    | 1, h1, h2 => simp [Ins.kinds, Ins.parts] at h1 h2; subst h1 h2; exact ⟨_, rfl, by first | exact .reg _ | exact .tree _ | exact .way _⟩
    | 2, h1, h2 => simp [Ins.kinds, Ins.parts] at h1 h2 <;> (subst h1 h2; exact ⟨_, rfl, by first | exact .reg _ | exact .tree _ | exact .way _⟩)
    | j + 3, h1, h2 => simp [Ins.kinds, Ins.parts] at h1 h2)
theorem wayT_len (n : Int) : (wayT n).sg.length ≤ 2 * n.natAbs + 5 := by
  unfold wayT
  show (_ ++ _ : List Nat).length + 1 ≤ _
  rw [List.length_append, numT_len]
  by_cases h : n < 0
  · rw [if_pos h]
    show 3 + _ + 1 ≤ _
    omega
  · rw [if_neg h]
    show 1 + _ + 1 ≤ _
    omega
theorem Ins.parts_small {i : Ins} (h : i.small) : ∀ T ∈ i.partsT, T.sg.length ≤ 200000 := by
  have r : ∀ a : Nat, a < 1000 → (numT a).sg.length ≤ 200000 := fun a ha => by
    rw [numT_len]
    omega
  cases i with
  | set a t => simp only [Ins.partsT, List.mem_cons, List.not_mem_nil, or_false]; rintro T (rfl | rfl); exact r _ h.1; exact h.2
  | move a b => simp only [Ins.partsT, List.mem_cons, List.not_mem_nil, or_false]; rintro T (rfl | rfl); exact r _ h.1; exact r _ h.2
  | cons a b c => simp only [Ins.partsT, List.mem_cons, List.not_mem_nil, or_false]; rintro T (rfl | rfl | rfl); exact r _ h.1; exact r _ h.2.1; exact r _ h.2.2
  | head a b => simp only [Ins.partsT, List.mem_cons, List.not_mem_nil, or_false]; rintro T (rfl | rfl); exact r _ h.1; exact r _ h.2
  | tail a b => simp only [Ins.partsT, List.mem_cons, List.not_mem_nil, or_false]; rintro T (rfl | rfl); exact r _ h.1; exact r _ h.2
  | jump a n =>
    simp only [Ins.partsT, List.mem_cons, List.not_mem_nil, or_false]
    rintro T (rfl | rfl)
    · exact r _ h.1
    · have h1 := wayT_len n
      have h2 : n.natAbs < 1000 := h.2
      omega
/-! ### t.index(x) of a tuple of texts -/
theorem vals_strs : ∀ {ys : List Str} {vs : List Value}, Vals (ys.map V.str) vs → StrsAre vs ys
  | [], _, .nil => .nil
  | y :: ys, _, .cons r rr => by
    obtain ⟨t, rfl⟩ := r
    exact .cons y t (vals_strs rr)
def rTIdx (K : PySem.W.Frag) : V → List V → Hp → VK → Prop := fun x xs H Q => ∃ (a : Addr) (ys : List Str) (k : Str), x = .ref a ∧ xs = [.str k] ∧ SqT K H a (ys.map V.str) ∧ k ∈ ys ∧ Q (.int (ys.idxOf k : Nat)) H
theorem mt_tindex {X : Cx} : MtR X "tuple.index" (rTIdx X.K) := by
  intro pins s σ H x xs v us Q I rx rxs h
  obtain ⟨a, ys, k, rfl, rfl, hs, hk, q⟩ := h
  cases rx
  cases rxs with
  | cons ry rt =>
    cases rt
    obtain ⟨t, rfl⟩ := ry
    obtain ⟨its, rv, ht, _⟩ := I.tuple hs
    exact SeqAt.tuple_index_strs ht (vals_strs rv) hk ⟨.int (ys.idxOf k : Nat), H, I.tok _, ⟨_, rfl⟩, q⟩
theorem s100 : Str.ofString "100" = (Tr.node .leaf .leaf).str := by decide +kernel
theorem sleaf : Str.ofString "0" = Tr.leaf.str := by decide +kernel
theorem is_t : Str.ofString "t" = stS [116] := by decide +kernel
theorem is_r : Str.ofString "r" = stS [114] := by decide +kernel
theorem abs_nat (n : Int) : (if n < 0 then -n else n) = ((n.natAbs : Nat) : Int) := by
  split <;> omega
theorem cutV_last (xs : List V) (v : V) : cutV (xs ++ [v]) none (some (-1)) = xs := by
  show ((xs ++ [v]).drop 0).take (HT.sIx (xs ++ [v]).length (xs ++ [v]).length (some (-1)) - 0) = xs
  have e : HT.sIx (xs ++ [v]).length (xs ++ [v]).length (some (-1)) = xs.length := by
    show (if (-1 : Int) < 0 then ((-1 : Int) + ((xs ++ [v]).length : Nat)).toNat else min (-1 : Int).toNat (xs ++ [v]).length) = _
    rw [if_pos (by decide), List.length_append, List.length_singleton]
    omega
  rw [e, List.drop_zero, Nat.sub_zero]
  exact List.take_left' rfl
theorem Ins.parts_split (i : Ins) : ∃ (init : List Tr) (last : Tr), i.partsT = init ++ [last] ∧ init.foldr Tr.node last = i.restT ∧ init.length + 1 = i.parts.length := by
  cases i with
  | set a t => exact ⟨[numT a], t, rfl, rfl, rfl⟩
  | move a b => exact ⟨[numT a], numT b, rfl, rfl, rfl⟩
  | cons a b c => exact ⟨[numT a, numT b], numT c, rfl, rfl, rfl⟩
  | head a b => exact ⟨[numT a], numT b, rfl, rfl, rfl⟩
  | tail a b => exact ⟨[numT a], numT b, rfl, rfl, rfl⟩
  | jump a n => exact ⟨[numT a], wayT n, rfl, rfl, rfl⟩
theorem node_len (a b : Tr) : (Tr.node a b).sg.length = 1 + a.sg.length + b.sg.length := by
  show (a.sg ++ b.sg).length + 1 = _
  rw [List.length_append]
  omega
theorem foldr_drop_le (t : Tr) : ∀ (l : List Tr) (k : Nat), ((l.drop k).foldr Tr.node t).sg.length ≤ (l.foldr Tr.node t).sg.length
  | [], k => by
    rw [List.drop_nil]
    exact Nat.le_refl _
  | x :: l, 0 => Nat.le_refl _
  | x :: l, k + 1 => by
    have := foldr_drop_le t l k
    rw [List.drop_succ_cons, List.foldr_cons, node_len]
    omega
theorem code_len (i : Ins) : i.codeT.sg.length = 1 + (2 * i.no + 1) + i.restT.sg.length := by
  show (Tr.node (numT i.no) i.restT).sg.length = _
  rw [node_len, numT_len]
theorem no_le (i : Ins) : i.no ≤ 5 := by cases i <;> (simp only [Ins.no]; decide)
theorem word_at (i : Ins) : i.word ∈ ([("set" : Str), ("move" : Str), ("cons" : Str), ("head" : Str), ("tail" : Str), ("jump" : Str)] : List Str) ∧ ([("set" : Str), ("move" : Str), ("cons" : Str), ("head" : Str), ("tail" : Str), ("jump" : Str)] : List Str).idxOf i.word = i.no := by
  cases i with
  | set a t => exact (by decide +kernel : (Str.ofString "set") ∈ ([("set" : Str), ("move" : Str), ("cons" : Str), ("head" : Str), ("tail" : Str), ("jump" : Str)] : List Str) ∧ ([("set" : Str), ("move" : Str), ("cons" : Str), ("head" : Str), ("tail" : Str), ("jump" : Str)] : List Str).idxOf (Str.ofString "set") = 0)
  | move a b => exact (by decide +kernel : (Str.ofString "move") ∈ ([("set" : Str), ("move" : Str), ("cons" : Str), ("head" : Str), ("tail" : Str), ("jump" : Str)] : List Str) ∧ ([("set" : Str), ("move" : Str), ("cons" : Str), ("head" : Str), ("tail" : Str), ("jump" : Str)] : List Str).idxOf (Str.ofString "move") = 1)
  | cons a b c => exact (by decide +kernel : (Str.ofString "cons") ∈ ([("set" : Str), ("move" : Str), ("cons" : Str), ("head" : Str), ("tail" : Str), ("jump" : Str)] : List Str) ∧ ([("set" : Str), ("move" : Str), ("cons" : Str), ("head" : Str), ("tail" : Str), ("jump" : Str)] : List Str).idxOf (Str.ofString "cons") = 2)
  | head a b => exact (by decide +kernel : (Str.ofString "head") ∈ ([("set" : Str), ("move" : Str), ("cons" : Str), ("head" : Str), ("tail" : Str), ("jump" : Str)] : List Str) ∧ ([("set" : Str), ("move" : Str), ("cons" : Str), ("head" : Str), ("tail" : Str), ("jump" : Str)] : List Str).idxOf (Str.ofString "head") = 3)
  | tail a b => exact (by decide +kernel : (Str.ofString "tail") ∈ ([("set" : Str), ("move" : Str), ("cons" : Str), ("head" : Str), ("tail" : Str), ("jump" : Str)] : List Str) ∧ ([("set" : Str), ("move" : Str), ("cons" : Str), ("head" : Str), ("tail" : Str), ("jump" : Str)] : List Str).idxOf (Str.ofString "tail") = 4)
  | jump a n => exact (by decide +kernel : (Str.ofString "jump") ∈ ([("set" : Str), ("move" : Str), ("cons" : Str), ("head" : Str), ("tail" : Str), ("jump" : Str)] : List Str) ∧ ([("set" : Str), ("move" : Str), ("cons" : Str), ("head" : Str), ("tail" : Str), ("jump" : Str)] : List Str).idxOf (Str.ofString "jump") = 5)
theorem trV_append (a b : List Tr) : trV (a ++ b) = trV a ++ trV b := List.map_append ..
theorem le_sum {n : Nat} : ∀ l : List Nat, n ∈ l → n ≤ l.sum
  | x :: r, h => by
    rw [List.sum_cons]
    rcases List.mem_cons.mp h with h | h
    · rw [h]
      omega
    · have := le_sum r h
      omega
theorem decL_step (k : Nat) (c : List Nat) (l : Nat) (a b : Tr) : decL (k :: (c ++ [l])) (.node a b) = match decP k a with | none => none | some v => (decL (c ++ [l]) b).map fun vs => v :: vs := by
  cases c <;> rfl
theorem decL_leaf (k : Nat) (c : List Nat) (l : Nat) : decL (k :: (c ++ [l])) .leaf = none := by
  cases c <;> rfl
theorem cut_last (l : List Nat) (x : Nat) : cutS (stS (l ++ [x])) none (some (-1)) = stS l := by
  show stS (((l ++ [x]).drop 0).take (HT.sIx (stS (l ++ [x])).length (stS (l ++ [x])).length (some (-1)) - 0)) = _
  have e : HT.sIx (stS (l ++ [x])).length (stS (l ++ [x])).length (some (-1)) = l.length := by
    show (if (-1 : Int) < 0 then ((-1 : Int) + ((stS (l ++ [x])).length : Nat)).toNat else min (-1 : Int).toNat (stS (l ++ [x])).length) = _
    rw [if_pos (by decide), stS_len, List.length_append, List.length_singleton]
    omega
  rw [e, List.drop_zero, Nat.sub_zero, List.take_left' rfl]
theorem words_at {n : Nat} (h : n < 6) : ∃ (w : Str) (sh : Str) (init : List Nat) (last : Nat), wordsL[n]? = some (w, init ++ [last]) ∧ (([("set" : Str), ("move" : Str), ("cons" : Str), ("head" : Str), ("tail" : Str), ("jump" : Str)] : List Str).map V.str)[n]? = some (.str w) ∧
    shapes.lookup w = some sh ∧ sh = stS (init ++ [last]) ∧ init.length ≤ 2 := by
  match n, h with
  | 0, _ => exact ⟨"set", "rt", [114], 116, rfl, rfl, by decide +kernel, by decide +kernel, by decide⟩
  | 1, _ => exact ⟨"move", "rr", [114], 114, rfl, rfl, by decide +kernel, by decide +kernel, by decide⟩
  | 2, _ => exact ⟨"cons", "rrr", [114, 114], 114, rfl, rfl, by decide +kernel, by decide +kernel, by decide⟩
  | 3, _ => exact ⟨"head", "rr", [114], 114, rfl, rfl, by decide +kernel, by decide +kernel, by decide⟩
  | 4, _ => exact ⟨"tail", "rr", [114], 114, rfl, rfl, by decide +kernel, by decide +kernel, by decide⟩
  | 5, _ => exact ⟨"jump", "rn", [114], 110, rfl, rfl, by decide +kernel, by decide +kernel, by decide⟩
theorem items_len (t : Tr) : ∀ x ∈ t.items, x.sg.length ≤ t.sg.length := by
  induction t with
  | leaf => intro x h; cases h
  | node a b _ ih =>
    intro x h
    rw [node_len]
    rcases List.mem_cons.mp h with h | h
    · rw [h]
      omega
    · have := ih x h
      omega
theorem progOk_len {is : List Ins} (h : ¬ is.length ≤ 600) : progOk (progD is) = false := by
  show (decide ((is.map Ins.data).length ≤ 600) && _) = false
  rw [List.length_map, decide_eq_false h, Bool.false_and]
theorem codeT_items {t : Tr} {is : List Ins} (h : t = codeT is) : t.items = is.map Ins.codeT := by
  rw [h]
  exact items_lstT _
theorem same_none {H H' : Hp} {D : Addr} (s : Same H H') (n : H' D = none) : H D = none := by
  cases z : H D with
  | none => rfl
  | some o =>
    rw [s _ _ z] at n
    cases n
theorem Ins.big_code (i : Ins) : i.big ≤ i.codeT.sg.length := by
  cases i with
  | set a t =>
    show t.sg.length ≤ (Tr.node (numT 0) (.node (numT a) t)).sg.length
    rw [node_len, node_len]
    omega
  | _ => exact Nat.zero_le _
/-! ### codes as the laws write them -/
def Ins.a : Ins → Nat
  | .set a _ => a
  | .move a _ => a
  | .cons a _ _ => a
  | .head a _ => a
  | .tail a _ => a
  | .jump a _ => a
def Ins.r2 : Ins → Tr
  | .set _ t => t
  | .move _ b => numT b
  | .cons _ b c => .node (numT b) (numT c)
  | .head _ b => numT b
  | .tail _ b => numT b
  | .jump _ n => wayT n
theorem Ins.restT_eq (i : Ins) : i.restT = .node (numT i.a) i.r2 := by cases i <;> rfl
theorem Ins.a_at (i : Ins) : i.vs[1]? = some (.int i.a) := by cases i <;> rfl
theorem Ins.small_a {i : Ins} (h : i.small) : i.a < 1000 := by
  cases i with
  | set a t => exact h.1
  | move a b => exact h.1
  | cons a b c => exact h.1
  | head a b => exact h.1
  | tail a b => exact h.1
  | jump a n => exact h.1
theorem l11 : (Str.ofString "11").length = 2 := by decide +kernel
theorem l1 : (Str.ofString "1").length = 1 := by decide +kernel
theorem l0 : (Str.ofString "0").length = 1 := by decide +kernel
theorem s11 : Str.ofString "11" = stS [49, 49] := by decide +kernel
theorem sE : Str.ofString "" = stS [] := by decide +kernel
theorem codeT_sg (is : List Ins) : (codeT is).sg = (is.map fun i => 49 :: i.codeT.sg).flatten ++ [48] := by
  unfold codeT
  rw [lstT_sg, List.map_map]
  rfl
theorem pre_len (is : List Ins) (j : Nat) : ((is.take j).map fun i => 49 :: i.codeT.sg).flatten.length + 1 ≤ (codeT is).sg.length := by
  rw [codeT_sg, List.length_append, List.length_singleton]
  conv => rhs; rw [← List.take_append_drop j is]
  rw [List.map_append, List.flatten_append, List.length_append]
  omega
theorem row_code (T : List Nat) (i : Ins) : stS T ++ Str.ofString "11" ++ (numT i.no).str ++ Str.ofString "1" ++ (numT i.a).str ++ i.r2.str = stS (T ++ (49 :: i.codeT.sg)) := by
  have e : i.codeT.sg = 49 :: ((numT i.no).sg ++ (49 :: ((numT i.a).sg ++ i.r2.sg))) := by
    show (Tr.node (numT i.no) i.restT).sg = _
    rw [i.restT_eq]
    rfl
  rw [e, s11, s1]
  unfold Tr.str
  rw [stS_app, stS_app, stS_app, stS_app, stS_app]
  congr 1
  simp only [List.append_assoc, List.cons_append, List.nil_append]
theorem r2_len (i : Ins) : i.codeT.sg.length = 3 + (numT i.no).sg.length + (numT i.a).sg.length + i.r2.sg.length - 1 := by
  show (Tr.node (numT i.no) i.restT).sg.length = _
  rw [i.restT_eq, node_len, node_len]
  omega
/-- the place of a word -/
def words6 : List V := [.str "set", .str "move", .str "cons", .str "head", .str "tail", .str "jump"]
theorem idx_word {K : PySem.W.Frag} {H : Hp} {a : Addr} {Q : VK} (i : Ins) (h : H a = some (.lst words6)) (q : Q (.int (i.no : Nat)) H) : rIndex K (.ref a) [.str i.word] H Q := by
  cases i with
  | set x t => exact ⟨a, _, _, 0, _, rfl, rfl, SqL.of h, rfl, (by decide +kernel), rfl, (by decide +kernel : eqV (.str (Str.ofString "set")) (.str (Str.ofString "set")) = true), fun m z hm => by omega, q⟩
  | move x b => exact ⟨a, _, _, 1, _, rfl, rfl, SqL.of h, rfl, (by decide +kernel), rfl, (by decide +kernel : eqV (.str (Str.ofString "move")) (.str (Str.ofString "move")) = true), idx_no 1 (by decide +kernel : ((words6.take 1).all fun z => !eqV z (.str (Str.ofString "move"))) = true), q⟩
  | cons x b c => exact ⟨a, _, _, 2, _, rfl, rfl, SqL.of h, rfl, (by decide +kernel), rfl, (by decide +kernel : eqV (.str (Str.ofString "cons")) (.str (Str.ofString "cons")) = true), idx_no 2 (by decide +kernel : ((words6.take 2).all fun z => !eqV z (.str (Str.ofString "cons"))) = true), q⟩
  | head x b => exact ⟨a, _, _, 3, _, rfl, rfl, SqL.of h, rfl, (by decide +kernel), rfl, (by decide +kernel : eqV (.str (Str.ofString "head")) (.str (Str.ofString "head")) = true), idx_no 3 (by decide +kernel : ((words6.take 3).all fun z => !eqV z (.str (Str.ofString "head"))) = true), q⟩
  | tail x b => exact ⟨a, _, _, 4, _, rfl, rfl, SqL.of h, rfl, (by decide +kernel), rfl, (by decide +kernel : eqV (.str (Str.ofString "tail")) (.str (Str.ofString "tail")) = true), idx_no 4 (by decide +kernel : ((words6.take 4).all fun z => !eqV z (.str (Str.ofString "tail"))) = true), q⟩
  | jump x n => exact ⟨a, _, _, 5, _, rfl, rfl, SqL.of h, rfl, (by decide +kernel), rfl, (by decide +kernel : eqV (.str (Str.ofString "jump")) (.str (Str.ofString "jump")) = true), idx_no 5 (by decide +kernel : ((words6.take 5).all fun z => !eqV z (.str (Str.ofString "jump"))) = true), q⟩
where
  idx_no {y : V} (k : Nat) (h : ((words6.take k).all fun z => !eqV z y) = true) : ∀ (m : Nat) (z : V), m < k → words6[m]? = some z → eqV z y = false := fun m z hm hz => by
    have h1 := List.all_eq_true.mp h z (List.mem_of_getElem? (i := m) (by rw [List.getElem?_take_of_lt hm]; exact hz))
    simpa using h1
/-! ### programs whose rows are exchanged -/
theorem Paired.set {α β : Type} {F : α → β → Prop} {a : α} {b : β} (r : F a b) : ∀ {l : List α} {m : List β} (j : Nat), Paired F l m → Paired F (l.set j a) (m.set j b)
  | _, _, _, .nil => .nil
  | _, _, 0, .cons _ t => .cons r t
  | _, _, j + 1, .cons h t => .cons h (Paired.set r j t)
theorem rows_put {H : Hp} {as : List Addr} {is : List Ins} {p T : Addr} {ys zs : List V} {x : Ins} (j : Nat) (h : Rows H as is) (hp : H p = some (.lst ys)) (hT : H T = none) : Rows (upd (upd H T (.tup x.vs)) p (.lst zs)) (as.set j T) (is.set j x) := by
  have nT : p ≠ T := ne_of_none hp hT
  refine Paired.set ?_ j (Paired.imp (fun a i q => ?_) h)
  · rw [upd_ne nT.symm, upd_same]
  · have na : a ≠ p := fun z => by
      rw [z, hp] at q
      cases q
    rw [upd_ne na, upd_ne (ne_of_none q hT)]
    exact q
theorem PgOk.set {w k j : Nat} {is : List Ins} {x : Ins} (h : PgOk w k is) (hx : x.ok w k j is.length) : PgOk w k (is.set j x) := fun i y hy => by
  rw [List.length_set]
  rw [List.getElem?_set] at hy
  by_cases c : j = i
  · rw [if_pos c] at hy
    by_cases c2 : j < is.length
    · rw [if_pos c2] at hy
      have := Option.some.inj hy
      subst this
      subst c
      exact hx
    · rw [if_neg c2] at hy
      cases hy
  · rw [if_neg c] at hy
    exact h i y hy
theorem treesSum_big (is : List Ins) : treesSum is = (is.map Ins.big).sum := by
  unfold treesSum
  induction is with
  | nil => rfl
  | cons i r ih =>
    rw [List.map_cons, List.sum_cons, ← ih]
    cases i with
    | set a t => rfl
    | move a b => exact (Nat.zero_add _).symm
    | cons a b c => exact (Nat.zero_add _).symm
    | head a b => exact (Nat.zero_add _).symm
    | tail a b => exact (Nat.zero_add _).symm
    | jump a n => exact (Nat.zero_add _).symm
theorem sum_set (v : Nat) : ∀ (l : List Nat) (j : Nat), (l.set j v).sum ≤ l.sum + v
  | [], j => by
    rw [List.set_nil]
    omega
  | x :: l, 0 => by
    rw [List.set_cons_zero, List.sum_cons, List.sum_cons]
    omega
  | x :: l, j + 1 => by
    have := sum_set v l j
    rw [List.set_cons_succ, List.sum_cons, List.sum_cons]
    omega
theorem treesSum_set (is : List Ins) (j : Nat) (x : Ins) : treesSum (is.set j x) ≤ treesSum is + x.big := by
  rw [treesSum_big, treesSum_big, List.map_set]
  exact sum_set _ _ _
theorem treesSum_rep {i : Ins} (h : i.big = 0) (n : Nat) : treesSum (List.replicate n i) = 0 := by
  rw [treesSum_big, List.map_replicate, h]
  induction n with
  | zero => rfl
  | succ n ih =>
    rw [List.replicate_succ, List.sum_cons, ih]
/-- nested in the heads and the tails by turns -/
def spT : Nat → Tr
  | 0 => .leaf
  | n + 1 => .node (.node .leaf (spT n)) .leaf
theorem spT_sg (n : Nat) : (spT n).sg = repL n [49, 49, 48] ++ repL (n + 1) [48] := by
  induction n with
  | zero => rfl
  | succ n ih =>
    show 49 :: ((49 :: ([48] ++ (spT n).sg)) ++ [48]) = _
    have h : repL (n + 1 + 1) [48] = repL (n + 1) [48] ++ [48] := by
      rw [repL_one, repL_one]
      exact List.replicate_succ'
    have h2 : repL (n + 1) [49, 49, 48] = [49, 49, 48] ++ repL n [49, 49, 48] := by
      unfold repL
      rw [List.replicate_succ, List.flatten_cons]
    rw [ih, h, h2]
    simp only [List.cons_append, List.nil_append, List.append_assoc]
theorem spT_len (n : Nat) : (spT n).sg.length = 4 * n + 1 := by
  rw [spT_sg, List.length_append, repL_len, repL_len]
  show n * 3 + (n + 1) * 1 = _
  omega
theorem sp_str (n : Nat) : stS (repL n (Str.ofString "110").cps.toList) ++ stS (repL (n + 1) (Str.ofString "0").cps.toList) = (spT n).str := by
  rw [s0, show (Str.ofString "110").cps.toList = [49, 49, 48] by decide +kernel, stS_app]
  show _ = stS (spT n).sg
  rw [spT_sg]
  rfl
theorem len110 (n : Nat) : (stS (repL n (Str.ofString "110").cps.toList)).length = 3 * n := by
  rw [stS_len, repL_len, show (Str.ofString "110").cps.toList.length = 3 by decide +kernel]
  omega
theorem ixN_nat {n j : Nat} (h : j < n) : ixN n (j : Int) = some j := by
  unfold ixN
  rw [if_pos (by omega), if_pos (by omega)]
  rfl
theorem rows_put2 {H : Hp} {as : List Addr} {is : List Ins} {p T : Addr} {ys zs : List V} {x : Ins} (j : Nat) (h : Rows H as is) (hp : H p = some (.lst ys)) (hT : H T = some (.tup x.vs)) : Rows (upd H p (.lst zs)) (as.set j T) (is.set j x) := by
  have no : ∀ a (vs : List V), H a = some (.tup vs) → a ≠ p := fun a vs q z => by
    rw [z, hp] at q
    cases q
  refine Paired.set ?_ j (Paired.imp (fun a i q => ?_) h)
  · rw [upd_ne (no T _ hT)]
    exact hT
  · rw [upd_ne (no a _ q)]
    exact q
theorem PgOk.up {w k k2 : Nat} {is : List Ins} (h : PgOk w k is) (hk : k ≤ k2) : PgOk w k2 is := fun i x hx => by
  have := h i x hx
  cases x with
  | set a t => exact ⟨this.1, Nat.le_trans this.2 hk⟩
  | _ => exact this
theorem code_bound {i : Ins} (h : i.small) : i.codeT.sg.length ≤ 7000 + i.big := by
  rw [code_len]
  have n5 := no_le i
  have r : ∀ a : Nat, a < 1000 → (numT a).sg.length ≤ 1999 := fun a ha => by
    rw [numT_len]
    omega
  cases i with
  | set a t =>
    have h1 := r a h.1
    show 1 + (2 * 0 + 1) + (Tr.node (numT a) t).sg.length ≤ 7000 + t.sg.length
    rw [node_len]
    omega
  | move a b =>
    have h1 := r a h.1
    have h2 := r b h.2
    show 1 + (2 * 1 + 1) + (Tr.node (numT a) (numT b)).sg.length ≤ 7000 + 0
    rw [node_len]
    omega
  | cons a b c =>
    have h1 := r a h.1
    have h2 := r b h.2.1
    have h3 := r c h.2.2
    show 1 + (2 * 2 + 1) + (Tr.node (numT a) (.node (numT b) (numT c))).sg.length ≤ 7000 + 0
    rw [node_len, node_len]
    omega
  | head a b =>
    have h1 := r a h.1
    have h2 := r b h.2
    show 1 + (2 * 3 + 1) + (Tr.node (numT a) (numT b)).sg.length ≤ 7000 + 0
    rw [node_len]
    omega
  | tail a b =>
    have h1 := r a h.1
    have h2 := r b h.2
    show 1 + (2 * 4 + 1) + (Tr.node (numT a) (numT b)).sg.length ≤ 7000 + 0
    rw [node_len]
    omega
  | jump a n =>
    have h1 := r a h.1
    have h2 := wayT_len n
    have h3 : n.natAbs < 1000 := h.2
    show 1 + (2 * 5 + 1) + (Tr.node (numT a) (wayT n)).sg.length ≤ 7000 + 0
    rw [node_len]
    omega
theorem codeT_bound {is : List Ins} (h : ∀ i ∈ is, i.small) : (codeT is).sg.length ≤ is.length * 7001 + treesSum is + 1 := by
  unfold codeT
  rw [lstT_len, List.length_map, treesSum_big, List.map_map]
  induction is with
  | nil => exact Nat.le_refl _
  | cons i r ih =>
    have h1 := code_bound (h i (List.mem_cons_self ..))
    have h2 := ih fun x hx => h x (List.mem_cons_of_mem _ hx)
    rw [List.map_cons, List.map_cons, List.sum_cons, List.sum_cons, List.length_cons, Nat.succ_mul]
    show r.length + 1 + (i.codeT.sg.length + _) + 1 ≤ _
    omega
theorem PgAt.vd {H : Hp} {p : Addr} {is : List Ins} (h : PgAt H p is) (hl : is.length ≤ 1000000) (hb : ∀ i ∈ is, i.big ≤ sizeLine) : Vd H (.ref p) (progD is) := by
  obtain ⟨as, h1, h2⟩ := h
  exact .lst h1 (by rw [List.length_map, Paired.len h2]; exact hl) (rows_vd h2 hb)
theorem cutV_end (xs : List V) (v : V) : cutV (xs ++ [v]) (some (-1)) none = [v] := by
  show ((xs ++ [v]).drop (HT.sIx (xs ++ [v]).length 0 (some (-1)))).take ((xs ++ [v]).length - HT.sIx (xs ++ [v]).length 0 (some (-1))) = [v]
  have e : HT.sIx (xs ++ [v]).length 0 (some (-1)) = xs.length := by
    show (if (-1 : Int) < 0 then ((-1 : Int) + ((xs ++ [v]).length : Nat)).toNat else min (-1 : Int).toNat (xs ++ [v]).length) = _
    rw [if_pos (by decide), List.length_append, List.length_singleton]
    omega
  rw [e, List.drop_left' rfl, List.length_append, Nat.add_sub_cancel_left]
  rfl
end Nx

/-! Steps of programs. -/
namespace Nx
open PySem PySem.Spec PyProof.Rows L2
def reg (rs : List Tr) (b : Nat) : Tr := rs.getD b .leaf
def Ins.isJ : Ins → Bool
  | .jump _ _ => true
  | _ => false
/-- the tree that an instruction other than a jump makes -/
def newT (i : Ins) (rs : List Tr) : Tr := match i with
  | .set _ t => t
  | .move _ b => reg rs b
  | .cons _ b c => .node (reg rs b) (reg rs c)
  | .head _ b => (reg rs b).hd
  | .tail _ b => (reg rs b).tl
  | .jump _ _ => .leaf
def stepAt (i : Ins) (k : Int) (rs : List Tr) : Int := match i with
  | .jump a n => if reg rs a = .leaf then k + 1 else k + n
  | _ => k + 1
def stepRs (i : Ins) (rs : List Tr) : List Tr := match i with
  | .jump _ _ => rs
  | _ => rs.set i.a (newT i rs)
theorem stepRs_no {i : Ins} (h : i.isJ = false) (rs : List Tr) : stepRs i rs = rs.set i.a (newT i rs) := by
  cases i with
  | jump a n => cases h
  | _ => rfl
theorem stepAt_no {i : Ins} (h : i.isJ = false) (k : Int) (rs : List Tr) : stepAt i k rs = k + 1 := by
  cases i with
  | jump a n => cases h
  | _ => rfl
theorem stepRs_len (i : Ins) (rs : List Tr) : (stepRs i rs).length = rs.length := by
  cases i with
  | jump a n => rfl
  | _ => exact List.length_set ..
theorem reg_get {rs : List Tr} {b : Nat} (h : b < rs.length) : rs[b]? = some (reg rs b) := by
  unfold reg
  rw [List.getD_eq_getElem?_getD, List.getElem?_eq_getElem h]
  rfl
theorem reg_at {rs : List Tr} {b : Nat} (h : b < rs.length) : atI (trV rs) (b : Int) = some (.str (reg rs b).str) := atI_nat (by
  unfold trV
  rw [List.getElem?_map, reg_get h]
  rfl)
theorem reg_mem {rs : List Tr} {b : Nat} (h : b < rs.length) : reg rs b ∈ rs := List.mem_of_getElem? (reg_get h)
theorem hd_len (t : Tr) : t.hd.sg.length ≤ t.sg.length := by
  cases t with
  | leaf => exact Nat.le_refl _
  | node a b =>
    rw [node_len]
    show a.sg.length ≤ _
    omega
theorem tl_len (t : Tr) : t.tl.sg.length ≤ t.sg.length := by
  cases t with
  | leaf => exact Nat.le_refl _
  | node a b =>
    rw [node_len]
    show b.sg.length ≤ _
    omega
/-- all registers below n -/
def Ins.below (i : Ins) (n : Nat) : Prop := ∀ r ∈ i.regs, r < n
theorem Ins.ok_below {w k j n : Nat} {i : Ins} (h : i.ok w k j n) : i.below w := by
  intro r hr
  cases i with
  | set a t => rw [List.mem_singleton.mp hr]; exact h.1
  | jump a m => rw [List.mem_singleton.mp hr]; exact h.1
  | move a b =>
    rcases List.mem_cons.mp hr with rfl | hr
    · exact h.1
    · rw [List.mem_singleton.mp hr]; exact h.2
  | head a b =>
    rcases List.mem_cons.mp hr with rfl | hr
    · exact h.1
    · rw [List.mem_singleton.mp hr]; exact h.2
  | tail a b =>
    rcases List.mem_cons.mp hr with rfl | hr
    · exact h.1
    · rw [List.mem_singleton.mp hr]; exact h.2
  | cons a b c =>
    rcases List.mem_cons.mp hr with rfl | hr
    · exact h.1
    · rcases List.mem_cons.mp hr with rfl | hr
      · exact h.2.1
      · rw [List.mem_singleton.mp hr]; exact h.2.2
theorem Ins.below_a {i : Ins} {n : Nat} (h : i.below n) : i.a < n := by
  cases i <;> exact h _ (List.mem_cons_self ..)
theorem newT_len {i : Ins} {rs : List Tr} {n : Nat} (hi : i.below rs.length) (hs : i.big ≤ n) (hr : ∀ t ∈ rs, t.sg.length ≤ n) (h1 : 1 ≤ n) : (newT i rs).sg.length ≤ 2 * n + 1 := by
  cases i with
  | set a t =>
    have : t.sg.length ≤ n := hs
    show t.sg.length ≤ _
    omega
  | move a b =>
    have := hr _ (reg_mem (hi b (by simp [Ins.regs])))
    show (reg rs b).sg.length ≤ _
    omega
  | cons a b c =>
    have h2 := hr _ (reg_mem (hi b (by simp [Ins.regs])))
    have h3 := hr _ (reg_mem (hi c (by simp [Ins.regs])))
    show (Tr.node (reg rs b) (reg rs c)).sg.length ≤ _
    rw [node_len]
    omega
  | head a b =>
    have h2 := hr _ (reg_mem (hi b (by simp [Ins.regs])))
    have h3 := hd_len (reg rs b)
    show (reg rs b).hd.sg.length ≤ _
    omega
  | tail a b =>
    have h2 := hr _ (reg_mem (hi b (by simp [Ins.regs])))
    have h3 := tl_len (reg rs b)
    show (reg rs b).tl.sg.length ≤ _
    omega
  | jump a m =>
    show 1 ≤ _
    omega
theorem stepRs_le {i : Ins} {rs : List Tr} {m : Nat} (hr : ∀ t ∈ rs, t.sg.length ≤ m) (hn : i.isJ = false → (newT i rs).sg.length ≤ m) : ∀ t ∈ stepRs i rs, t.sg.length ≤ m := by
  cases h : i.isJ with
  | true =>
    cases i with
    | jump a n => exact hr
    | _ => cases h
  | false =>
    rw [stepRs_no h]
    intro t ht
    rcases List.mem_or_eq_of_mem_set ht with h2 | h2
    · exact hr t h2
    · rw [h2]
      exact hn h
theorem trV_set (rs : List Tr) (j : Nat) (t : Tr) : (trV rs).set j (.str t.str) = trV (rs.set j t) := by
  unfold trV
  rw [List.map_set]
/-! ### states as data -/
def rsD (rs : List Tr) : PyData := .tuple (rs.map fun t => .str t.str)
def stD (k : Int) (rs : List Tr) : PyData := .tuple [.int k, rsD rs]
theorem rsD_dp {K : PySem.W.Frag} {H : Hp} {r : Addr} {rs : List Tr} (h : H r = some (.tup (trV rs))) : Dp K H (.ref r) (rsD rs) := .tup (SqT.of h) (trD_all rs)
theorem stD_dp {K : PySem.W.Frag} {H : Hp} {q r : Addr} {k : Int} {rs : List Tr} (h : H q = some (.tup [.int k, .ref r])) (g : H r = some (.tup (trV rs))) : Dp K H (.ref q) (stD k rs) := .tup (SqT.of h) (.cons (.int _) (.cons (rsD_dp g) .nil))
theorem rsD_lay (rs : List Tr) : (rsD rs).canLay0 = true := trD_lay rs
theorem rsD_deep (rs : List Tr) : (rsD rs).depth = 1 := by
  show PyData.depthAll (rs.map fun t => PyData.str t.str) + 1 = 1
  rw [trD_deep]
theorem rsD_shaped (rs : List Tr) : SeqAt.shaped (rsD rs) = true := by
  show ((rsD rs).canLay0 && decide ((rsD rs).depth ≤ 64)) = true
  rw [rsD_lay, rsD_deep]
  rfl
theorem stD_shaped (k : Int) (rs : List Tr) : SeqAt.shaped (stD k rs) = true := by
  show ((true && ((rsD rs).canLay0 && true)) && decide (max 0 (max (rsD rs).depth 0) + 1 ≤ 64)) = true
  rw [rsD_lay, rsD_deep]
  rfl
/-! ### what changes at one address alone -/
def But (g : Addr) (H H' : Hp) : Prop := ∀ b o, b ≠ g → H b = some o → H' b = some o
theorem _root_.L2.Same.but {g : Addr} {H H' : Hp} (s : Same H H') : But g H H' := fun b o _ h => s b o h
theorem But.trans {g : Addr} {H H1 H2 : Hp} (a : But g H H1) (b : But g H1 H2) : But g H H2 := fun c o n h => b c o n (a c o n h)
theorem rows_but {g : Addr} {H H' : Hp} {as : List Addr} {is : List Ins} {ys : List V} (h : Rows H as is) (e : But g H H') (hg : H g = some (.lst ys)) : Rows H' as is := Paired.imp (fun a i q => e a _ (fun z => by
  rw [z, hg] at q
  cases q) q) h
theorem PgAt.but {g p : Addr} {H H' : Hp} {is : List Ins} {ys : List V} (h : PgAt H p is) (n : p ≠ g) (e : But g H H') (hg : H g = some (.lst ys)) : PgAt H' p is := by
  obtain ⟨as, h1, h2⟩ := h
  exact ⟨as, e _ _ n h1, rows_but h2 e hg⟩
theorem Strm.but {g st : Addr} {H H' : Hp} {rs : List Tr} (s : Strm H st) (n : st ≠ g) (e : But g H H') (hg : H g = some (.lst (trV rs))) (hr : rs ≠ []) : Strm H' st := by
  obtain ⟨l, ns, c, i, m, h1, h2, h3⟩ := s
  refine ⟨l, ns, c, i, m, e _ _ n h1, e _ _ (fun z => ?_) h2, h3⟩
  rw [z, hg] at h2
  have h4 := HO.lst.inj (Option.some.inj h2)
  cases rs with
  | nil => exact hr rfl
  | cons t r =>
    cases ns with
    | nil => cases h4
    | cons x y => cases (List.cons.inj h4).1
theorem stepAt_ok {w k : Nat} {is : List Ins} {i : Ins} {rs : List Tr} (h : PgOk w k is) {j : Nat} (hi : is[j]? = some i) : ∃ j2 : Nat, stepAt i j rs = (j2 : Int) ∧ j2 ≤ is.length := by
  have hl := (List.getElem?_eq_some_iff.mp hi).1
  have h1 := h j i hi
  cases hj : i.isJ with
  | false => exact ⟨j + 1, by rw [stepAt_no hj]; rfl, by omega⟩
  | true =>
    cases i with
    | jump a n =>
      obtain ⟨_, h2, h3⟩ := h1
      by_cases c : reg rs a = .leaf
      · exact ⟨j + 1, if_pos c, by omega⟩
      · refine ⟨((j : Int) + n).toNat, ?_, by omega⟩
        have : stepAt (.jump a n) j rs = (j : Int) + n := if_neg c
        rw [this]
        omega
    | _ => cases hj
theorem strs_trV {ys : List V} {n : Nat} (h : ∀ y ∈ ys, ∃ t : Tr, y = .str t.str ∧ t.sg.length ≤ n) : ∃ rs : List Tr, ys = trV rs ∧ ∀ t ∈ rs, t.sg.length ≤ n := trV_of h
theorem leafs (n : Nat) : (List.replicate n [V.str "0"]).flatten = trV (List.replicate n .leaf) := by
  rw [sleaf]
  unfold trV
  induction n with
  | zero => rfl
  | succ n ih =>
    rw [List.replicate_succ, List.flatten_cons, ih, List.replicate_succ]
    rfl
end Nx

/-! A method within a try; a text read from its end. -/
namespace Nx
open PySem PySem.Spec PyProof.Rows L2
/-- o.m(e, ..) where what is raised is told by the slots -/
def tMS (C : Addr) (m : Str) (sp : Sp) (EE : L2.St → XK) (to_ : TE) (tas : TA) : TE := fun σ H Q => to_ σ H fun o H1 =>
  ∃ a dx fs, o = .ref a ∧ H1 a = some (.ins C dx fs) ∧ fs.lookup m = none ∧ tas σ H1 fun ws H2 => sp (o :: ws) H2 Q (EE σ)
section
variable {X : Cx}
theorem pe_mS {CX : CXT} {lv : Nat} {g C : Addr} {fun_ : FuncData} {names : List Str} {sp : Sp} {EE : L2.St → XK} {m : Str} {p1 p2 : Pos} {a1 ob : Expr} {more : List Expr} {to_ : TE} {tas : TA} {pl : Sem Bool}
    (ho : PE X ob to_) (hC : Cls X.K C) (hM : Meth X.K C m g) (hF : FnOk X.prog X.w X.K X.mg X.base CX lv g fun_ names sp) (hR : Room lv X.A) (hB : Binds X.K fun_ names [])
    (hE : ∀ σ, PassesAt CX X σ (EE σ)) (hA : PA X (a1 :: more) tas)
    (hn : starEach (a1 :: more) X.env = (false, eval a1 X.env) :: starEach more X.env := by rfl) (hk : (backTo p1 (starEach more X.env)).any (·.1) = false := by rfl)
    (hv : eval (.Call (.Attribute ob m p2) (a1 :: more) [] p1) X.env = (do
      let self ← eval ob X.env
      standAt p2.atName
      let (g, front) ← holding [self] (getMethod self m pl)
      callWith p1 g front (backTo p1 (starEach (a1 :: more) X.env)) (backToKw p1 (keywordEach [] X.env))) := by rfl) :
    PE X (.Call (.Attribute ob m p2) (a1 :: more) [] p1) (tMS C m sp EE to_ tas) := by
  constructor
  intro pins s σ H Q I h
  apply PySem.W.methodCall_KW (pl := pl) _ hv
  refine thn (ho.run pins s σ H _ I h) ?_
  rintro u s1 ⟨x, H1, I1, rx, a, dx, fs, rfl, ea, none_, q⟩
  cases rx
  refine getmeth_ok I1 ea hC hM none_ (PySem.W.callWith_K (first := [.ref a]) (h₀ := X.base) I.ok.mod.kin hM.kp ?_ hn hk)
  refine thn (hA.run p1 pins s1 σ H1 _ I1 q) ?_
  rintro us s2 ⟨ws, H2, I2, r, q2⟩
  exact ⟨I2.kIn, run_fnS (us := .ref a :: us) (vs := .ref a :: ws) hF hR hB (hE σ) I2 (.cons rfl r) q2⟩
end
/-! ### reversed(text) -/
theorem str_norev : typeLookup (.type "str") "__reversed__" = pure none := by
  rw [typeLookup_type, builtinLookup_eq_fast]
  kernel_rfl
def revOb (x : Str) (t : Tok) (i : Int) : Obj := { cls := .type "reversed", data := .fields #[.str x t, rawInt i] }
def AtRev (h : Heap) (q : Addr) (x : Str) (i : Int) : Prop := ∃ o t, h.get? q = some o ∧ o.cls = .type "reversed" ∧ o.data = .fields #[.str x t, rawInt i]
theorem AtRev.on {h h' : Heap} {q : Addr} {x : Str} {i : Int} (z : AtRev h q x i) (k : ∀ o, h.get? q = some o → h'.get? q = some o) : AtRev h' q x i := by
  obtain ⟨o, t, ho, c, d⟩ := z
  exact ⟨o, t, k _ ho, c, d⟩
section
variable {prog : Program} {w : World} {A : Around} {E : Value → Shared → Prop} {s : Shared}
theorem rev_code {x : Str} {t : Tok} {R : Value → Shared → Prop} (hx : x.length ≤ sizeLine)
    (h : R (.ref s.heap.objs.size) { s with heap := s.heap.push (revOb x t ((x.length : Int) - 1)), toks := s.toks + 1 + 1 }) :
    codeAny (model prog w) A (.call (.builtin "reversed.__new__") ⟨[.type "reversed", .str x t], []⟩) (wants R E) s := by
  have hT : s.TypeIs (.str x t) "str" := typeIs_str s x t
  apply codeAny_of_tree
  show wpAny _ A.in1 (checkBuiltinCall "reversed.__new__" ⟨[.type "reversed", .str x t], []⟩ >>= fun _ => again (.builtin "reversed.__new__" ⟨[.type "reversed", .str x t], []⟩)) _ _ s
  apply wpAny_bind
  refine wpAny_of_eq (F.newCall_reversed_1 _) (wpAny_pure ⟨plainId_quiet F.plain_reversed_new _, codeAny_builtin F.entry_reversed_new ?_⟩)
  rw [Around.under_plainId F.plain_reversed_new _]
  unfold Builtin.«reversed.__new__»
  apply wpAny_bind
  refine wpAny_of_eq (newClass_reversed _) ?_
  try dsimp only
  apply wpAny_bind
  refine wpAny_of_eq (a := ()) (by first | rfl | kernel_rfl) ?_
  try dsimp only
  apply wpAny_bind
  refine wpAny_of_eq (a := ()) (by first | rfl | kernel_rfl) ?_
  try dsimp only
  apply wpAny_bind
  refine wpAny_specialOf hT str_norev ?_
  try dsimp only
  apply wpAny_bind
  wp_delta
  apply wpAny_bind
  refine wpAny_isInstance (T := "str") (U := "dict") (b := false) hT PySem.F.sub_str_dict ?_
  try dsimp only
  rw [if_neg Bool.false_ne_true]
  apply wpAny_bind
  refine wpAny_specialOf hT PySem.F.slot_str_getitem.lookup ?_
  try dsimp only
  first | rw [if_pos (by decide +kernel)] | skip
  apply wpAny_pure
  try dsimp only
  rw [if_neg (by decide)]
  apply wpAny_bind
  have hn := line63
  refine len_str (x := x) (t := t) (by omega) ?_
  apply wpAny_bind
  refine wpAny_of_eq (a := some ((x.length : Nat) : Int)) rfl ?_
  try dsimp only
  apply wpAny_bind
  show wpAny _ _ (newObj (.type "reversed") (.fields #[.str x t, rawInt ((x.length : Int) - 1)])) _ _ _
  exact wpAny_newObj_type (wpAny_pure h)
theorem rev_call {x : Str} {t : Tok} {Q : Value → Shared → Prop} (hx : x.length ≤ sizeLine)
    (h : Q (.ref s.heap.objs.size) { s with heap := s.heap.push (revOb x t ((x.length : Int) - 1)), toks := s.toks + 1 + 1 }) :
    wpAny (model prog w) A (call (.type "reversed") [.str x t]) Q E s := by
  refine callType_codes (Q₁ := fun ob s₁ => s₁.TypeIs ob "reversed" ∧ Q ob s₁) RT.called_rt (F.typeCall_reversed_1 _) F.entry_object_init
    (rev_code hx ⟨⟨_, Heap.get?_push_size _ rfl, rfl⟩, h⟩) ?_
  intro ob s₁ h₁
  exact ⟨h₁.1, F.args_object_init_2 ob _, object_init_meets RT.called_rt.init.lookup RT.called_rt.made (by decide) prog w A.in1 _ s₁ ⟨h₁.1, rfl, h₁.2⟩⟩
theorem rev_next {q : Addr} {x : Str} {i c : Nat} {Q : Option Value → Shared → Prop} (z : AtRev s.heap q x (i : Int)) (hc : x.cps[i]? = some c) (hx : x.length ≤ sizeLine)
    (k : ∀ h' t tk, AtRev h' q x ((i : Int) - 1) → Heap.SameBut q s.heap h' → Q (some (.str ⟨#[c]⟩ t)) { s with heap := h', toks := tk }) : wpAny (model prog w) A (pyNext (.ref q)) Q E s := by
  obtain ⟨o, t, ho, oc, od⟩ := id z
  have hi : i < x.length := (Array.getElem?_eq_some_iff.mp hc).1
  have hq : s.TypeIs (.ref q) "reversed" := ⟨o, ho, oc⟩
  have hn := line63
  have hT : s.TypeIs (.str x t) "str" := typeIs_str s x t
  unfold pyNext
  apply wpAny_bind
  refine wpAny_attempt (wpAny_callSpecial?_slot (name := Str.ofString "__next__") hq RT.slot_rt_next (wpAny_call_entry RT.slot_rt_next hq RT.entry_rt_next ?_ (RT.args_rt_next _)))
  unfold Builtin.«reversed.__next__»
  apply wpAny_bind
  refine wpAny_of_eq (a := (Value.ref q, [])) rfl ?_
  try dsimp only
  apply wpAny_bind
  refine wpAny_field ho od (x := .str x t) rfl ?_
  apply wpAny_bind
  refine wpAny_field ho od (x := rawInt (i : Int)) rfl ?_
  show wpAny _ _ (if (i : Int) < 0 then _ else _) _ _ s
  rw [if_neg (by omega)]
  apply wpAny_bind
  refine wpAny_specialOf hT PySem.F.slot_str_getitem.lookup ?_
  try dsimp only
  rw [if_neg (by decide)]
  apply wpAny_bind
  refine wpAny_mkInt ?_
  apply wpAny_bind
  apply wpAny_attempt
  have at_ : (seqIndex? (i : Int) x.length).bind (x.cps[·]?) = some c := by
    rw [seqIndex_of (k := i) (by omega) (by omega)]
    exact hc
  refine getItem_str (s := { s with toks := s.toks + 1 }) (by simp only [Bool.or_eq_false_iff, decide_eq_false_iff_not]; omega) at_ ?_
  try dsimp only
  apply wpAny_bind
  refine wpAny_field (s := { s with toks := s.toks + 1 + 1 }) ho od (x := rawInt (i : Int)) rfl ?_
  try dsimp only
  apply wpAny_bind
  refine wpAny_setField (s := { s with toks := s.toks + 1 + 1 }) ho od (by simp) ?_
  have fin : AtRev (s.heap.update q (Obj.mapFields (·.setIfInBounds 1 (rawInt ((i : Int) - 1))))) q x ((i : Int) - 1) :=
    ⟨_, t, Heap.get?_update_self _ ho (Obj.isFreed_of_fields (Obj.data_mapFields od _)), (Obj.cls_mapFields ..).trans oc, by rw [Obj.data_mapFields od]; simp⟩
  first
  | exact wpAny_pure ⟨_, rfl, wpAny_pure (k _ _ _ fin (Heap.SameBut.update ..))⟩
  | exact wpAny_bind (wpAny_pure (wpAny_pure ⟨_, rfl, wpAny_pure (k _ _ _ fin (Heap.SameBut.update ..))⟩))
theorem rev_done {q : Addr} {x : Str} {Q : Option Value → Shared → Prop} (hh : A.handled = none) (z : AtRev s.heap q x (-1))
    (k : ∀ h', Heap.ExtBut q s.heap h' → Q none { s with heap := h' }) : wpAny (model prog w) A (pyNext (.ref q)) Q E s := by
  obtain ⟨o, t, ho, oc, od⟩ := id z
  have hq : s.TypeIs (.ref q) "reversed" := ⟨o, ho, oc⟩
  unfold pyNext
  apply wpAny_bind
  refine wpAny_attempt (wpAny_callSpecial?_slot (name := Str.ofString "__next__") hq RT.slot_rt_next (wpAny_call_entry RT.slot_rt_next hq RT.entry_rt_next ?_ (RT.args_rt_next _)))
  unfold Builtin.«reversed.__next__»
  apply wpAny_bind
  refine wpAny_of_eq (a := (Value.ref q, [])) rfl ?_
  try dsimp only
  apply wpAny_bind
  refine wpAny_field ho od (x := .str x t) rfl ?_
  apply wpAny_bind
  refine wpAny_field ho od (x := rawInt (-1)) rfl ?_
  show wpAny _ _ (if (-1 : Int) < 0 then _ else _) _ _ s
  rw [if_pos (by decide)]
  apply wpAny_bind
  apply wpAny_rule
  apply wpAny_bind
  wp_delta
  apply wpAny_bind
  refine wpAny_setField ho od (by simp) ?_
  have ho2 := Heap.get?_update_self (Obj.mapFields (·.setIfInBounds 1 (rawInt (-1)))) ho (Obj.isFreed_of_fields (Obj.data_mapFields od _))
  refine wpAny_setField (s := { s with heap := s.heap.update q (Obj.mapFields (·.setIfInBounds 1 (rawInt (-1)))) }) ho2 (Obj.data_mapFields od _) (by simp) ?_
  try dsimp only
  first
  | show wpAny _ _ (newExc (.type "StopIteration") [] >>= _) _ _ _
  | (apply wpAny_bind; show wpAny _ _ (newExc (.type "StopIteration") [] >>= _) _ _ _)
  | (apply wpAny_bind; wp_delta; show wpAny _ _ (newExc (.type "StopIteration") [] >>= _) _ _ _)
  apply wpAny_bind
  simp only [newExc, newTuple]
  apply wpAny_bind
  refine wpAny_newObj_type ?_ (by size_fits)
  apply wpAny_bind (m := firstArgMember _ _)
  refine wpAny_of_eq (a := Value.none) (by first | rfl | (simp only [firstArgMember]; rfl)) ?_
  refine wpAny_newObj_type ?_ (by size_fits)
  simp only [raiseNew]
  apply wpAny_bind
  apply wpAny_handled
  first | rw [show A.in1.handled = none from hh] | rw [hh]
  refine wpAny_bind (wpAny_pure (wpAny_throw ?_))
  apply wpAny_bind
  refine wpAny_isInstance (T := "StopIteration") (b := true) ⟨_, Heap.get?_push_size _ rfl, rfl⟩ isSubtype_stop ?_
  apply wpAny_pure
  apply k
  have e0 : Heap.ExtBut q s.heap ((s.heap.update q (Obj.mapFields (·.setIfInBounds 1 (rawInt (-1))))).update q (Obj.mapFields (·.setIfInBounds 0 .none))) :=
    fun b ob hb e => (Heap.get?_update_other _ _ (Ne.symm hb)).trans ((Heap.get?_update_other _ _ (Ne.symm hb)).trans e)
  exact (e0.push _).push _
theorem rev_iter {q : Addr} {x : Str} {i : Int} {Q : Value → Shared → Prop} (z : AtRev s.heap q x i) (h : Q (.ref q) s) : wpAny (model prog w) A (pyIter (.ref q)) Q E s := by
  obtain ⟨o, t, ho, oc, od⟩ := id z
  have hq : s.TypeIs (.ref q) "reversed" := ⟨o, ho, oc⟩
  refine wpAny_pyIter_slot hq RT.slot_rt_iter (wpAny_call_entry RT.slot_rt_iter hq RT.entry_rt_iter ?_ (RT.args_rt_iter _))
  show wpAny _ _ (ret (.ref q)) _ _ s
  exact wpAny_pure ⟨_, rfl, "reversed", _, hq, RT.slot_rt_next.lookup, h⟩
end
/-- the signs of x from the last one on -/
def ItR (x : Str) : It := ⟨fun i _ => i < x.cps.size, fun i H v H' => H' = H ∧ ∃ c, x.cps[x.cps.size - 1 - i]? = some c ∧ v = .str ⟨#[c]⟩, fun i _ => x.cps.size ≤ i⟩
theorem turn_revS {P : Program} {w : World} {K : PySem.W.Frag} {tg : Expr} (q : Addr) (x : Str) (hx : x.cps.size ≤ sizeLine) :
    Turn P w K tg (ItR x) [q] q (fun i h => i ≤ x.cps.size ∧ AtRev h q x ((x.cps.size : Int) - 1 - (i : Nat))) where
  mem := List.mem_singleton.mpr rfl
  obj := by
    rintro i h ⟨_, o, t, e, c, d⟩ b hb
    cases List.mem_singleton.mp hb
    exact ⟨o, e, fun v z => by rw [d] at z; cases z⟩
  keep := fun i h h' st k => ⟨st.1, st.2.on fun o e => k q (List.mem_singleton.mpr rfl) o e⟩
  item := by
    intro X hP hw hK hc i pins s σ H E I hf st hg
    subst hP hw hK
    obtain ⟨f0, f1, f2, f3, f4, f5⟩ := hf q (List.mem_singleton.mpr rfl)
    obtain ⟨le, z⟩ := st
    have lt : i < x.cps.size := hg
    have e1 : (x.cps.size : Int) - 1 - ((i : Nat) : Int) = ((x.cps.size - 1 - i : Nat) : Int) := by omega
    have hcp : x.cps[x.cps.size - 1 - i]? = some x.cps[x.cps.size - 1 - i] := Array.getElem?_eq_getElem (by omega)
    rw [e1] at z
    refine rev_next z hcp hx fun h' t tk z' sb => ?_
    have e2 : ((x.cps.size - 1 - i : Nat) : Int) - 1 = (x.cps.size : Int) - 1 - ((i + 1 : Nat) : Int) := by omega
    rw [e2] at z'
    have I1 : Inv X pins σ H { s with heap := h', toks := tk } := I.turned (t' := tk) (fun b o hb e => (sb.2 b hb).trans e) f0 f1 f3 f4 f5
    obtain ⟨o, t', e, c, d⟩ := id z'
    exact ⟨_, rfl, go_of (s := { s with heap := h', toks := tk }) e c d (by decide) ⟨.str ⟨#[x.cps[x.cps.size - 1 - i]]⟩, H, I1, ⟨t, rfl⟩, ⟨rfl, _, hcp, rfl⟩, ⟨lt, z'⟩, fun b hb => (hf b hb).1⟩⟩
  done := by
    intro X hP hw hK hc i pins s σ H E I hf st hg
    subst hP hw hK
    obtain ⟨f0, f1, f2, f3, f4, f5⟩ := hf q (List.mem_singleton.mpr rfl)
    obtain ⟨le, z⟩ := st
    have ge : x.cps.size ≤ i := hg
    have e1 : (x.cps.size : Int) - 1 - ((i : Nat) : Int) = -1 := by omega
    rw [e1] at z
    exact rev_done (I.ok.hd hc) z fun h' eb => ⟨rfl, I.turned (t' := s.toks) (fun b o hb e => eb b o hb e) f0 f1 f3 f4 f5⟩
  self := fun A i s Q E st h => rev_iter st.2 h
def iRevS (te : TE) : TI := fun σ H R => te σ H fun v H1 => ∃ x, v = .str x ∧ x.cps.size ≤ sizeLine ∧ R (ItR x) H1
theorem pi_revS {X : Cx} {tg e : Expr} {te : TE} {p pos : Pos} (hg : Gl X "reversed") (hm : X.mg "reversed" = none) (he : PE X e te) (hs : starEach [e] X.env = (false, eval e X.env) :: starEach [] X.env := by rfl) :
    PI X tg (.Call (.Name "reversed" p) [e] [] pos) (iRevS te) := by
  constructor
  intro pins s σ H R I h
  refine Call_ (ld_blt I hg hm PyProof.Rows.boot_reversed (PyProof.Rows.callWith_type1 (args_cons (thn (he.run pins s σ H _ I h) ?_) hs) hs rfl))
  rintro u s1 ⟨v, H1, I1, r1, x, rfl, hx, q⟩
  obtain ⟨t, rfl⟩ := r1
  refine args_nil (rev_call hx (rev_iter (x := x) (i := (x.cps.size : Int) - 1) ⟨_, t, Heap.get?_push_size _ rfl, rfl, rfl⟩ ?_))
  refine pi_one (tk := s1.toks + 1 + 1) I1 _ (turn_revS _ x hx) ⟨Nat.zero_le _, ?_⟩ q
  have e1 : (x.cps.size : Int) - 1 - ((0 : Nat) : Int) = (x.cps.size : Int) - 1 := by omega
  rw [e1]
  exact ⟨_, t, Heap.get?_push_size _ rfl, rfl, rfl⟩
/-- a loop over a text's signs from the end: what is left, what is done -/
theorem for_revS {x : Str} {g : TG} {tb : TS} {D : Ends} {σ : L2.St} {H : Hp} (Pv : List Nat → List Nat → L2.St → Hp → Prop) (h0 : Pv x.cps.toList [] σ H)
    (hs : ∀ a c r σ H, a ++ c :: r = x.cps.toList → Pv (a ++ [c]) r σ H → g (.str (stS [c])) σ H fun σ2 H2 => tb { D with nx := Pv a (c :: r), ct := Pv a (c :: r), bk := D.nx } σ2 H2)
    (hd : ∀ σ H, Pv [] x.cps.toList σ H → D.nx σ H) :
    ∃ W : Nat → Nat → L2.St → Hp → Prop, (∃ m, W 0 m σ H) ∧ ∀ i m σ H, W i m σ H →
      ((ItR x).stop i H ∧ D.nx σ H) ∨ ((ItR x).go i H ∧ ∃ N : L2.St → Hp → Prop, (∀ σ' H', N σ' H' → ∃ m', m' < m ∧ W (i + 1) m' σ' H') ∧ ∀ v H', (ItR x).yld i H v H' → g v σ H' fun σ2 H2 => tb { D with nx := N, ct := N, bk := D.nx } σ2 H2) := by
  have hz : x.cps.toList.length = x.cps.size := Array.length_toList
  let n := x.cps.size
  refine ⟨fun i m σ H => m = n - i ∧ i ≤ n ∧ Pv (x.cps.toList.take (n - i)) (x.cps.toList.drop (n - i)) σ H, ⟨_, rfl, Nat.zero_le _, ?_⟩, ?_⟩
  · have e1 : x.cps.toList.take (n - 0) = x.cps.toList := List.take_of_length_le (by omega)
    have e2 : x.cps.toList.drop (n - 0) = [] := List.drop_eq_nil_of_le (by omega)
    rw [e1, e2]
    exact h0
  · rintro i m σ H ⟨rfl, hi, p⟩
    by_cases lt : i < n
    · have e0 : n - i = (n - 1 - i) + 1 := by omega
      have hl : n - 1 - i < x.cps.toList.length := by omega
      have e1 := List.drop_eq_getElem_cons hl
      have e2 : x.cps.toList.take (n - 1 - i + 1) = x.cps.toList.take (n - 1 - i) ++ [x.cps.toList[n - 1 - i]] := by
        rw [List.take_add_one, List.getElem?_eq_getElem hl]
        rfl
      have e3 : n - 1 - i = n - (i + 1) := by omega
      refine .inr ⟨lt, Pv (x.cps.toList.take (n - (i + 1))) (x.cps.toList.drop (n - (i + 1))), fun σ' H' p' => ⟨n - (i + 1), by omega, rfl, lt, p'⟩, ?_⟩
      rintro v H' ⟨rfl, c, hc, rfl⟩
      have ec : c = x.cps.toList[n - 1 - i] := by
        have : x.cps[n - 1 - i]? = some x.cps.toList[n - 1 - i] := by
          rw [← Array.getElem?_toList]
          exact List.getElem?_eq_getElem hl
        exact Option.some.inj (hc.symm.trans this)
      have hy : x.cps.toList[n - 1 - i]? = some c := by rw [ec]; exact List.getElem?_eq_getElem hl
      rw [← ec] at e1 e2
      clear ec hc
      rw [e0, e2] at p
      have := hs (x.cps.toList.take (n - 1 - i)) c (x.cps.toList.drop (n - 1 - i + 1)) σ _ (by rw [← e1, List.take_append_drop]) p
      rw [← e1, e3] at this
      exact this
    · have e : n - i = 0 := by omega
      rw [e] at p
      exact .inl ⟨Nat.le_of_not_lt lt, hd σ H p⟩
end Nx

/-! Trees by their numbers; many steps. -/
namespace Nx
open PySem PySem.Spec PyProof.Rows L2
/-! ### reading a tree from its end -/
def stO : List Nat → Option (List Tr)
  | [] => some []
  | c :: r => if c = 49 then (match stO r with
    | some (a :: b :: q) => some (.node a b :: q)
    | _ => none) else (stO r).map (.leaf :: ·)
theorem stO_tree : ∀ (t : Tr) (r : List Nat) (us : List Tr), stO r = some us → stO (t.sg ++ r) = some (t :: us)
  | .leaf, r, us, h => by
    show (stO r).map (Tr.leaf :: ·) = _
    rw [h]
    rfl
  | .node a b, r, us, h => by
    have hb := stO_tree b r us h
    have ha := stO_tree a (b.sg ++ r) (b :: us) hb
    have e : (Tr.node a b).sg ++ r = 49 :: (a.sg ++ (b.sg ++ r)) := by
      show 49 :: (a.sg ++ b.sg) ++ r = _
      rw [List.cons_append, List.append_assoc]
    rw [e]
    show (match stO (a.sg ++ (b.sg ++ r)) with
      | some (a :: b :: q) => some (Tr.node a b :: q)
      | _ => none) = _
    rw [ha]
theorem stO_suf : ∀ (a r : List Nat) (us : List Tr), stO (a ++ r) = some us → ∃ vs, stO r = some vs
  | [], r, us, h => ⟨us, h⟩
  | c :: a, r, us, h => by
    have h : (if c = 49 then (match stO (a ++ r) with
      | some (a :: b :: q) => some (Tr.node a b :: q)
      | _ => none) else (stO (a ++ r)).map (Tr.leaf :: ·)) = some us := h
    cases e : stO (a ++ r) with
    | none =>
      rw [e] at h
      split at h <;> cases h
    | some vs => exact stO_suf a r vs e
theorem stO_one {t : Tr} : stO t.sg = some [t] := by
  have := stO_tree t [] [] rfl
  rwa [List.append_nil] at this
theorem stO_49 {r : List Nat} {us : List Tr} (h : stO (49 :: r) = some us) : ∃ a b q, stO r = some (a :: b :: q) ∧ us = .node a b :: q := by
  have h : (match stO r with
    | some (a :: b :: q) => some (Tr.node a b :: q)
    | _ => none) = some us := h
  split at h
  · rename_i a b q e
    exact ⟨a, b, q, e, (Option.some.inj h).symm⟩
  · cases h
theorem stO_48 {r : List Nat} {us : List Tr} (h : stO (48 :: r) = some us) : ∃ q, stO r = some q ∧ us = .leaf :: q := by
  have h : (stO r).map (Tr.leaf :: ·) = some us := h
  cases e : stO r with
  | none =>
    rw [e] at h
    cases h
  | some q =>
    rw [e] at h
    exact ⟨q, rfl, (Option.some.inj h).symm⟩
/-! ### the table -/
def Ext (T T' : List Tr) : Prop := ∀ (k : Nat) (s : Tr), T[k]? = some s → T'[k]? = some s
theorem Ext.refl (T : List Tr) : Ext T T := fun _ _ h => h
theorem Ext.trans {T T1 T2 : List Tr} (a : Ext T T1) (b : Ext T1 T2) : Ext T T2 := fun k s h => b k s (a k s h)
theorem Ext.app (T r : List Tr) : Ext T (T ++ r) := fun k s h => by
  rw [List.getElem?_append_left (List.getElem?_eq_some_iff.mp h).1]
  exact h
structure Tb (hs ts : List Nat) (T : List Tr) : Prop where
  lh : hs.length = T.length
  lt : ts.length = T.length
  z : T[0]? = some .leaf
  at_ : ∀ (n : Nat) (t : Tr), T[n]? = some t → ∃ h k : Nat, hs[n]? = some h ∧ ts[n]? = some k ∧ T[h]? = some t.hd ∧ T[k]? = some t.tl
  no : ∀ (n : Nat) (t : Tr), n ≠ 0 → T[n]? = some t → t ≠ .leaf
theorem one_at {n : Nat} {t : Tr} (h : [Tr.leaf][n]? = some t) : n = 0 ∧ t = .leaf := by
  cases n with
  | zero => exact ⟨rfl, (Option.some.inj h).symm⟩
  | succ n => cases h
theorem Tb.new : Tb [0] [0] [.leaf] := ⟨rfl, rfl, rfl, fun n t h => by
  obtain ⟨rfl, rfl⟩ := one_at h
  exact ⟨0, 0, rfl, rfl, rfl, rfl⟩, fun n t n0 e => absurd (one_at e).1 n0⟩
theorem Tb.push {hs ts : List Nat} {T : List Tr} {a b : Nat} {s t : Tr} (h : Tb hs ts T) (ha : T[a]? = some s) (hb : T[b]? = some t) : Tb (hs ++ [a]) (ts ++ [b]) (T ++ [.node s t]) := by
  have e := Ext.app T [.node s t]
  have last : ∀ (n : Nat) (u : Tr), (T ++ [Tr.node s t])[n]? = some u → T[n]? = some u ∨ (n = T.length ∧ u = .node s t) := fun n u hn => by
    have hl := (List.getElem?_eq_some_iff.mp hn).1
    rw [List.length_append, List.length_singleton] at hl
    by_cases c : n < T.length
    · rw [List.getElem?_append_left c] at hn
      exact .inl hn
    · have c2 : n = T.length := by omega
      rw [c2, List.getElem?_append_right (Nat.le_refl _), Nat.sub_self] at hn
      exact .inr ⟨c2, (Option.some.inj hn).symm⟩
  refine ⟨by rw [List.length_append, List.length_append, h.lh]; rfl, by rw [List.length_append, List.length_append, h.lt]; rfl, e _ _ h.z, fun n u hn => ?_, fun n u n0 hn => ?_⟩
  · rcases last n u hn with h1 | ⟨rfl, rfl⟩
    · obtain ⟨x, y, e1, e2, e3, e4⟩ := h.at_ n u h1
      exact ⟨x, y, by rw [List.getElem?_append_left (List.getElem?_eq_some_iff.mp e1).1]; exact e1, by rw [List.getElem?_append_left (List.getElem?_eq_some_iff.mp e2).1]; exact e2, e _ _ e3, e _ _ e4⟩
    · exact ⟨a, b, by rw [← h.lh, List.getElem?_append_right (Nat.le_refl _), Nat.sub_self]; rfl, by rw [← h.lt, List.getElem?_append_right (Nat.le_refl _), Nat.sub_self]; rfl, e _ _ ha, e _ _ hb⟩
  · rcases last n u hn with h1 | ⟨rfl, rfl⟩
    · exact h.no n u n0 h1
    · exact fun z => by cases z
/-- the trees that the numbers stand for -/
abbrev Nums (T : List Tr) : List Nat → List Tr → Prop := Paired fun (n : Nat) t => T[n]? = some t
theorem Nums.ext {T T' : List Tr} {ns : List Nat} {us : List Tr} (h : Nums T ns us) (e : Ext T T') : Nums T' ns us := Paired.imp (fun n t q => e n t q) h
theorem nums_0 {T : List Tr} (h : T[0]? = some .leaf) : ∀ n : Nat, Nums T (List.replicate n 0) (List.replicate n .leaf)
  | 0 => .nil
  | n + 1 => .cons h (nums_0 h n)
/-! ### many steps -/
def bigS (i : Ins) (rs : List Tr) : Bool := match i with
  | .cons _ b c => decide (200000 < (Tr.node (reg rs b) (reg rs c)).sg.length)
  | _ => false
/-- a jump leads nowhere else -/
def JOk (is : List Ins) : Prop := ∀ (j : Nat) (i : Ins) (rs : List Tr), is[j]? = some i → ∃ j2 : Nat, stepAt i j rs = (j2 : Int) ∧ j2 ≤ is.length
def go (is : List Ins) : Nat → Nat → List Tr → Option (Nat × List Tr × Nat)
  | 0, k, rs => some (k, rs, 0)
  | n + 1, k, rs => match is[k]? with
    | none => some (k, rs, 0)
    | some i => if bigS i rs then none else (go is n (stepAt i k rs).toNat (stepRs i rs)).map fun q => (q.1, q.2.1, q.2.2 + 1)
def addN (j : Nat) (q : Option (Nat × List Tr × Nat)) : Option (Nat × List Tr × Nat) := q.map fun q => (q.1, q.2.1, q.2.2 + j)
theorem addN_0 (q : Option (Nat × List Tr × Nat)) : addN 0 q = q := by
  cases q <;> rfl
theorem go_end {is : List Ins} {n k : Nat} {rs : List Tr} (h : is[k]? = none) : go is n k rs = some (k, rs, 0) := by
  cases n with
  | zero => rfl
  | succ n =>
    unfold go
    rw [h]
theorem go_big {is : List Ins} {n k : Nat} {rs : List Tr} {i : Ins} (h : is[k]? = some i) (g : bigS i rs = true) : go is (n + 1) k rs = none := by
  unfold go
  rw [h]
  exact if_pos g
theorem go_succ (is : List Ins) (n k : Nat) (rs : List Tr) : go is (n + 1) k rs = match is[k]? with
    | none => some (k, rs, 0)
    | some i => if bigS i rs then none else addN 1 (go is n (stepAt i k rs).toNat (stepRs i rs)) := rfl
theorem go_on {is : List Ins} {n k : Nat} {rs : List Tr} {i : Ins} (h : is[k]? = some i) (g : bigS i rs = false) : go is (n + 1) k rs = addN 1 (go is n (stepAt i k rs).toNat (stepRs i rs)) := by
  rw [go_succ, h]
  show (if bigS i rs = true then _ else _) = _
  rw [g]
  rfl
theorem addN_addN (a b : Nat) (q : Option (Nat × List Tr × Nat)) : addN a (addN b q) = addN (b + a) q := by
  cases q with
  | none => rfl
  | some q => 
    show some _ = some _
    simp [Nat.add_assoc]
theorem go_le {is : List Ins} {M : Nat} (hM : 200000 ≤ M) (hb : ∀ i ∈ is, i.below 20 ∧ i.big ≤ M) : ∀ (n k : Nat) (rs : List Tr) {k' d : Nat} {rs' : List Tr}, rs.length = 20 → (∀ t ∈ rs, t.sg.length ≤ M) → go is n k rs = some (k', rs', d) → ∀ t ∈ rs', t.sg.length ≤ M
  | 0, k, rs, k', d, rs', _, h, e => by
    cases e
    exact h
  | n + 1, k, rs, k', d, rs', hl, h, e => by
    cases hi : is[k]? with
    | none =>
      rw [go_end hi] at e
      cases e
      exact h
    | some i =>
      cases hg : bigS i rs with
      | true =>
        rw [go_big hi hg] at e
        cases e
      | false =>
        rw [go_on hi hg] at e
        cases e2 : go is n (stepAt i k rs).toNat (stepRs i rs) with
        | none =>
          rw [e2] at e
          cases e
        | some q =>
          rw [e2] at e
          obtain ⟨q1, q2, q3⟩ := q
          cases e
          obtain ⟨b1, b2⟩ := hb i (List.mem_of_getElem? hi)
          refine go_le hM hb n _ _ (by rw [stepRs_len]; exact hl) (stepRs_le h fun hj => ?_) e2
          have rg : ∀ b, b ∈ i.regs → (reg rs b).sg.length ≤ M := fun b hbr => h _ (reg_mem (by rw [hl]; exact b1 b hbr))
          cases i with
          | jump a m => cases hj
          | set a t => exact b2
          | move a b => exact rg b (by simp [Ins.regs])
          | head a b => exact Nat.le_trans (hd_len _) (rg b (by simp [Ins.regs]))
          | tail a b => exact Nat.le_trans (tl_len _) (rg b (by simp [Ins.regs]))
          | cons a b c =>
            have hg : decide (200000 < (Tr.node (reg rs b) (reg rs c)).sg.length) = false := hg
            have := of_decide_eq_false hg
            show (Tr.node (reg rs b) (reg rs c)).sg.length ≤ M
            omega
theorem go_more {is : List Ins} : ∀ (n k : Nat) (rs : List Tr) {k' d : Nat} {rs' : List Tr}, go is n k rs = some (k', rs', d) → d ≤ n ∧ (k' < is.length → d = n) ∧ (k ≤ is.length → is.length ≤ k' → d = 0 ∨ k < is.length)
  | 0, k, rs, k', d, rs', e => by
    cases e
    exact ⟨Nat.le_refl _, fun _ => rfl, fun _ _ => .inl rfl⟩
  | n + 1, k, rs, k', d, rs', e => by
    cases hi : is[k]? with
    | none =>
      rw [go_end hi] at e
      cases e
      have := List.getElem?_eq_none_iff.mp hi
      exact ⟨Nat.zero_le _, fun h => by omega, fun _ _ => .inl rfl⟩
    | some i =>
      have hk := (List.getElem?_eq_some_iff.mp hi).1
      cases hg : bigS i rs with
      | true =>
        rw [go_big hi hg] at e
        cases e
      | false =>
        rw [go_on hi hg] at e
        cases e2 : go is n (stepAt i k rs).toNat (stepRs i rs) with
        | none =>
          rw [e2] at e
          cases e
        | some q =>
          rw [e2] at e
          obtain ⟨q1, q2, q3⟩ := q
          cases e
          obtain ⟨h1, h2, h3⟩ := go_more n _ _ e2
          exact ⟨by show q3 + 1 ≤ n + 1; omega, fun h => by rw [h2 h], fun _ _ => .inr hk⟩
/-- fewer steps: what needs d of them is not done before -/
theorem go_less {is : List Ins} (hJ : JOk is) : ∀ (n k : Nat) (rs : List Tr) {d : Nat} {rs' : List Tr}, go is n k rs = some (is.length, rs', d) → go is d k rs = some (is.length, rs', d) ∧ ∀ m, m < d → ∃ k2 rs2, go is m k rs = some (k2, rs2, m) ∧ k2 < is.length
  | 0, k, rs, d, rs', e => by
    cases e
    exact ⟨rfl, fun m h => by omega⟩
  | n + 1, k, rs, d, rs', e => by
    cases hi : is[k]? with
    | none =>
      rw [go_end hi] at e
      cases e
      exact ⟨rfl, fun m h => by omega⟩
    | some i =>
      have hk := (List.getElem?_eq_some_iff.mp hi).1
      cases hg : bigS i rs with
      | true =>
        rw [go_big hi hg] at e
        cases e
      | false =>
        rw [go_on hi hg] at e
        cases e2 : go is n (stepAt i k rs).toNat (stepRs i rs) with
        | none =>
          rw [e2] at e
          cases e
        | some q =>
          rw [e2] at e
          obtain ⟨q1, q2, q3⟩ := q
          cases e
          obtain ⟨h1, h2⟩ := go_less hJ n _ _ e2
          refine ⟨by rw [go_on hi hg, h1]; rfl, fun m hm => ?_⟩
          have hm : m < q3 + 1 := hm
          cases m with
          | zero => exact ⟨k, rs, rfl, hk⟩
          | succ m =>
            obtain ⟨k2, rs2, g1, g2⟩ := h2 m (by omega)
            exact ⟨k2, rs2, by rw [go_on hi hg, g1]; rfl, g2⟩
theorem go_small {i : Ins} {rs : List Tr} (hl : rs.length = 20) (hb : i.below 20) (h : ∀ t ∈ rs, t.sg.length ≤ 3000) : bigS i rs = false := by
  cases i with
  | cons a b c =>
    have h1 := h _ (reg_mem (by rw [hl]; exact hb b (by simp [Ins.regs])))
    have h2 := h _ (reg_mem (by rw [hl]; exact hb c (by simp [Ins.regs])))
    have h3 := node_len (reg rs b) (reg rs c)
    exact decide_eq_false (by omega)
  | _ => rfl
theorem notTold_tree (t : Tr) : notTold (.str t.str) := by
  have ne : ∀ z : Str, (z.cps.toList.all fun c => c == 48 || c == 49) = false → PyData.eqv (.str z) (.str t.str) = false := fun z hz => by
    cases e : PyData.eqv (.str z) (.str t.str) with
    | false => rfl
    | true =>
      exfalso
      have e : (z == t.str) = true := e
      have e2 := eq_of_beq e
      rw [e2] at hz
      have := (all01_iff t.sg).mpr t.sg_01
      rw [show t.str.cps.toList = t.sg from rfl, this] at hz
      cases hz
  refine ⟨?_, ne _ (by decide +kernel), ne _ (by decide +kernel), ne _ (by decide +kernel)⟩
  show ((PyData.strOk t.str && true) && decide (max 0 0 + 1 ≤ 64)) = true
  rw [show t.str = stS t.sg from rfl, strOk_01 t.sg_01]
  rfl
def rs0 (x : Tr) : List Tr := x :: List.replicate 19 .leaf
/-! ### the heap of a machine -/
def natsV (ns : List Nat) : List V := ns.map fun n : Nat => V.int (n : Int)
def sizV (T : List Tr) : List V := T.map fun t => V.int (t.sg.length : Int)
theorem natsV_len (ns : List Nat) : (natsV ns).length = ns.length := List.length_map _
theorem sizV_len (T : List Tr) : (sizV T).length = T.length := List.length_map _
theorem natsV_at {ns : List Nat} {j n : Nat} (h : ns[j]? = some n) : atI (natsV ns) (j : Int) = some (.int n) := atI_nat (by
  unfold natsV
  rw [List.getElem?_map, h]
  rfl)
theorem sizV_at {T : List Tr} {j : Nat} {t : Tr} (h : T[j]? = some t) : atI (sizV T) (j : Int) = some (.int t.sg.length) := atI_nat (by
  unfold sizV
  rw [List.getElem?_map, h]
  rfl)
theorem natsV_app (ns : List Nat) (n : Nat) : natsV ns ++ [.int n] = natsV (ns ++ [n]) := by
  unfold natsV
  rw [List.map_append]
  rfl
theorem sizV_app (T : List Tr) (t : Tr) : sizV T ++ [.int t.sg.length] = sizV (T ++ [t]) := by
  unfold sizV
  rw [List.map_append]
  rfl
theorem natsV_pop (ns : List Nat) (n : Nat) : (natsV (ns ++ [n]))[(natsV (ns ++ [n])).length - 1]? = some (.int n) := by
  rw [← natsV_app, List.length_append, List.length_singleton, Nat.add_sub_cancel, List.getElem?_append_right (Nat.le_refl _), Nat.sub_self]
  rfl
theorem natsV_drop (ns : List Nat) (n : Nat) : (natsV (ns ++ [n])).dropLast = natsV ns := by
  rw [← natsV_app, List.dropLast_concat]
theorem stO_len : ∀ (r : List Nat) (us : List Tr), stO r = some us → us.length ≤ r.length
  | [], us, h => by
    cases h
    exact Nat.le_refl _
  | c :: r, us, h => by
    obtain ⟨vs, hv⟩ := stO_suf [c] r us h
    have ih := stO_len r vs hv
    rw [List.length_cons]
    by_cases e : c = 49
    · subst e
      obtain ⟨a, b, q, h1, rfl⟩ := stO_49 h
      rw [hv] at h1
      cases h1
      simp only [List.length_cons] at ih ⊢
      omega
    · have h : (if c = 49 then (match stO r with
        | some (a :: b :: q) => some (Tr.node a b :: q)
        | _ => none) else (stO r).map (Tr.leaf :: ·)) = some us := h
      rw [if_neg e, hv] at h
      cases h
      rw [List.length_cons]
      omega
theorem c49 (r : List Nat) : (49 :: r).count 49 = r.count 49 + 1 := List.count_cons_self
/-- an instruction at k as the machine notes it; n: the number of a tree that is set -/
def plV (i : Ins) (k : Int) (n : Nat) : List V := match i with
  | .set a _ => [.str "set", .int a, .int n, .int 0]
  | .jump a m => [.str "jump", .int a, .int (k + m), .int 0]
  | .cons a b c => [.str "cons", .int a, .int b, .int c]
  | .move a b => [.str "move", .int a, .int b, .int 0]
  | .head a b => [.str "head", .int a, .int b, .int 0]
  | .tail a b => [.str "tail", .int a, .int b, .int 0]
/-- the tree that is set -/
def SetN (T : List Tr) (i : Ins) (n : Nat) : Prop := ∀ a t, i = .set a t → T[n]? = some t
theorem SetN.ext {T T' : List Tr} {i : Ins} {n : Nat} (h : SetN T i n) (e : Ext T T') : SetN T' i n := fun a t z => e _ _ (h a t z)
theorem pairs_le (t : Tr) : t.pairs ≤ t.sg.length := by
  have := t.sg_len
  omega
structure FsOk (fs : List (Str × V)) (Ah At As : Addr) : Prop where
  h : fs.lookup ("heads" : Str) = some (.ref Ah)
  t : fs.lookup ("tails" : Str) = some (.ref At)
  s : fs.lookup ("sizes" : Str) = some (.ref As)
  pair : fs.lookup ("pair" : Str) = none
  joined : fs.lookup ("joined" : Str) = none
  enter : fs.lookup ("enter" : Str) = none
  planned : fs.lookup ("planned" : Str) = none
  advance : fs.lookup ("advance" : Str) = none
  tree_of : fs.lookup ("tree_of" : Str) = none
theorem look_no {α : Type} {k g : Str} {v : α} {r : List (Str × α)} (h : (k == g) = false) : ((g, v) :: r).lookup k = r.lookup k := by
  show (match k == g with | true => some v | false => r.lookup k) = _
  rw [h]
theorem look_is {α : Type} {k : Str} {v : α} {r : List (Str × α)} : ((k, v) :: r).lookup k = some v := by
  show (match k == k with | true => some v | false => r.lookup k) = _
  rw [beq_self_eq_true k]
def m3 (Ah At As : Addr) (r : List (Str × V)) : List (Str × V) := ("heads", .ref Ah) :: ("tails", .ref At) :: ("sizes", .ref As) :: r
def mAt (k : Int) (r : List (Str × V)) : List (Str × V) := ("at", .int k) :: r
def mRg (R : Addr) (r : List (Str × V)) : List (Str × V) := ("registers", .ref R) :: r
def mPl (L : Addr) : List (Str × V) := [("plan", .ref L)]
theorem m3_no {Ah At As : Addr} {r : List (Str × V)} {k : Str} (h : (k == "heads" || k == "tails" || k == "sizes") = false) : (m3 Ah At As r).lookup k = r.lookup k := by
  simp only [Bool.or_eq_false_iff] at h
  exact (look_no h.1.1).trans ((look_no h.1.2).trans (look_no h.2))
theorem m3_ok {Ah At As : Addr} {r : List (Str × V)} (h1 : r.lookup ("pair" : Str) = none) (h2 : r.lookup ("joined" : Str) = none) (h3 : r.lookup ("enter" : Str) = none) (h4 : r.lookup ("planned" : Str) = none) (h5 : r.lookup ("advance" : Str) = none) (h6 : r.lookup ("tree_of" : Str) = none) : FsOk (m3 Ah At As r) Ah At As :=
  ⟨look_is, (look_no (by decide +kernel)).trans look_is, (look_no (by decide +kernel)).trans ((look_no (by decide +kernel)).trans look_is), (m3_no (by decide +kernel)).trans h1, (m3_no (by decide +kernel)).trans h2, (m3_no (by decide +kernel)).trans h3, (m3_no (by decide +kernel)).trans h4, (m3_no (by decide +kernel)).trans h5, (m3_no (by decide +kernel)).trans h6⟩
theorem m4_ok (Ah At As : Addr) (k : Int) : FsOk (m3 Ah At As (mAt k [])) Ah At As := m3_ok (look_no (by decide +kernel)) (look_no (by decide +kernel)) (look_no (by decide +kernel)) (look_no (by decide +kernel)) (look_no (by decide +kernel)) (look_no (by decide +kernel))
theorem m5_ok (Ah At As R : Addr) (k : Int) : FsOk (m3 Ah At As (mAt k (mRg R []))) Ah At As := by
  have f : ∀ z : Str, (z == "at") = false → (z == "registers") = false → (mAt k (mRg R [])).lookup z = none := fun z a b => (look_no a).trans (look_no b)
  exact m3_ok (f _ (by decide +kernel) (by decide +kernel)) (f _ (by decide +kernel) (by decide +kernel)) (f _ (by decide +kernel) (by decide +kernel)) (f _ (by decide +kernel) (by decide +kernel)) (f _ (by decide +kernel) (by decide +kernel)) (f _ (by decide +kernel) (by decide +kernel))
abbrev m6 (Ah At As R L : Addr) (k : Int) : List (Str × V) := m3 Ah At As (mAt k (mRg R (mPl L)))
theorem m6_ok (Ah At As R L : Addr) (k : Int) : FsOk (m6 Ah At As R L k) Ah At As := by
  have f : ∀ z : Str, (z == "at") = false → (z == "registers") = false → (z == "plan") = false → (mAt k (mRg R (mPl L))).lookup z = none := fun z a b c => (look_no a).trans ((look_no b).trans (look_no c))
  exact m3_ok (f _ (by decide +kernel) (by decide +kernel) (by decide +kernel)) (f _ (by decide +kernel) (by decide +kernel) (by decide +kernel)) (f _ (by decide +kernel) (by decide +kernel) (by decide +kernel)) (f _ (by decide +kernel) (by decide +kernel) (by decide +kernel)) (f _ (by decide +kernel) (by decide +kernel) (by decide +kernel)) (f _ (by decide +kernel) (by decide +kernel) (by decide +kernel))
theorem m6_at (Ah At As R L : Addr) (k : Int) : (m6 Ah At As R L k).lookup ("at" : Str) = some (.int k) := (m3_no (by decide +kernel)).trans look_is
theorem m6_rg (Ah At As R L : Addr) (k : Int) : (m6 Ah At As R L k).lookup ("registers" : Str) = some (.ref R) := (m3_no (by decide +kernel)).trans ((look_no (by decide +kernel)).trans look_is)
theorem m6_pl (Ah At As R L : Addr) (k : Int) : (m6 Ah At As R L k).lookup ("plan" : Str) = some (.ref L) := (m3_no (by decide +kernel)).trans ((look_no (by decide +kernel)).trans ((look_no (by decide +kernel)).trans look_is))
theorem put_is {f : Str} {v x : V} {r : List (Str × V)} : putF f v ((f, x) :: r) = (f, v) :: r := if_pos rfl
theorem put_no {f g : Str} {v x : V} {r : List (Str × V)} (h : ¬ g = f) : putF f v ((g, x) :: r) = (g, x) :: putF f v r := if_neg h
theorem m3_new (Ah At As : Addr) : putF ("sizes" : Str) (.ref As) (putF ("tails" : Str) (.ref At) (putF ("heads" : Str) (.ref Ah) [])) = m3 Ah At As [] := by
  show putF ("sizes" : Str) (.ref As) (putF ("tails" : Str) (.ref At) [("heads", .ref Ah)]) = _
  rw [put_no (by decide +kernel)]
  exact (put_no (by decide +kernel)).trans (congrArg _ (put_no (by decide +kernel)))
theorem m3_put {Ah At As : Addr} {r : List (Str × V)} {k : Str} {v : V} (h1 : ¬ ("heads" : Str) = k) (h2 : ¬ ("tails" : Str) = k) (h3 : ¬ ("sizes" : Str) = k) : putF k v (m3 Ah At As r) = m3 Ah At As (putF k v r) := by
  unfold m3
  rw [put_no h1, put_no h2, put_no h3]
theorem m4_new (Ah At As : Addr) (k : Int) : putF ("at" : Str) (.int k) (m3 Ah At As []) = m3 Ah At As (mAt k []) := m3_put (by decide +kernel) (by decide +kernel) (by decide +kernel)
theorem m5_new (Ah At As R : Addr) (k : Int) : putF ("registers" : Str) (.ref R) (m3 Ah At As (mAt k [])) = m3 Ah At As (mAt k (mRg R [])) := (m3_put (by decide +kernel) (by decide +kernel) (by decide +kernel)).trans (congrArg _ (put_no (by decide +kernel)))
theorem m6_new (Ah At As R L : Addr) (k : Int) : putF ("plan" : Str) (.ref L) (m3 Ah At As (mAt k (mRg R []))) = m6 Ah At As R L k := (m3_put (by decide +kernel) (by decide +kernel) (by decide +kernel)).trans (congrArg _ ((put_no (by decide +kernel)).trans (congrArg _ (put_no (by decide +kernel)))))
theorem m6_put (Ah At As R L : Addr) (k j : Int) : putF ("at" : Str) (.int j) (m6 Ah At As R L k) = m6 Ah At As R L j := (m3_put (by decide +kernel) (by decide +kernel) (by decide +kernel)).trans (congrArg _ put_is)
structure MacAt (H : Hp) (Ah At As : Addr) (T : List Tr) : Prop where
  get : ∃ hs ts : List Nat, H Ah = some (.lst (natsV hs)) ∧ H At = some (.lst (natsV ts)) ∧ H As = some (.lst (sizV T)) ∧ Tb hs ts T
  ht : Ah ≠ At
  hs : Ah ≠ As
  ts : At ≠ As
/-- what stands but at some addresses -/
def ButL (as : List Addr) (H H' : Hp) : Prop := ∀ b o, b ∉ as → H b = some o → H' b = some o
theorem ButL.refl (as : List Addr) (H : Hp) : ButL as H H := fun _ _ _ h => h
theorem ButL.trans {as : List Addr} {H H1 H2 : Hp} (a : ButL as H H1) (b : ButL as H1 H2) : ButL as H H2 := fun c o n h => b c o n (a c o n h)
theorem _root_.L2.Same.butL {as : List Addr} {H H' : Hp} (s : Same H H') : ButL as H H' := fun b o _ h => s b o h
theorem ButL.upd {as : List Addr} {H : Hp} {a : Addr} {o : HO} (h : a ∈ as) : ButL as H (upd H a o) := fun b x n e => by
  rw [upd_ne (fun z => n (by rw [z]; exact h))]
  exact e
theorem MacAt.pos {H : Hp} {Ah At As : Addr} {T : List Tr} (h : MacAt H Ah At As T) : 0 < T.length := by
  obtain ⟨hs, ts, _, _, _, g⟩ := h.get
  exact (List.getElem?_eq_some_iff.mp g.z).1
/-- other changes do not touch the table -/
theorem MacAt.but {as : List Addr} {H H' : Hp} {Ah At As : Addr} {T : List Tr} (h : MacAt H Ah At As T) (e : ButL as H H') (h1 : Ah ∉ as) (h2 : At ∉ as) (h3 : As ∉ as) : MacAt H' Ah At As T := by
  obtain ⟨hs, ts, a, b, c, g⟩ := h.get
  exact ⟨⟨hs, ts, e _ _ h1 a, e _ _ h2 b, e _ _ h3 c, g⟩, h.ht, h.hs, h.ts⟩
def PlAt (H : Hp) (T : List Tr) (qs : List Addr) (is : List Ins) : Prop := ∀ (j : Nat) (i : Ins), is[j]? = some i → ∃ (q : Addr) (n : Nat), qs[j]? = some q ∧ H q = some (.tup (plV i j n)) ∧ SetN T i n
theorem PlAt.on {H H' : Hp} {T T' : List Tr} {qs : List Addr} {is : List Ins} (h : PlAt H T qs is) (e : ∀ q xs, H q = some (.tup xs) → H' q = some (.tup xs)) (x : Ext T T') : PlAt H' T' qs is := fun j i hi => by
  obtain ⟨q, n, h1, h2, h3⟩ := h j i hi
  exact ⟨q, n, h1, e _ _ h2, h3.ext x⟩
/-- a machine at k: all that it holds -/
structure MacF (C : Addr) (H : Hp) (o dx Ah At As R L : Addr) (k : Nat) (T : List Tr) (ns : List Nat) (rs : List Tr) (is : List Ins) : Prop where
  ob : H o = some (.ins C dx (m6 Ah At As R L k))
  tb : MacAt H Ah At As T
  rg : H R = some (.lst (natsV ns))
  nr : Nums T ns rs
  pl : ∃ qs : List Addr, H L = some (.lst (qs.map V.ref)) ∧ qs.length = is.length ∧ PlAt H T qs is
  nR : R ∉ [Ah, At, As]
  nL : L ∉ [Ah, At, As]
  rl : R ≠ L
theorem tup_not {H : Hp} {Ah At As q : Addr} {T : List Tr} {xs : List V} (h : MacAt H Ah At As T) (e : H q = some (.tup xs)) : q ∉ [Ah, At, As] := fun z => by
  obtain ⟨hs, ts, h1, h2, h3, g⟩ := h.get
  simp only [List.mem_cons, List.not_mem_nil, or_false] at z
  rcases z with rfl | rfl | rfl
  · rw [h1] at e; cases e
  · rw [h2] at e; cases e
  · rw [h3] at e; cases e
theorem ins_not {H : Hp} {Ah At As q C dx : Addr} {T : List Tr} {fs : List (Str × V)} (h : MacAt H Ah At As T) (e : H q = some (.ins C dx fs)) : q ∉ [Ah, At, As] := fun z => by
  obtain ⟨hs, ts, h1, h2, h3, g⟩ := h.get
  simp only [List.mem_cons, List.not_mem_nil, or_false] at z
  rcases z with rfl | rfl | rfl
  · rw [h1] at e; cases e
  · rw [h2] at e; cases e
  · rw [h3] at e; cases e
theorem none_not {H : Hp} {Ah At As q : Addr} {T : List Tr} (h : MacAt H Ah At As T) (e : H q = none) : q ∉ [Ah, At, As] := fun z => by
  obtain ⟨hs, ts, h1, h2, h3, g⟩ := h.get
  simp only [List.mem_cons, List.not_mem_nil, or_false] at z
  rcases z with rfl | rfl | rfl
  · rw [h1] at e; cases e
  · rw [h2] at e; cases e
  · rw [h3] at e; cases e
def bigSum (is : List Ins) : Nat := (is.map Ins.big).sum
theorem bigSum_take {is : List Ins} {j : Nat} {i : Ins} (h : is[j]? = some i) : bigSum (is.take (j + 1)) = bigSum (is.take j) + i.big := by
  unfold bigSum
  rw [List.take_add_one, h, List.map_append, List.sum_append]
  rfl
theorem bigSum_le (is : List Ins) (j : Nat) : bigSum (is.take j) ≤ bigSum is := by
  have h : bigSum is = bigSum (is.take j) + bigSum (is.drop j) := by
    unfold bigSum
    rw [← List.sum_append, ← List.map_append, List.take_append_drop]
  omega
def plX (i : Ins) (k : Int) (n : Nat) : Int := match i with
  | .set _ _ => n
  | .jump _ m => k + m
  | .cons _ b _ => b
  | .move _ b => b
  | .head _ b => b
  | .tail _ b => b
def plY (i : Ins) : Int := match i with
  | .cons _ _ c => c
  | _ => 0
theorem plV_is (i : Ins) (k : Int) (n : Nat) : plV i k n = [.str i.word, .int i.a, .int (plX i k n), .int (plY i)] := by cases i <;> rfl
section
variable {C : Addr} {H H' : Hp} {o dx Ah At As R L : Addr} {k : Nat} {T T' : List Tr} {ns : List Nat} {rs : List Tr} {is : List Ins}
theorem MacF.notA (h : MacF C H o dx Ah At As R L k T ns rs is) : o ∉ [Ah, At, As] := ins_not h.tb h.ob
theorem MacF.oR (h : MacF C H o dx Ah At As R L k T ns rs is) : o ≠ R := fun z => by
  have h1 := h.ob
  rw [z, h.rg] at h1
  cases h1
theorem MacF.oL (h : MacF C H o dx Ah At As R L k T ns rs is) : o ≠ L := fun z => by
  obtain ⟨qs, e, _⟩ := h.pl
  have h1 := h.ob
  rw [z, e] at h1
  cases h1
/-- what changes the table alone -/
theorem MacF.grow (h : MacF C H o dx Ah At As R L k T ns rs is) (b : ButL [Ah, At, As] H H') (m : MacAt H' Ah At As T') (x : Ext T T') : MacF C H' o dx Ah At As R L k T' ns rs is := by
  obtain ⟨qs, e1, e2, e3⟩ := h.pl
  exact ⟨b _ _ h.notA h.ob, m, b _ _ h.nR h.rg, h.nr.ext x, ⟨qs, b _ _ h.nL e1, e2, e3.on (fun q xs e => b _ _ (tup_not h.tb e) e) x⟩, h.nR, h.nL, h.rl⟩
theorem MacF.setAt (h : MacF C H o dx Ah At As R L k T ns rs is) (j : Nat) : MacF C (upd H o (.ins C dx (m6 Ah At As R L j))) o dx Ah At As R L j T ns rs is := by
  obtain ⟨qs, e1, e2, e3⟩ := h.pl
  have n := h.notA
  simp only [List.mem_cons, List.not_mem_nil, or_false, not_or] at n
  refine ⟨upd_same, h.tb.but (as := [o]) (ButL.upd (List.mem_singleton.mpr rfl)) (fun z => n.1 (List.mem_singleton.mp z).symm) (fun z => n.2.1 (List.mem_singleton.mp z).symm) (fun z => n.2.2 (List.mem_singleton.mp z).symm), (upd_ne h.oR.symm).trans h.rg, h.nr, ⟨qs, (upd_ne h.oL.symm).trans e1, e2, e3.on (fun q xs e => ?_) (Ext.refl _)⟩, h.nR, h.nL, h.rl⟩
  rw [upd_ne (fun z => by rw [z, h.ob] at e; cases e)]
  exact e
theorem nums_set {T : List Tr} {n : Nat} {t : Tr} (hn : T[n]? = some t) : ∀ {ns : List Nat} {rs : List Tr} (a : Nat), Nums T ns rs → Nums T (ns.set a n) (rs.set a t)
  | _, _, _, .nil => .nil
  | _, _, 0, .cons _ h => .cons hn h
  | _, _, a + 1, .cons r h => .cons r (nums_set hn a h)
theorem MacF.setReg (h : MacF C H o dx Ah At As R L k T ns rs is) {n : Nat} {t : Tr} (hn : T[n]? = some t) (a : Nat) : MacF C (upd H R (.lst (natsV (ns.set a n)))) o dx Ah At As R L k T (ns.set a n) (rs.set a t) is := by
  obtain ⟨qs, e1, e2, e3⟩ := h.pl
  have n' := h.nR
  simp only [List.mem_cons, List.not_mem_nil, or_false, not_or] at n'
  refine ⟨(upd_ne h.oR).trans h.ob, h.tb.but (as := [R]) (ButL.upd (List.mem_singleton.mpr rfl)) (fun z => n'.1 (List.mem_singleton.mp z).symm) (fun z => n'.2.1 (List.mem_singleton.mp z).symm) (fun z => n'.2.2 (List.mem_singleton.mp z).symm), upd_same, nums_set hn a h.nr, ⟨qs, (upd_ne h.rl.symm).trans e1, e2, e3.on (fun q xs e => ?_) (Ext.refl _)⟩, h.nR, h.nL, h.rl⟩
  rw [upd_ne (fun z => by rw [z, h.rg] at e; cases e)]
  exact e
theorem MacF.reg (h : MacF C H o dx Ah At As R L k T ns rs is) {b : Nat} (hb : b < rs.length) : ∃ n, ns[b]? = some n ∧ T[n]? = some (Nx.reg rs b) := Paired.get (F := fun (n : Nat) (t : Tr) => T[n]? = some t) h.nr (reg_get hb)
theorem natsV_set (ns : List Nat) (a n : Nat) : (natsV ns).set a (.int n) = natsV (ns.set a n) := by
  unfold natsV
  rw [List.map_set]
end
def sgV (l : List Nat) : List V := (l.map fun c => stS [c]).map V.str
theorem sgV_app (l : List Nat) (c : Nat) : sgV l ++ [.str (stS [c])] = sgV (l ++ [c]) := by
  unfold sgV
  rw [List.map_append, List.map_append]
  rfl
theorem sgV_len (l : List Nat) : (sgV l).length = l.length := by
  unfold sgV
  rw [List.length_map, List.length_map]
theorem sgV_join (l : List Nat) : Txt.join (Str.ofString "") (l.map fun c => stS [c]) = stS l := by
  rw [join_none, List.map_map]
  congr 1
  induction l with
  | nil => rfl
  | cons c r ih =>
    rw [List.map_cons, List.flatten_cons, ih]
    rfl
theorem sgV_sum (l : List Nat) : ((l.map fun c => stS [c]).map fun x : Str => x.length).sum = l.length := by
  induction l with
  | nil => rfl
  | cons c r ih =>
    rw [List.map_cons, List.map_cons, List.sum_cons, ih, List.length_cons]
    show 1 + r.length = _
    omega
def sgs (us : List Tr) : List Nat := (us.map Tr.sg).flatten
theorem sgs_cons (u : Tr) (us : List Tr) : sgs (u :: us) = u.sg ++ sgs us := by
  unfold sgs
  rw [List.map_cons, List.flatten_cons]
theorem sgs_len (us : List Tr) : us.length ≤ (sgs us).length := by
  induction us with
  | nil => exact Nat.zero_le _
  | cons u r ih =>
    rw [sgs_cons, List.length_append, List.length_cons]
    have := u.sg_len
    omega
/-- a statement, and what follows it wherever it ends -/
theorem seq_join {t1 t2 : TS} {D : Ends} {σ : L2.St} {H : Hp} (P : Hp → Prop) (h1 : ∀ nx : L2.St → Hp → Prop, (∀ X, P X → nx σ X) → t1 { D with nx := nx } σ H) (h2 : ∀ X, P X → t2 D σ X) : tSeq t1 t2 D σ H := h1 _ h2
/-! ### deep trees -/
def zigT : Nat → Tr
  | 0 => .leaf
  | n + 1 => .node (.node .leaf (zigT n)) .leaf
theorem zigT_sg : ∀ n : Nat, (zigT n).sg = repL n [49, 49, 48] ++ List.replicate (n + 1) 48
  | 0 => rfl
  | n + 1 => by
    show 49 :: ((49 :: ([48] ++ (zigT n).sg)) ++ [48]) = _
    rw [zigT_sg n, show repL (n + 1) [49, 49, 48] = [49, 49, 48] ++ repL n [49, 49, 48] by unfold repL; rw [List.replicate_succ, List.flatten_cons], List.replicate_succ' (n := n + 1)]
    simp [List.append_assoc]
theorem zigT_len (n : Nat) : (zigT n).sg.length = 4 * n + 1 := by
  rw [zigT_sg, List.length_append, repL_len, List.length_replicate]
  show n * 3 + (n + 1) = _
  omega
theorem s110 : (Str.ofString "110").cps.toList = [49, 49, 48] := by decide +kernel
theorem zig_str (n : Nat) : stS (repL n (Str.ofString "110").cps.toList) ++ stS (repL (n + 1) (Str.ofString "0").cps.toList) = (zigT n).str := by
  rw [stS_app, s110]
  show stS _ = stS _
  rw [zigT_sg, show (Str.ofString "0").cps.toList = [48] by decide +kernel, repL_one]
theorem len110' (n : Nat) : (stS (repL n (Str.ofString "110").cps.toList)).length = 3 * n := by
  rw [stS_len, repL_len, s110]
  show n * 3 = _
  omega
theorem items_numT : ∀ n : Nat, (numT n).items.length = n
  | 0 => rfl
  | n + 1 => by
    show (numT n).items.length + 1 = n + 1
    rw [items_numT n]
theorem ten_str (y : Tr) : Str.ofString "10" ++ y.str = (Tr.node .leaf y).str := by
  rw [show Str.ofString "10" = stS [49, 48] by decide +kernel]
  show stS [49, 48] ++ stS y.sg = _
  rw [stS_app]
  rfl
def deepT : Nat → Nat → Tr
  | 0, n => chT n
  | 1, n => numT n
  | _ + 2, n => zigT n
end Nx

/-! max of a tuple of whole numbers; max with a default. -/
namespace Nx
open PySem PySem.Spec PyProof.Rows L2
theorem max_intTup {prog : Program} {w : World} {A : Around} {E : Value → Shared → Prop} {s : Shared} {l : Addr} {xs : Array (Int × Tok)} {Q : Value → Shared → Prop} (hh : A.handled = none) (hl : s.heap.IsTuple l (intItems xs)) (hne : 0 < xs.size)
    (h : ∀ v h' tk, (intItems xs)[argBest (fun i j => decide (numAt xs i > numAt xs j)) (xs.size - 1)]? = some v → (∀ b o, s.heap.get? b = some o → h'.get? b = some o) → Q v { s with heap := h', toks := tk }) :
    wpAny (model prog w) A (call (.builtin "max") [.ref l]) Q E s := by
  have hlt : l < s.heap.objs.size := by obtain ⟨_, e, _⟩ := hl; exact Heap.lt_size e
  refine call_max_walk (wpAny_pyIter_tuple hl ?_)
  refine ⟨_, [_, l], [_], _, _, _, _, rfl, Walks.tuple (A := A.in1) hh _ l (Nat.ne_of_lt hlt) (intItems xs), ⟨⟨_, Heap.get?_push_size _ rfl, rfl, rfl⟩, hl.push _⟩, fun b hb => ?_, by simpa [intItems] using hne, CmpOf.ints_gt (numAt xs) (fun _ _ => intItems_at), fun v h' tk hP hk => ?_⟩
  · show b < (s.heap.push _).objs.size
    rw [Heap.size_push]
    rcases List.mem_cons.mp hb with rfl | hb
    · exact Nat.lt_succ_self _
    · rcases List.mem_cons.mp hb with rfl | hb
      · exact Nat.lt_succ_of_lt hlt
      · cases hb
  · refine h v h' tk (by simpa [intItems] using hP) fun b o e => hk b o (fun hm => ?_) (Heap.get?_push_of_some _ e)
    rcases List.mem_cons.mp hm with e1 | hm
    · exact absurd (e1 ▸ Heap.lt_size e) (Nat.lt_irrefl _)
    · cases hm
theorem max_rawT {prog : Program} {w : World} {A : Around} {E : Value → Shared → Prop} {s : Shared} {l : Addr} {its : List Value} {ns : List Int} {Q : Value → Shared → Prop} (hh : A.handled = none) (hl : s.heap.IsTuple l its.toArray) (hi : IntsAre its ns) (hne : 0 < ns.length)
    (h : ∀ h' tk M t', (∀ b o, s.heap.get? b = some o → h'.get? b = some o) → M ∈ ns → (∀ a, a ∈ ns → a ≤ M) → Q (.int M t') { s with heap := h', toks := tk }) : wpAny (model prog w) A (call (.builtin "max") [.ref l]) Q E s := by
  obtain ⟨xs, e⟩ := hi.allInts.items
  have hn : numsOf (intItems xs).toList = ns := by rw [← e]; exact hi.numsOf
  rw [nums_intItems] at hn
  subst hn
  rw [e] at hl
  have hsz : 0 < xs.size := by simpa using hne
  refine max_intTup hh hl hsz fun v h' tk hv hk => ?_
  obtain ⟨t, rfl⟩ := intItems_at hv
  obtain ⟨h1, h2⟩ := argBest_gt (numAt xs) (xs.size - 1)
  refine h h' tk _ t hk ?_ fun a ha => ?_
  · rw [numAt_eq]; exact PySem.getD_mem (by rw [List.length_map, Array.length_toList]; omega)
  · obtain ⟨j, hj, rfl⟩ := mem_getD ha
    rw [List.length_map, Array.length_toList] at hj
    rw [← numAt_eq]; exact h2 j (by omega)
def rMaxT (K : PySem.W.Frag) : List V → Hp → VK → Prop := fun vs H Q => ∃ (a : Addr) (ns : List Int), vs = [V.ref a] ∧ SqT K H a (ns.map V.int) ∧ 0 < ns.length ∧ ∀ m, m ∈ ns → (∀ y, y ∈ ns → y ≤ m) → Q (.int m) H
theorem cr_maxT {X : Cx} (hc : X.calm = true) : CallR X (.builtin "max") (rMaxT X.K) := by
  intro pins s σ H vs us Q I r h
  obtain ⟨a, ns, rfl, hs, hne, q⟩ := h
  obtain ⟨its, rv, hl, _⟩ := I.tuple hs
  rw [Vals.ref1 r]
  exact max_rawT (I.ok.hd hc) hl rv.ints hne fun h' tk m t' hk h1 h2 => ⟨.int _, H, I.kept hk, ⟨_, rfl⟩, q m h1 h2⟩
theorem max_intListD {prog : Program} {w : World} {A : Around} {E : Value → Shared → Prop} {s : Shared} {l : Addr} {xs : Array (Int × Tok)} {d : Value} {Q : Value → Shared → Prop} (hh : A.handled = none) (hl : s.heap.IsList l (intItems xs))
    (h0 : xs.size = 0 → ∀ h' tk, (∀ b o, s.heap.get? b = some o → h'.get? b = some o) → Q d { s with heap := h', toks := tk })
    (h : 0 < xs.size → ∀ v h' tk, (intItems xs)[argBest (fun i j => decide (numAt xs i > numAt xs j)) (xs.size - 1)]? = some v → (∀ b o, s.heap.get? b = some o → h'.get? b = some o) → Q v { s with heap := h', toks := tk }) :
    wpAny (model prog w) A (call (.builtin "max") [.ref l] [(Str.ofString "default", d)]) Q E s := by
  have hz : (intItems xs).size = xs.size := by simp [intItems]
  refine call_max_walkD (PySem.W.iter_listW (A := A.in1) hh hl fun s₂ e W st hfp hw hk => ?_)
  refine ⟨_, _, _, _, _, _, _, s.heap, (fun i j => decide (numAt xs i > numAt xs j)), rfl, W, st, hfp, hw, hk, fun hn s' m => ?_, fun hp => ⟨fun i j vi vj s3 Q3 E3 _ hi hj hQ => CmpOf.ints_gt (numAt xs) (fun _ _ => intItems_at) i j vi vj s3 Q3 E3 hi hj hQ, fun v s' hP m => ?_⟩⟩
  · obtain ⟨h', tk, rfl, hk'⟩ := PySem.W.moved_old e rfl m
    exact h0 (by omega) h' tk hk'
  · obtain ⟨h', tk, rfl, hk'⟩ := PySem.W.moved_old e rfl m
    rw [hz] at hP
    exact h (by omega) v h' tk hP hk'
theorem max_rawD {prog : Program} {w : World} {A : Around} {E : Value → Shared → Prop} {s : Shared} {l : Addr} {its : List Value} {ns : List Int} {d : Value} {Q : Value → Shared → Prop} (hh : A.handled = none) (hl : s.heap.IsList l its.toArray) (hi : IntsAre its ns)
    (h0 : ns = [] → ∀ h' tk, (∀ b o, s.heap.get? b = some o → h'.get? b = some o) → Q d { s with heap := h', toks := tk })
    (h : ∀ h' tk M t', (∀ b o, s.heap.get? b = some o → h'.get? b = some o) → M ∈ ns → (∀ a, a ∈ ns → a ≤ M) → Q (.int M t') { s with heap := h', toks := tk }) : wpAny (model prog w) A (call (.builtin "max") [.ref l] [(Str.ofString "default", d)]) Q E s := by
  obtain ⟨xs, e⟩ := hi.allInts.items
  have hn : numsOf (intItems xs).toList = ns := by rw [← e]; exact hi.numsOf
  rw [nums_intItems] at hn
  subst hn
  rw [e] at hl
  refine max_intListD hh hl (fun hz h' tk hk => h0 (by
    have : xs.toList = [] := List.length_eq_zero_iff.mp (by rw [Array.length_toList]; exact hz)
    rw [this]
    rfl) h' tk hk) fun hp v h' tk hv hk => ?_
  obtain ⟨t, rfl⟩ := intItems_at hv
  obtain ⟨h1, h2⟩ := argBest_gt (numAt xs) (xs.size - 1)
  refine h h' tk _ t hk ?_ fun a ha => ?_
  · rw [numAt_eq]; exact PySem.getD_mem (by rw [List.length_map, Array.length_toList]; omega)
  · obtain ⟨j, hj, rfl⟩ := mem_getD ha
    rw [List.length_map, Array.length_toList] at hj
    rw [← numAt_eq]; exact h2 j (by omega)
/-- one value -/
def onX (f : V → Hp → Prop) : List V → Hp → Prop := fun xs H => match xs with
  | [x] => f x H
  | _ => False
theorem onX_one {f : V → Hp → Prop} {xs : List V} {H : Hp} (h : onX f xs H) : ∃ x, xs = [x] ∧ f x H := by
  match xs, h with
  | [x], h => exact ⟨x, rfl, h⟩
/-- max(xs, default=d) -/
def rMaxD (K : PySem.W.Frag) (x d : V) (H : Hp) (Q : VK) : Prop := ∃ (a : Addr) (ns : List Int), x = V.ref a ∧ SqL K H a (ns.map V.int) ∧ (ns = [] → Q d H) ∧ ∀ m, m ∈ ns → (∀ y, y ∈ ns → y ≤ m) → Q (.int m) H
def tMaxD (K : PySem.W.Frag) (te td : TE) : TE := fun σ H Q => te σ H fun x H1 => td σ H1 fun d H2 => rMaxD K x d H2 Q
theorem pe_maxD {X : Cx} {e d : Expr} {p pos kp : Pos} {te td : TE} (hc : X.calm = true) (hg : Gl X "max") (hm : X.mg "max" = none) (he : PE X e te) (hd : PE X d td) (hst : starEach [e] X.env = [(false, eval e X.env)] := by rfl) :
    PE X (.Call (.Name "max" p) [e] [⟨some "default", d, kp⟩] pos) (tMaxD X.K te td) := by
  refine ⟨fun pins s σ H Q I h => ?_⟩
  refine wpAny_Call_Name_kw (ld_blt I hg hm (u := .builtin "max") (by decide +kernel) ?_ (by decide) (by decide))
  refine PyProof.Rows.callWith_kw ?_ (by rw [hst]; rfl) (by rw [hst]; rfl) rfl rfl
  have ha : PA X [e] (tCons te tNil) := pa_cons he pa_nil hst
  have hk : PK X [⟨some "default", d, kp⟩] (tCons td tNil) := pk_cons hd pk_nil
  refine thn (ha.run pos pins s σ H (onX fun x H1 => td σ H1 fun d H2 => rMaxD X.K x d H2 Q) I h) fun us s1 ⟨vs, H1, I1, r1, q1⟩ => ?_
  obtain ⟨x, rfl, q1⟩ := onX_one q1
  refine thn (hk.run pos pins s1 σ H1 (onX fun d H2 => rMaxD X.K x d H2 Q) I1 q1) fun ws s2 ⟨zs, H2, I2, r2, q2⟩ => ?_
  obtain ⟨z, rfl, a, ns, rfl, hs, q0, q2⟩ := onX_one q2
  rw [Vals.ref1 r1]
  cases r2 with
  | cons rz rn =>
    cases rn
    obtain ⟨its, rv, hl, _⟩ := I2.list hs
    exact max_rawD (I2.ok.hd hc) hl.isList rv.ints (fun h0 h' tk hk => ⟨z, H2, I2.kept hk, rz, q0 h0⟩) fun h' tk m t' hk h1 h2 => ⟨.int m, H2, I2.kept hk, ⟨_, rfl⟩, q2 m h1 h2⟩
end Nx

/-! Runs: many steps as one. -/
namespace Nx
open PySem PySem.Spec PyProof.Rows L2
/-- n steps lead from one state to another, none of them too large -/
def Rn (is : List Ins) (n k : Nat) (rs : List Tr) (k' : Nat) (rs' : List Tr) : Prop := ∀ m, go is (n + m) k rs = addN n (go is m k' rs')
section
variable {is : List Ins} {n m k k' k2 : Nat} {rs rs' rs2 : List Tr}
theorem Rn.refl (is : List Ins) (k : Nat) (rs : List Tr) : Rn is 0 k rs k rs := fun m => by rw [Nat.zero_add, addN_0]
theorem Rn.trans (a : Rn is n k rs k' rs') (b : Rn is m k' rs' k2 rs2) : Rn is (n + m) k rs k2 rs2 := fun j => by
  rw [Nat.add_assoc, a, b, addN_addN, Nat.add_comm m n]
theorem Rn.one {i : Ins} (h : is[k]? = some i) (g : bigS i rs = false) (e : stepAt i k rs = (k' : Int)) : Rn is 1 k rs k' (stepRs i rs) := fun m => by
  rw [Nat.add_comm 1 m, go_on h g, e]
  rfl
theorem Rn.cast (a : Rn is n k rs k' rs') (e1 : n = m) (e2 : rs' = rs2) (e3 : k' = k2) : Rn is m k rs k2 rs2 := by
  subst e1 e2 e3
  exact a
theorem Rn.go (a : Rn is n k rs k' rs') : go is n k rs = some (k', rs', n) := by
  have := a 0
  rw [Nat.add_zero] at this
  rw [this]
  show some (k', rs', 0 + n) = _
  rw [Nat.zero_add]
theorem Rn.big (a : Rn is n k rs k' rs') {i : Ins} (h : is[k']? = some i) (g : bigS i rs' = true) (m : Nat) : Nx.go is (n + (m + 1)) k rs = none := by
  rw [a, go_big h g]
  rfl
theorem go_pre : ∀ (n k : Nat) (rs : List Tr) {k' : Nat} {rs' : List Tr}, go is n k rs = some (k', rs', n) → k' < is.length → ∀ m, m ≤ n → ∃ k2 rs2, go is m k rs = some (k2, rs2, m) ∧ k2 < is.length
  | 0, k, rs, k', rs', e, hk, m, hm => by
    have : m = 0 := by omega
    subst this
    exact ⟨k', rs', e, hk⟩
  | n + 1, k, rs, k', rs', e, hk, m, hm => by
    cases hi : is[k]? with
    | none =>
      rw [go_end hi] at e
      cases e
    | some i =>
      have hk1 := (List.getElem?_eq_some_iff.mp hi).1
      cases hg : bigS i rs with
      | true =>
        rw [go_big hi hg] at e
        cases e
      | false =>
        cases m with
        | zero => exact ⟨k, rs, rfl, hk1⟩
        | succ m =>
          rw [go_on hi hg] at e
          cases e2 : go is n (stepAt i k rs).toNat (stepRs i rs) with
          | none =>
            rw [e2] at e
            cases e
          | some q =>
            rw [e2] at e
            obtain ⟨q1, q2, q3⟩ := q
            have e : some (q1, q2, q3 + 1) = some (k', rs', n + 1) := e
            cases e
            obtain ⟨k2, rs2, g1, g2⟩ := go_pre n _ _ e2 hk m (by omega)
            exact ⟨k2, rs2, by rw [go_on hi hg, g1]; rfl, g2⟩
theorem Rn.pre (a : Rn is n k rs k' rs') (hk : k' < is.length) (hm : m ≤ n) : ∃ k2 rs2, Nx.go is m k rs = some (k2, rs2, m) ∧ k2 < is.length := go_pre n k rs a.go hk m hm
end
theorem reg_set {rs : List Tr} {a : Nat} (t : Tr) (h : a < rs.length) : reg (rs.set a t) a = t := by
  unfold reg
  rw [List.getD_eq_getElem?_getD, List.getElem?_set_self h]
  rfl
theorem reg_ne {rs : List Tr} {a b : Nat} (t : Tr) (h : a ≠ b) : reg (rs.set a t) b = reg rs b := by
  unfold reg
  rw [List.getD_eq_getElem?_getD, List.getElem?_set_ne h, ← List.getD_eq_getElem?_getD]
/-! ### what is_program finds -/
theorem Ins.ok_of {k n j : Nat} {i : Ins} (h : Nx.rowD i.data j n = true) (hb : i.big ≤ 2 * k + 1) : i.ok 20 k j n := by
  rw [i.data_eq, rowD_is (shapes_at i), i.shape_kinds, Bool.and_eq_true] at h
  obtain ⟨_, h⟩ := h
  have r : ∀ a : Nat, fitsD 114 (.int a) j n = true → a < 20 := fun a ha => by
    have ha : (decide (0 ≤ (a : Int)) && decide ((a : Int) < 20)) = true := ha
    rw [Bool.and_eq_true] at ha
    have := of_decide_eq_true ha.2
    omega
  cases i with
  | set a t =>
    have h : (fitsD 114 (.int a) j n && (fitsD 116 (.str t.str) j n && true)) = true := h
    rw [Bool.and_eq_true] at h
    have hb : t.sg.length ≤ 2 * k + 1 := hb
    have := t.sg_len
    exact ⟨r a h.1, by omega⟩
  | move a b =>
    have h : (fitsD 114 (.int a) j n && (fitsD 114 (.int b) j n && true)) = true := h
    rw [Bool.and_eq_true, Bool.and_eq_true] at h
    exact ⟨r a h.1, r b h.2.1⟩
  | cons a b c =>
    have h : (fitsD 114 (.int a) j n && (fitsD 114 (.int b) j n && (fitsD 114 (.int c) j n && true))) = true := h
    rw [Bool.and_eq_true, Bool.and_eq_true, Bool.and_eq_true] at h
    exact ⟨r a h.1, r b h.2.1, r c h.2.2.1⟩
  | head a b =>
    have h : (fitsD 114 (.int a) j n && (fitsD 114 (.int b) j n && true)) = true := h
    rw [Bool.and_eq_true, Bool.and_eq_true] at h
    exact ⟨r a h.1, r b h.2.1⟩
  | tail a b =>
    have h : (fitsD 114 (.int a) j n && (fitsD 114 (.int b) j n && true)) = true := h
    rw [Bool.and_eq_true, Bool.and_eq_true] at h
    exact ⟨r a h.1, r b h.2.1⟩
  | jump a m =>
    have h : (fitsD 114 (.int a) j n && ((decide (0 ≤ (j : Int) + m) && decide ((j : Int) + m ≤ n)) && true)) = true := h
    rw [Bool.and_true, Bool.and_eq_true, Bool.and_eq_true] at h
    exact ⟨r a h.1, of_decide_eq_true h.2.1, of_decide_eq_true h.2.2⟩
theorem progOk_ok {is : List Ins} (h : progOk (progD is) = true) : PgOk 20 100000 is ∧ is.length ≤ 600 ∧ treesSum is ≤ 200000 := by
  have h : (decide ((is.map Ins.data).length ≤ 600) && (rowsD (is.map Ins.data).length 0 (is.map Ins.data) && (decide ((((is.map Ins.data).filterMap treeD).map Str.length).sum ≤ 200000) && ((is.map Ins.data).filterMap treeD).all fun t => isT t.cps.toList))) = true := h
  rw [fm_trees, List.length_map, Bool.and_eq_true, Bool.and_eq_true, Bool.and_eq_true] at h
  obtain ⟨h1, h2, h3, _⟩ := h
  have e3 : (((is.filterMap Ins.tree).map Tr.str).map Str.length).sum = treesSum is := by
    unfold treesSum
    rw [List.map_map]
    rfl
  rw [e3] at h3
  have h3 := of_decide_eq_true h3
  refine ⟨fun j i hi => ?_, of_decide_eq_true h1, h3⟩
  have hb : i.big ≤ treesSum is := by
    rw [treesSum_big]
    exact le_sum _ (List.mem_map.mpr ⟨i, List.mem_of_getElem? hi, rfl⟩)
  have hr := (rowsD_iff _ _ _).mp h2 j i.data (by rw [List.getElem?_map, hi]; rfl)
  rw [Int.zero_add] at hr
  exact Ins.ok_of hr (by omega)
theorem PgAt.cat {H : Hp} {p q : Addr} {is js : List Ins} (h1 : PgAt H p is) (h2 : PgAt H q js) : ∃ xs ys : List V, H p = some (.lst xs) ∧ H q = some (.lst ys) ∧ xs.length = is.length ∧ ys.length = js.length ∧ ∀ r, H r = none → PgAt (upd H r (.lst (xs ++ ys))) r (is ++ js) := by
  obtain ⟨as, a1, a2⟩ := h1
  obtain ⟨bs, b1, b2⟩ := h2
  refine ⟨_, _, a1, b1, by rw [List.length_map, Paired.len a2], by rw [List.length_map, Paired.len b2], fun r n => ⟨as ++ bs, by rw [upd_same, List.map_append], Rows.same (Same.upd n) (Paired.app a2 b2)⟩⟩
theorem PgAt.one {H : Hp} {T p : Addr} {i : Ins} (n : upd H T (.tup i.vs) p = none) : PgAt (upd (upd H T (.tup i.vs)) p (.lst [.ref T])) p [i] :=
  ⟨[T], upd_same, .cons (Same.upd n _ _ upd_same) .nil⟩
theorem PgAt.rep {H : Hp} {p : Addr} {i : Ins} (h : PgAt H p [i]) : ∃ T, H p = some (.lst [.ref T]) ∧ ∀ (n : Nat) (r : Addr), H r = none → PgAt (upd H r (.lst (List.replicate n [V.ref T]).flatten)) r (List.replicate n i) := by
  obtain ⟨as, a1, a2⟩ := h
  cases a2 with
  | cons r t =>
    cases t with
    | nil => exact ⟨_, a1, fun n q nq => ⟨List.replicate n _, by rw [upd_same, rep_ref], rows_rep (Same.upd nq _ _ r) n⟩⟩
theorem rs0_len (x : Tr) : (rs0 x).length = 20 := rfl
theorem rs0_0 (x : Tr) : reg (rs0 x) 0 = x := rfl
end Nx

/-! Programs out of programs. -/
namespace Nx
open PySem PySem.Spec PyProof.Rows L2
/-- a value that is a program -/
def PgV (H : Hp) (v : V) (is : List Ins) : Prop := ∃ p, v = .ref p ∧ PgAt H p is
abbrev PgVs (H : Hp) (vs : List V) (iss : List (List Ins)) : Prop := Paired (PgV H) vs iss
/-- a list of programs -/
def PgsAt (H : Hp) (D : Addr) (iss : List (List Ins)) : Prop := ∃ vs, H D = some (.lst vs) ∧ PgVs H vs iss
theorem PgV.same {H H' : Hp} {v : V} {is : List Ins} (h : PgV H v is) (e : Same H H') : PgV H' v is := by
  obtain ⟨p, h1, h2⟩ := h
  exact ⟨p, h1, h2.same e⟩
theorem PgVs.same {H H' : Hp} {vs : List V} {iss : List (List Ins)} (h : PgVs H vs iss) (e : Same H H') : PgVs H' vs iss := Paired.imp (fun v is q => q.same e) h
theorem PgsAt.same {H H' : Hp} {D : Addr} {iss : List (List Ins)} (h : PgsAt H D iss) (e : Same H H') : PgsAt H' D iss := by
  obtain ⟨vs, h1, h2⟩ := h
  exact ⟨vs, e _ _ h1, PgVs.same h2 e⟩
def progsD (iss : List (List Ins)) : PyData := .list (iss.map progD)
theorem pgvs_dp {K : PySem.W.Frag} {H : Hp} : ∀ {vs : List V} {iss : List (List Ins)}, PgVs H vs iss → DpAll K H vs (iss.map progD)
  | _, _, .nil => .nil
  | _, _, .cons ⟨p, e, h⟩ t => e ▸ .cons h.dp (pgvs_dp t)
theorem PgsAt.dp {K : PySem.W.Frag} {H : Hp} {D : Addr} {iss : List (List Ins)} (h : PgsAt H D iss) : Dp K H (.ref D) (progsD iss) := by
  obtain ⟨vs, h1, h2⟩ := h
  exact .lst (SqL.of h1) (pgvs_dp h2)
theorem progD_deep (is : List Ins) : (progD is).depth ≤ 2 := by
  show PyData.depthAll (is.map Ins.data) + 1 ≤ 2
  have := prog_deep is
  omega
theorem progs_lay : ∀ iss : List (List Ins), PyData.canLayAll0 (iss.map progD) = true
  | [] => rfl
  | is :: r => by
    show (PyData.canLayAll0 (is.map Ins.data) && PyData.canLayAll0 (r.map progD)) = true
    rw [prog_lay, progs_lay r]
    rfl
theorem progs_deep : ∀ iss : List (List Ins), PyData.depthAll (iss.map progD) ≤ 2
  | [] => by decide
  | is :: r => by
    show max (progD is).depth (PyData.depthAll (r.map progD)) ≤ 2
    have h1 := progs_deep r
    have h2 := progD_deep is
    omega
theorem progsD_shaped (iss : List (List Ins)) : SeqAt.shaped (progsD iss) = true := by
  show (PyData.canLayAll0 (iss.map progD) && decide (PyData.depthAll (iss.map progD) + 1 ≤ 64)) = true
  have := progs_deep iss
  rw [progs_lay, decide_eq_true (by omega)]
  rfl
/-! ### a heap without one address -/
theorem PgAt.offD {H : Hp} {p D : Addr} {is : List Ins} {xs : List V} (h : PgAt H p is) (n : p ≠ D) (hD : H D = some (.lst xs)) : PgAt (off D H) p is := by
  obtain ⟨as, h1, h2⟩ := h
  refine ⟨as, (off_at n).trans h1, Paired.imp (fun a i q => (off_at (fun z => ?_)).trans q) h2⟩
  rw [z, hD] at q
  cases q
theorem off_new2 {D : Addr} {H : Hp} (h : H D = none) : Same H (off D H) := same_off h
/-- a comprehension whose elements are programs that are drawn -/
theorem lc_progs {n : Nat} {te : TE} {vs : List Nat} {j : Nat} {σ : L2.St} {H1 : Hp} {D : Addr} {Qd : Hp → Prop} {st : Addr} (P : List Ins → Prop) (hD : H1 D = none) (s1 : Strm H1 st) (hn : n < sizeLine)
    (hw : ∀ x, wipe ((wipe σ vs).set j (some x)) vs = wipe σ vs)
    (he : ∀ (i : Nat) H', i < n → Strm H' st → ∀ Q : VK, (∀ p is H2, H' p = none → PgAt H2 p is → P is → ExS st H' H2 → Strm H2 st → Q (.ref p) H2) → te ((wipe σ vs).set j (some (.int i))) H' Q)
    (hd : ∀ iss H', iss.length = n → (∀ is ∈ iss, P is) → ExS st H1 H' → Strm H' st → PgsAt H' D iss → Qd H') :
    ∃ W : Nat → Nat → Hp → Prop, (∃ m, W 0 m (upd H1 D (.lst []))) ∧ ∀ i m H, W i m H →
      ((Itr 0 n).stop i H ∧ Qd H) ∨ ((Itr 0 n).go i H ∧ ∃ Nx : Hp → Prop, (∀ H', Nx H' → ∃ m', m' < m ∧ W (i + 1) m' H') ∧ ∀ x H', (Itr 0 n).yld i H x H' → (gName j) x (wipe σ vs) H' fun σ2 H2 => wipe σ2 vs = wipe σ vs ∧ tYes σ2 H2 fun b H3 =>
        if b = true then te σ2 H3 fun y H4 => ∃ acc, H4 D = some (.lst acc) ∧ acc.length < sizeLine ∧ Nx (upd H4 D (.lst (acc ++ [y]))) else Nx H3) := by
  have nD : D ≠ st := s1.ne hD
  refine lc_range (lo := 0) (n := n) (fun i H' => ∃ (ys : List V) (iss : List (List Ins)), iss.length = i ∧ (∀ is ∈ iss, P is) ∧ PgVs (off D H') ys iss ∧ ExS st H1 H' ∧ Strm H' st ∧ H' D = some (.lst ys)) ⟨[], [], rfl, fun _ h => (by cases h), .nil, .off nD hD .refl, s1.off hD .refl s1, upd_same⟩ (fun i H' hi p => ?_) (fun H' p => ?_)
  · obtain ⟨ys, iss, e1, e2, e3, e4, e5, e6⟩ := p
    have el := Paired.len e3
    refine ⟨hw _, ?_⟩
    simp only [tYes, ↓reduceIte]
    have e0 : (0 : Int) + (i : Int) = (i : Int) := Int.zero_add _
    show te ((wipe σ vs).set j (some (.int ((0 : Int) + (i : Int))))) H' _
    rw [e0]
    refine he i H' hi e5 _ fun p is H2 np hp hP ex st2 => ⟨ys, ex _ _ nD e6, by omega, ys ++ [.ref p], iss ++ [is], by rw [List.length_append, e1]; rfl, fun z hz => ?_, ?_, .off nD hD (e4.trans ex), s1.off hD (e4.trans ex) st2, upd_same⟩
    · rcases List.mem_append.mp hz with q | q
      · exact e2 z q
      · rw [List.mem_singleton.mp q]
        exact hP
    · rw [off_upd]
      have npD : p ≠ D := fun z => by rw [z, e6] at np; cases np
      refine Paired.app (Paired.imp (fun v is h => ?_) e3) (.cons ⟨p, rfl, hp.offD npD (ex _ _ nD e6)⟩ .nil)
      obtain ⟨q, rfl, as, h1, h2⟩ := h
      have stO : st ≠ D := nD.symm
      have hne : ∀ (a : Addr) (o : HO), off D H' a = some o → (∀ l r, o ≠ .lst (.ref l :: r) ∨ a ≠ st) → True := fun _ _ _ _ => trivial
      have exO : ExS st (off D H') (off D H2) := ⟨fun a o na h => by
        by_cases c : a = D
        · subst c
          unfold off at h
          rw [if_pos rfl] at h
          cases h
        · rw [off_at c] at h ⊢
          exact ex a o na h, fun l r h => by
        rw [off_at stO] at h
        obtain ⟨r', h'⟩ := ex.hd l r h
        exact ⟨r', by rw [off_at stO]; exact h'⟩⟩
      have stOff : Strm (off D H') st := by
        obtain ⟨l, ns, c, i, m, g1, g2, g3⟩ := e5
        refine ⟨l, ns, c, i, m, by rw [off_at stO]; exact g1, ?_, g3⟩
        by_cases c1 : l = D
        · exfalso
          obtain ⟨l1, ns1, c1', i1, m1, k1, k2, _⟩ := s1
          obtain ⟨r', hr⟩ := e4.hd l1 _ k1
          rw [g1] at hr
          have hl : l = l1 := V.ref.inj (List.cons.inj (HO.lst.inj (Option.some.inj hr))).1
          rw [← hl, c1, hD] at k2
          cases k2
        · rw [off_at c1]
          exact g2
      have hq : q ≠ st := fun z => by
        obtain ⟨l, ns, c, i, m, g1, g2, g3⟩ := stOff
        rw [z, g1] at h1
        have h4 := HO.lst.inj (Option.some.inj h1)
        cases as with
        | nil => cases h4
        | cons b r =>
          cases r with
          | nil => cases (List.cons.inj h4).2
          | cons b2 r2 => cases (List.cons.inj (List.cons.inj h4).2).1
      exact ⟨q, rfl, PgAt.exs ⟨as, h1, h2⟩ stOff hq exO⟩
  · obtain ⟨ys, iss, e1, e2, e3, e4, e5, e6⟩ := p
    exact hd iss H' e1 e2 e4 e5 ⟨ys, e6, PgVs.same e3 off_same⟩
/-- a comprehension that copies programs -/
theorem lc_copies {K : PySem.W.Frag} {a : Addr} {xs : List V} {iss : List (List Ins)} {te : TE} {vs : List Nat} {j : Nat} {σ : L2.St} {H1 : Hp} {D : Addr} {Qd : Hp → Prop} (hD : H1 D = none) (hs : SqL K H1 a xs) (hr : PgVs H1 xs iss) (hz : xs.length < sizeLine)
    (hw : ∀ x, wipe ((wipe σ vs).set j (some x)) vs = wipe σ vs) (he : ∀ (p : Addr) (is : List Ins) (H' : Hp), is ∈ iss → PgAt H1 p is → Same H1 H' → ∀ Q : VK, (∀ q H2, Same H' H2 → H' q = none → PgAt H2 q is → Q (.ref q) H2) → te ((wipe σ vs).set j (some (.ref p))) H' Q)
    (hd : ∀ H', Same H1 H' → PgsAt H' D iss → Qd H') :
    ∃ W : Nat → Nat → Hp → Prop, (∃ m, W 0 m (upd H1 D (.lst []))) ∧ ∀ i m H, W i m H →
      ((Itl K a).stop i H ∧ Qd H) ∨ ((Itl K a).go i H ∧ ∃ Nx : Hp → Prop, (∀ H', Nx H' → ∃ m', m' < m ∧ W (i + 1) m' H') ∧ ∀ x H', (Itl K a).yld i H x H' → (gName j) x (wipe σ vs) H' fun σ2 H2 => wipe σ2 vs = wipe σ vs ∧ tYes σ2 H2 fun b H3 =>
        if b = true then te σ2 H3 fun y H4 => ∃ acc, H4 D = some (.lst acc) ∧ acc.length < sizeLine ∧ Nx (upd H4 D (.lst (acc ++ [y]))) else Nx H3) := by
  have hu : ∀ {H' : Hp} {o : HO}, Same H1 H' → Same H1 (upd H' D o) := fun {H' o} e b x q => by
    rw [upd_ne (ne_of_none q hD)]
    exact e b x q
  have hlen := Paired.len hr
  refine lc_list (xs := xs) (fun i H' => Same H1 H' ∧ ∃ ys : List V, H' D = some (.lst ys) ∧ PgVs (off D H') ys (iss.take i)) ⟨hu (.refl _), [], upd_same, .nil⟩ (fun i H' _ p => p.1.seq hs) (fun i x H' hi p => ?_) (fun H' p => ?_)
  · obtain ⟨sm, ys, hD', hr'⟩ := p
    obtain ⟨is, hij⟩ : ∃ is, iss[i]? = some is := ⟨_, List.getElem?_eq_getElem (by have := (List.getElem?_eq_some_iff.mp hi).1; omega)⟩
    obtain ⟨x2, h1, p, rfl, hp⟩ := Paired.get hr hij
    rw [hi] at h1
    cases h1
    refine ⟨hw _, ?_⟩
    simp only [tYes, ↓reduceIte]
    refine he p is H' (List.mem_of_getElem? hij) hp sm _ fun q H2 s2 nq hq => ⟨ys, s2 _ _ hD', ?_, hu (sm.trans s2), ys ++ [.ref q], by rw [upd_same], ?_⟩
    · have := Paired.len hr'
      rw [List.length_take] at this
      have := (List.getElem?_eq_some_iff.mp hi).1
      omega
    · rw [off_upd, List.take_add_one, hij]
      have nqD : q ≠ D := fun z => by rw [z, hD'] at nq; cases nq
      exact Paired.app (Paired.imp (fun v js h => h.same s2.offS) hr') (.cons ⟨q, rfl, hq.offD nqD (s2 _ _ hD')⟩ .nil)
  · obtain ⟨sm, ys, hD', hr'⟩ := p
    rw [hlen, List.take_length] at hr'
    exact hd H' sm ⟨ys, hD', PgVs.same hr' off_same⟩
/-- a comprehension over a list, value by value -/
theorem lc_ix {K : PySem.W.Frag} {a : Addr} {xs ys : List V} {te : TE} {vs : List Nat} {j : Nat} {σ : L2.St} {H1 : Hp} {D : Addr} {Qd : Hp → Prop} (hl : xs.length = ys.length) (hD : H1 D = none) (hs : SqL K H1 a xs) (hz : xs.length < sizeLine)
    (hw : ∀ x, wipe ((wipe σ vs).set j (some x)) vs = wipe σ vs) (he : ∀ (i : Nat) (x y : V) (H' : Hp), xs[i]? = some x → ys[i]? = some y → Same H1 H' → ∀ Q : VK, (∀ H2, Same H' H2 → Q y H2) → te ((wipe σ vs).set j (some x)) H' Q)
    (hd : ∀ H', Same H1 H' → H' D = some (.lst ys) → Qd H') :
    ∃ W : Nat → Nat → Hp → Prop, (∃ m, W 0 m (upd H1 D (.lst []))) ∧ ∀ i m H, W i m H →
      ((Itl K a).stop i H ∧ Qd H) ∨ ((Itl K a).go i H ∧ ∃ Nx : Hp → Prop, (∀ H', Nx H' → ∃ m', m' < m ∧ W (i + 1) m' H') ∧ ∀ x H', (Itl K a).yld i H x H' → (gName j) x (wipe σ vs) H' fun σ2 H2 => wipe σ2 vs = wipe σ vs ∧ tYes σ2 H2 fun b H3 =>
        if b = true then te σ2 H3 fun y H4 => ∃ acc, H4 D = some (.lst acc) ∧ acc.length < sizeLine ∧ Nx (upd H4 D (.lst (acc ++ [y]))) else Nx H3) := by
  have hu : ∀ {H' : Hp} {o : HO}, Same H1 H' → Same H1 (upd H' D o) := fun {H' o} e b x q => by
    rw [upd_ne (ne_of_none q hD)]
    exact e b x q
  refine lc_list (xs := xs) (fun i H' => Same H1 H' ∧ H' D = some (.lst (ys.take i))) ⟨hu (.refl _), upd_same⟩ (fun i H' _ p => p.1.seq hs) (fun i x H' hi p => ?_) (fun H' p => ?_)
  · have hil : i < ys.length := by
      have := (List.getElem?_eq_some_iff.mp hi).1
      omega
    have hy := List.getElem?_eq_getElem hil
    refine ⟨hw x, ?_⟩
    simp only [tYes, ↓reduceIte]
    refine he i x _ H' hi hy p.1 _ fun H2 e2 => ⟨_, e2 _ _ p.2, ?_, hu (p.1.trans e2), ?_⟩
    · rw [List.length_take]
      omega
    · rw [upd_same, List.take_add_one, hy]
      rfl
  · have e := p.2
    rw [hl, List.take_length] at e
    exact hd H' p.1 e
/-- a comprehension over a range whose elements are instructions -/
theorem lc_rows {lo : Int} {n : Nat} {te : TE} {vs : List Nat} {j : Nat} {σ : L2.St} {H1 : Hp} {D : Addr} {Qd : Hp → Prop} (f : Nat → Ins) (hD : H1 D = none) (hn : n < sizeLine)
    (hw : ∀ x, wipe ((wipe σ vs).set j (some x)) vs = wipe σ vs)
    (he : ∀ (i : Nat) H', i < n → Same H1 H' → ∀ Q : VK, (∀ T H2, Same H' H2 → H2 T = some (.tup (f i).vs) → Q (.ref T) H2) → te ((wipe σ vs).set j (some (.int (lo + i)))) H' Q)
    (hd : ∀ H', Same H1 H' → PgAt H' D ((List.range n).map f) → Qd H') :
    ∃ W : Nat → Nat → Hp → Prop, (∃ m, W 0 m (upd H1 D (.lst []))) ∧ ∀ i m H, W i m H →
      ((Itr lo n).stop i H ∧ Qd H) ∨ ((Itr lo n).go i H ∧ ∃ Nx : Hp → Prop, (∀ H', Nx H' → ∃ m', m' < m ∧ W (i + 1) m' H') ∧ ∀ x H', (Itr lo n).yld i H x H' → (gName j) x (wipe σ vs) H' fun σ2 H2 => wipe σ2 vs = wipe σ vs ∧ tYes σ2 H2 fun b H3 =>
        if b = true then te σ2 H3 fun y H4 => ∃ acc, H4 D = some (.lst acc) ∧ acc.length < sizeLine ∧ Nx (upd H4 D (.lst (acc ++ [y]))) else Nx H3) := by
  have hu : ∀ {H' : Hp} {o : HO}, Same H1 H' → Same H1 (upd H' D o) := fun {H' o} e b x q => by
    rw [upd_ne (ne_of_none q hD)]
    exact e b x q
  refine lc_range (lo := lo) (n := n) (fun i H' => Same H1 H' ∧ ∃ as : List Addr, H' D = some (.lst (as.map V.ref)) ∧ Rows H' as ((List.range i).map f)) ⟨hu (.refl _), [], upd_same, .nil⟩ (fun i H' hi p => ?_) (fun H' p => ?_)
  · obtain ⟨sm, as, hD', hr⟩ := p
    refine ⟨hw _, ?_⟩
    simp only [tYes, ↓reduceIte]
    refine he i H' hi sm _ fun T H2 s2 hT => ⟨_, s2 _ _ hD', ?_, hu (sm.trans s2), as ++ [T], by rw [upd_same, List.map_append]; rfl, ?_⟩
    · have := Paired.len hr
      rw [List.length_map, List.length_range] at this
      rw [List.length_map]
      omega
    · rw [List.range_succ, List.map_append]
      have hD2 := s2 _ _ hD'
      refine Paired.app (Paired.imp (fun a i q => ?_) (Rows.same s2 hr)) (.cons ?_ .nil)
      · exact (upd_ne (fun z => by rw [z, hD2] at q; cases q)).trans q
      · exact (upd_ne (fun z => by rw [z, hD2] at hT; cases hT)).trans hT
  · obtain ⟨sm, as, h1, h2⟩ := p
    exact hd H' sm ⟨as, h1, h2⟩
/-! ### the mathematics -/
/-- the cleaning of a program of this width -/
def cln (w : Nat) : List Ins := (List.range (w - 1)).map fun k => .set (k + 1) .leaf
theorem cln_len (w : Nat) : (cln w).length = w - 1 := by
  unfold cln
  rw [List.length_map, List.length_range]
def gw (iss : List (List Ins)) : Nat := (iss.map wid).foldl max 1
def chainP : List (List Ins) → List Ins
  | [] => []
  | p :: r => p ++ (r.flatMap fun q => cln (wid q) ++ q)
/-- what within_limits lets pass -/
def Fits (is : List Ins) : Prop := is.length ≤ 600 ∧ treesSum is ≤ 200000
theorem foldl_max_le {m : Nat} : ∀ (l : List Nat) (g : Nat), l.foldl max g ≤ m ↔ g ≤ m ∧ ∀ x ∈ l, x ≤ m
  | [], g => by simp
  | x :: l, g => by
    rw [List.foldl_cons, foldl_max_le l (max g x)]
    constructor
    · rintro ⟨h1, h2⟩
      refine ⟨by omega, fun y hy => ?_⟩
      rcases List.mem_cons.mp hy with rfl | hy
      · omega
      · exact h2 y hy
    · rintro ⟨h1, h2⟩
      have := h2 x (List.mem_cons_self ..)
      exact ⟨by omega, fun y hy => h2 y (List.mem_cons_of_mem _ hy)⟩
theorem foldl_max_mem : ∀ (l : List Nat) (g : Nat), l.foldl max g = g ∨ l.foldl max g ∈ l
  | [], g => .inl rfl
  | x :: l, g => by
    rw [List.foldl_cons]
    rcases foldl_max_mem l (max g x) with h | h
    · rw [h]
      rcases Nat.le_total g x with c | c
      · rw [Nat.max_eq_right c]
        exact .inr (List.mem_cons_self ..)
      · rw [Nat.max_eq_left c]
        exact .inl rfl
    · exact .inr (List.mem_cons_of_mem _ h)
theorem wid_pos (is : List Ins) : 1 ≤ wid is := Nat.succ_le_succ (Nat.zero_le _)
theorem gw_le {m : Nat} {iss : List (List Ins)} (hm : 1 ≤ m) : gw iss ≤ m ↔ ∀ is ∈ iss, wid is ≤ m := by
  unfold gw
  rw [foldl_max_le]
  constructor
  · rintro ⟨_, h⟩ is hi
    exact h _ (List.mem_map.mpr ⟨is, hi, rfl⟩)
  · intro h
    refine ⟨hm, fun x hx => ?_⟩
    obtain ⟨is, hi, rfl⟩ := List.mem_map.mp hx
    exact h is hi
/-- the greatest of the widths, as max finds it -/
theorem gw_is {iss : List (List Ins)} {m : Int} (h1 : m ∈ iss.map fun is => ((wid is : Nat) : Int)) (h2 : ∀ y ∈ iss.map fun is => ((wid is : Nat) : Int), y ≤ m) : m = (gw iss : Nat) := by
  obtain ⟨is, hi, rfl⟩ := List.mem_map.mp h1
  have h3 : ∀ js ∈ iss, wid js ≤ wid is := fun js hj => by
    have := h2 _ (List.mem_map.mpr ⟨js, hj, rfl⟩)
    omega
  have h4 : gw iss ≤ wid is := (gw_le (wid_pos is)).mpr h3
  have h5 := (gw_le (m := gw iss) (by
    rcases Nat.lt_or_ge (gw iss) 1 with c | c
    · have : gw iss ≤ gw iss := Nat.le_refl _
      unfold gw at this c
      have := ((foldl_max_le _ _).mp this).1
      omega
    · exact c)).mp (Nat.le_refl _) is hi
  omega
theorem gst_le {m : Nat} {is : List Ins} : wid is ≤ m + 1 ↔ ∀ i ∈ is, ∀ r ∈ i.regs, r ≤ m := by
  unfold wid gst
  rw [Nat.succ_le_succ_iff, foldl_max_le]
  constructor
  · rintro ⟨_, h⟩ i hi r hr
    exact h r (List.mem_flatMap.mpr ⟨i, hi, hr⟩)
  · intro h
    refine ⟨Nat.zero_le _, fun r hr => ?_⟩
    obtain ⟨i, hi, hr⟩ := List.mem_flatMap.mp hr
    exact h i hi r hr
theorem wid_below {n : Nat} {is : List Ins} (hn : 0 < n) : wid is ≤ n ↔ ∀ i ∈ is, i.below n := by
  obtain ⟨m, rfl⟩ : ∃ m, n = m + 1 := ⟨n - 1, by omega⟩
  rw [gst_le]
  exact ⟨fun h i hi r hr => Nat.lt_succ_of_le (h i hi r hr), fun h i hi r hr => Nat.le_of_lt_succ (h i hi r hr)⟩
theorem treesSum_app (a b : List Ins) : treesSum (a ++ b) = treesSum a + treesSum b := by
  rw [treesSum_big, treesSum_big, treesSum_big, List.map_append, List.sum_append]
theorem chainP_snoc (l : List (List Ins)) (q : List Ins) : chainP (l ++ [q]) = if l = [] then q else chainP l ++ (cln (wid q) ++ q) := by
  cases l with
  | nil =>
    rw [if_pos rfl]
    show q ++ [] = q
    rw [List.append_nil]
  | cons p r =>
    rw [if_neg (by intro z; cases z)]
    show p ++ ((r ++ [q]).flatMap fun q => cln (wid q) ++ q) = (p ++ r.flatMap fun q => cln (wid q) ++ q) ++ (cln (wid q) ++ q)
    rw [List.flatMap_append, List.append_assoc]
    congr 2
    show (cln (wid q) ++ q) ++ [] = _
    rw [List.append_nil]
theorem chainP_take {l : List (List Ins)} {j : Nat} {q : List Ins} (h : l[j]? = some q) : chainP (l.take (j + 1)) = if j = 0 then q else chainP (l.take j) ++ (cln (wid q) ++ q) := by
  rw [List.take_add_one, h]
  show chainP (l.take j ++ [q]) = _
  rw [chainP_snoc]
  have hl := (List.getElem?_eq_some_iff.mp h).1
  by_cases c : j = 0
  · subst c
    rfl
  · rw [if_neg c, if_neg]
    intro z
    have := congrArg List.length z
    rw [List.length_take] at this
    have h0 : ([] : List (List Ins)).length = 0 := rfl
    omega
theorem chainP_le (l : List (List Ins)) : ∀ (n j : Nat), l.length - j = n → j ≤ l.length → (chainP (l.take j)).length ≤ (chainP l).length
  | 0, j, h, hj => by
    rw [List.take_of_length_le (by omega)]
    exact Nat.le_refl _
  | n + 1, j, h, hj => by
    have hl : j < l.length := by omega
    refine Nat.le_trans ?_ (chainP_le l n (j + 1) (by omega) (by omega))
    rw [chainP_take (List.getElem?_eq_getElem hl)]
    by_cases c : j = 0
    · subst c
      rw [if_pos rfl]
      exact Nat.zero_le _
    · rw [if_neg c, List.length_append]
      omega
theorem chainP_take_le (l : List (List Ins)) {j : Nat} (hj : j ≤ l.length) : (chainP (l.take j)).length ≤ (chainP l).length := chainP_le l _ j rfl hj
theorem cln_mem {w : Nat} {i : Ins} (h : i ∈ cln w) : ∃ k, k < w - 1 ∧ i = .set (k + 1) .leaf := by
  obtain ⟨k, h1, h2⟩ := List.mem_map.mp h
  exact ⟨k, List.mem_range.mp h1, h2.symm⟩
theorem chainP_mem {l : List (List Ins)} {i : Ins} (h : i ∈ chainP l) : (∃ is ∈ l, i ∈ is) ∨ ∃ is ∈ l, i ∈ cln (wid is) := by
  cases l with
  | nil => cases h
  | cons p r =>
    rcases List.mem_append.mp h with h | h
    · exact .inl ⟨p, List.mem_cons_self .., h⟩
    · obtain ⟨q, hq, h⟩ := List.mem_flatMap.mp h
      rcases List.mem_append.mp h with h | h
      · exact .inr ⟨q, List.mem_cons_of_mem _ hq, h⟩
      · exact .inl ⟨q, List.mem_cons_of_mem _ hq, h⟩
theorem cln_big {w : Nat} {i : Ins} (h : i ∈ cln w) : i.big = 1 := by
  obtain ⟨k, _, rfl⟩ := cln_mem h
  rfl
/-- what stood before a new list was made stands when that list is changed -/
theorem _root_.L2.Same.but_new {H0 H H' : Hp} {g : Addr} (s : Same H0 H) (n : H0 g = none) (e : But g H H') : Same H0 H' := fun a o h => e a o (ne_of_none h n) (s a o h)
theorem But.upd {g : Addr} {H : Hp} {o : HO} : But g H (upd H g o) := fun b x n h => (upd_ne n).trans h
theorem same_new {H H' : Hp} {a : Addr} (s : Same H H') (n : H' a = none) : H a = none := by
  cases c : H a with
  | none => rfl
  | some o =>
    have := s _ _ c
    rw [n] at this
    cases this
theorem PgOk.app {w k : Nat} {a b : List Ins} (ha : PgOk w k a) (hb : PgOk w k b) : PgOk w k (a ++ b) := fun i x h => by
  rw [List.length_append]
  by_cases c : i < a.length
  · rw [List.getElem?_append_left c] at h
    have := ha i x h
    cases x with
    | jump r m => exact ⟨this.1, this.2.1, by have := this.2.2; omega⟩
    | _ => exact this
  · rw [List.getElem?_append_right (by omega)] at h
    have h1 := hb _ x h
    cases x with
    | jump r m => exact ⟨h1.1, by have := h1.2.1; omega, by have := h1.2.2; omega⟩
    | _ => exact h1
theorem PgOk.nil {w k : Nat} : PgOk w k [] := fun i x h => by simp at h
theorem PgOk.wide {w v k : Nat} {is : List Ins} (h : PgOk w k is) (hw : w ≤ v) : PgOk v k is := fun j x hx => by
  have h := h j x hx
  cases x with
  | set a t => exact ⟨Nat.lt_of_lt_of_le h.1 hw, h.2⟩
  | move a b => exact ⟨Nat.lt_of_lt_of_le h.1 hw, Nat.lt_of_lt_of_le h.2 hw⟩
  | head a b => exact ⟨Nat.lt_of_lt_of_le h.1 hw, Nat.lt_of_lt_of_le h.2 hw⟩
  | tail a b => exact ⟨Nat.lt_of_lt_of_le h.1 hw, Nat.lt_of_lt_of_le h.2 hw⟩
  | cons a b c => exact ⟨Nat.lt_of_lt_of_le h.1 hw, Nat.lt_of_lt_of_le h.2.1 hw, Nat.lt_of_lt_of_le h.2.2 hw⟩
  | jump a m => exact ⟨Nat.lt_of_lt_of_le h.1 hw, h.2⟩
theorem PgOk.wid {w k : Nat} {is : List Ins} (h : PgOk w k is) (hw : 0 < w) : Nx.wid is ≤ w := (wid_below hw).mpr fun i hi => by
  obtain ⟨j, hj⟩ := List.getElem?_of_mem hi
  exact Ins.ok_below (h j i hj)
theorem cln_ok {w v k : Nat} (hw : w ≤ v) : PgOk v k (cln w) := fun j x h => by
  obtain ⟨m, hm, rfl⟩ := cln_mem (List.mem_of_getElem? h)
  exact ⟨by omega, Nat.zero_le _⟩
theorem chainP_ok {w k : Nat} {iss : List (List Ins)} (h : ∀ is ∈ iss, PgOk w k is) (hw : 0 < w) : PgOk w k (chainP iss) := by
  have key : ∀ r : List (List Ins), (∀ is ∈ r, PgOk w k is) → PgOk w k (r.flatMap fun q => cln (Nx.wid q) ++ q) := fun r => by
    induction r with
    | nil => exact fun _ => PgOk.nil
    | cons q r ih =>
      intro hr
      rw [List.flatMap_cons]
      have hq := hr q (List.mem_cons_self ..)
      exact ((cln_ok (hq.wid hw)).app hq).app (ih fun is hi => hr is (List.mem_cons_of_mem _ hi))
  cases iss with
  | nil => exact PgOk.nil
  | cons p r => exact (h p (List.mem_cons_self ..)).app (key r fun is hi => h is (List.mem_cons_of_mem _ hi))
theorem chainP_bound {a b : Nat} {iss : List (List Ins)} (h : ∀ is ∈ iss, is.length ≤ a ∧ Nx.wid is ≤ b) : (chainP iss).length ≤ iss.length * (a + b) := by
  have key : ∀ r : List (List Ins), (∀ is ∈ r, is.length ≤ a ∧ Nx.wid is ≤ b) → (r.flatMap fun q => cln (Nx.wid q) ++ q).length ≤ r.length * (a + b) := fun r => by
    induction r with
    | nil => exact fun _ => Nat.zero_le _
    | cons q r ih =>
      intro hr
      have h1 := hr q (List.mem_cons_self ..)
      have h2 := ih fun is hi => hr is (List.mem_cons_of_mem _ hi)
      rw [List.flatMap_cons, List.length_append, List.length_append, cln_len, List.length_cons, Nat.succ_mul]
      omega
  cases iss with
  | nil => exact Nat.zero_le _
  | cons p r =>
    have h1 := h p (List.mem_cons_self ..)
    have h2 := key r fun is hi => h is (List.mem_cons_of_mem _ hi)
    show (p ++ _).length ≤ _
    rw [List.length_append, List.length_cons, Nat.succ_mul]
    omega
theorem trees_le {m : Nat} (l : List Ins) (h : ∀ i ∈ l, i.big ≤ m) : treesSum l ≤ l.length * m := by
  rw [treesSum_big]
  exact sum_le _ _ _ h
/-! ### towers -/
def towT : List (List Ins) → Tr → Tr
  | [], x => x
  | p :: r, x => .node (codeT p) (towT r x)
theorem towT_sg : ∀ (iss : List (List Ins)) (x : Tr), (towT iss x).sg = (iss.map fun is => 49 :: (codeT is).sg).flatten ++ x.sg
  | [], x => rfl
  | p :: r, x => by
    show 49 :: ((codeT p).sg ++ (towT r x).sg) = _
    rw [towT_sg r x, List.map_cons, List.flatten_cons, List.append_assoc]
    rfl
theorem towT_ge {iss : List (List Ins)} {is : List Ins} (x : Tr) (h : is ∈ iss) : (codeT is).sg.length < (towT iss x).sg.length := by
  induction iss with
  | nil => cases h
  | cons p r ih =>
    show _ < (Tr.node (codeT p) (towT r x)).sg.length
    rw [node_len]
    rcases List.mem_cons.mp h with rfl | h
    · omega
    · have := ih h
      omega
theorem towT_app (a b : List (List Ins)) (x : Tr) : towT (a ++ b) x = towT a (towT b x) := by
  induction a with
  | nil => rfl
  | cons p r ih =>
    show Tr.node (codeT p) (towT (r ++ b) x) = .node (codeT p) (towT r (towT b x))
    rw [ih]
theorem towT_le {m : Nat} {iss : List (List Ins)} (x : Tr) (h : ∀ is ∈ iss, (codeT is).sg.length ≤ m) : (towT iss x).sg.length ≤ iss.length * (m + 1) + x.sg.length := by
  induction iss with
  | nil =>
    show x.sg.length ≤ _
    omega
  | cons p r ih =>
    have h1 := h p (List.mem_cons_self ..)
    have h2 := ih fun is hi => h is (List.mem_cons_of_mem _ hi)
    show (Tr.node (codeT p) (towT r x)).sg.length ≤ _
    rw [node_len, List.length_cons, Nat.succ_mul]
    omega
end Nx

/-! Lines: instructions, marks, and jumps to marks. -/
namespace Nx
open PySem PySem.Spec PyProof.Rows L2
inductive Line where
  | ins (i : Ins)
  | mark (n : Str)
  | jmp (a : Nat) (n : Str)
def Line.vs : Line → List V
  | .ins i => i.vs
  | .mark n => [.str "mark", .str n]
  | .jmp a n => [.str "jump", .int a, .str n]
def LnR (H : Hp) (v : V) (l : Line) : Prop := ∃ a, v = .ref a ∧ H a = some (.tup l.vs)
abbrev Lns (H : Hp) (vs : List V) (ls : List Line) : Prop := Paired (LnR H) vs ls
theorem LnR.same {H H' : Hp} {v : V} {l : Line} (h : LnR H v l) (e : Same H H') : LnR H' v l := by
  obtain ⟨a, h1, h2⟩ := h
  exact ⟨a, h1, e _ _ h2⟩
theorem Lns.same {H H' : Hp} {vs : List V} {ls : List Line} (h : Lns H vs ls) (e : Same H H') : Lns H' vs ls := Paired.imp (fun v l q => q.same e) h
theorem rows_lns {H : Hp} : ∀ {as : List Addr} {is : List Ins}, Rows H as is → Lns H (as.map V.ref) (is.map Line.ins)
  | _, _, .nil => .nil
  | _, _, .cons r t => .cons ⟨_, rfl, r⟩ (rows_lns t)
def Line.isM : Line → Bool
  | .mark _ => true
  | _ => false
/-- how many instructions these lines are -/
def cnt (ls : List Line) : Nat := (ls.filter fun l => !l.isM).length
theorem cnt_nil : cnt [] = 0 := rfl
theorem cnt_app (a b : List Line) : cnt (a ++ b) = cnt a + cnt b := by
  unfold cnt
  rw [List.filter_append, List.length_append]
theorem cnt_ins (is : List Ins) : cnt (is.map Line.ins) = is.length := by
  unfold cnt
  rw [List.filter_eq_self.mpr (fun l hl => by
    obtain ⟨i, _, rfl⟩ := List.mem_map.mp hl
    rfl), List.length_map]
theorem cnt_le (ls : List Line) : cnt ls ≤ ls.length := List.length_filter_le _ _
def mstep (n : Str) (p : Nat × Option Nat) (l : Line) : Nat × Option Nat := match l with
  | .mark m => (p.1, if n = m then some p.1 else p.2)
  | _ => (p.1 + 1, p.2)
def mst (n : Str) (p : Nat × Option Nat) (ls : List Line) : Nat × Option Nat := ls.foldl (mstep n) p
/-- where the mark of this name stands -/
def mval (ls : List Line) (n : Str) : Option Nat := (mst n (0, none) ls).2
theorem mst_fst (n : Str) : ∀ (ls : List Line) (p : Nat × Option Nat), (mst n p ls).1 = p.1 + cnt ls
  | [], p => rfl
  | l :: r, p => by
    show (mst n (mstep n p l) r).1 = _
    rw [mst_fst n r, show (l :: r) = [l] ++ r from rfl, cnt_app]
    cases l with
    | mark m => show p.1 + cnt r = p.1 + (0 + cnt r); omega
    | ins i => show p.1 + 1 + cnt r = p.1 + (1 + cnt r); omega
    | jmp a m => show p.1 + 1 + cnt r = p.1 + (1 + cnt r); omega
theorem mst_app (n : Str) (a b : List Line) (p : Nat × Option Nat) : mst n p (a ++ b) = mst n (mst n p a) b := List.foldl_append
theorem mst_cons (n : Str) (l : Line) (b : List Line) (p : Nat × Option Nat) : mst n p (l :: b) = mst n (mstep n p l) b := rfl
theorem mst_nil (n : Str) (p : Nat × Option Nat) : mst n p [] = p := rfl
theorem mst_ins (n : Str) : ∀ (is : List Ins) (p : Nat × Option Nat), mst n p (is.map Line.ins) = (p.1 + is.length, p.2)
  | [], p => rfl
  | i :: r, p => by
    show mst n (p.1 + 1, p.2) (r.map Line.ins) = _
    rw [mst_ins n r]
    show (p.1 + 1 + r.length, p.2) = (p.1 + (r.length + 1), p.2)
    rw [show p.1 + 1 + r.length = p.1 + (r.length + 1) by omega]
theorem mval_snoc (ls : List Line) (l : Line) (n : Str) : mval (ls ++ [l]) n = match l with
    | .mark m => if n = m then some (cnt ls) else mval ls n
    | _ => mval ls n := by
  unfold mval
  rw [mst_app]
  have h := mst_fst n ls (0, none)
  cases l with
  | mark m =>
    show (if n = m then some (mst n (0, none) ls).1 else (mst n (0, none) ls).2) = _
    rw [h, Nat.zero_add]
  | ins i => rfl
  | jmp a m => rfl
/-- the instructions that the lines stand for -/
def plc (d : Str → Nat) : Nat → List Line → List Ins
  | _, [] => []
  | k, .ins i :: r => i :: plc d (k + 1) r
  | k, .jmp a n :: r => .jump a ((d n : Int) - k) :: plc d (k + 1) r
  | k, .mark _ :: r => plc d k r
theorem plc_app (d : Str → Nat) : ∀ (a b : List Line) (k : Nat), plc d k (a ++ b) = plc d k a ++ plc d (k + cnt a) b
  | [], b, k => rfl
  | l :: a, b, k => by
    have hc : cnt (l :: a) = cnt [l] + cnt a := cnt_app [l] a
    cases l with
    | ins i =>
      show i :: plc d (k + 1) (a ++ b) = i :: (plc d (k + 1) a ++ plc d (k + cnt (.ins i :: a)) b)
      rw [plc_app d a b, hc, show k + 1 + cnt a = k + (cnt [.ins i] + cnt a) by show k + 1 + cnt a = k + (1 + cnt a); omega]
    | jmp r m =>
      show _ :: plc d (k + 1) (a ++ b) = _ :: (plc d (k + 1) a ++ plc d (k + cnt (.jmp r m :: a)) b)
      rw [plc_app d a b, hc, show k + 1 + cnt a = k + (cnt [.jmp r m] + cnt a) by show k + 1 + cnt a = k + (1 + cnt a); omega]
    | mark m =>
      show plc d k (a ++ b) = plc d k a ++ plc d (k + cnt (.mark m :: a)) b
      rw [plc_app d a b, hc, show k + cnt a = k + (cnt [.mark m] + cnt a) by show k + cnt a = k + (0 + cnt a); omega]
theorem plc_ins (d : Str → Nat) : ∀ (is : List Ins) (k : Nat), plc d k (is.map Line.ins) = is
  | [], k => rfl
  | i :: r, k => by
    show i :: plc d (k + 1) (r.map Line.ins) = _
    rw [plc_ins d r]
theorem plc_len (d : Str → Nat) : ∀ (ls : List Line) (k : Nat), (plc d k ls).length = cnt ls
  | [], k => rfl
  | l :: r, k => by
    have hc : cnt (l :: r) = cnt [l] + cnt r := cnt_app [l] r
    cases l with
    | ins i =>
      show (plc d (k + 1) r).length + 1 = _
      rw [plc_len d r, hc]
      show _ = 1 + cnt r
      omega
    | jmp a m =>
      show (plc d (k + 1) r).length + 1 = _
      rw [plc_len d r, hc]
      show _ = 1 + cnt r
      omega
    | mark m =>
      show (plc d k r).length = _
      rw [plc_len d r, hc]
      show _ = 0 + cnt r
      omega
end Nx

/-! The programs of point 10. -/
namespace Nx
open PySem PySem.Spec PyProof.Rows L2
abbrev p100 : Tr := .node .leaf .leaf
def bothP (w : Nat) (p q : List Ins) : List Ins := .move w 0 :: (p ++ (.move (w + 1) 0 :: .move 0 w :: (cln (wid q) ++ (q ++ [.cons 0 (w + 1) 0]))))
def partL (p : List Ins) : Nat := (cln (wid p)).length + p.length
def choiceP (w : Nat) (c p q : List Ins) : List Ins :=
  .move w 0 :: (c ++ (.jump 0 ((partL q : Nat) + 4) :: .move 0 w :: (cln (wid q) ++ (q ++ (.set w p100 :: .jump w ((partL p : Nat) + 2) :: .move 0 w :: (cln (wid p) ++ p))))))
def choiceL (w : Nat) (c p q : List Ins) : List Line :=
  .ins (.move w 0) :: (c.map Line.ins ++ (.jmp 0 "first" :: .ins (.move 0 w) :: ((cln (wid q)).map Line.ins ++ (q.map Line.ins ++ (.ins (.set w p100) :: .jmp w "end" :: .mark "first" :: .ins (.move 0 w) :: ((cln (wid p)).map Line.ins ++ (p.map Line.ins ++ [.mark "end"])))))))
def loopP (w : Nat) (c p : List Ins) : List Ins :=
  .move w 0 :: (cln (wid c) ++ (c ++ (.jump 0 4 :: .move 0 w :: .set w p100 :: .jump w ((partL p : Nat) + 4) :: .move 0 w :: (cln (wid p) ++ (p ++ [.set w p100, .jump w (-((partL c : Nat) + (partL p : Nat) + 7))])))))
def loopL (w : Nat) (c p : List Ins) : List Line :=
  .mark "again" :: .ins (.move w 0) :: ((cln (wid c)).map Line.ins ++ (c.map Line.ins ++ (.jmp 0 "body" :: .ins (.move 0 w) :: .ins (.set w p100) :: .jmp w "end" :: .mark "body" :: .ins (.move 0 w) :: ((cln (wid p)).map Line.ins ++ (p.map Line.ins ++ [.ins (.set w p100), .jmp w "again", .mark "end"])))))
theorem n_fe : ¬ Str.ofString "first" = Str.ofString "end" := by decide +kernel
theorem n_ef : ¬ Str.ofString "end" = Str.ofString "first" := by decide +kernel
theorem n_ab : ¬ Str.ofString "again" = Str.ofString "body" := by decide +kernel
theorem n_ae : ¬ Str.ofString "again" = Str.ofString "end" := by decide +kernel
theorem n_ba : ¬ Str.ofString "body" = Str.ofString "again" := by decide +kernel
theorem n_be : ¬ Str.ofString "body" = Str.ofString "end" := by decide +kernel
theorem n_ea : ¬ Str.ofString "end" = Str.ofString "again" := by decide +kernel
theorem n_eb : ¬ Str.ofString "end" = Str.ofString "body" := by decide +kernel
theorem choice_first (w : Nat) (c p q : List Ins) : mval (choiceL w c p q) "first" = some (c.length + partL q + 5) := by
  unfold mval choiceL partL
  simp only [mst_cons, mst_app, mst_ins, mst_nil, mstep, if_neg n_fe, if_true]
  congr 1
  omega
theorem choice_end (w : Nat) (c p q : List Ins) : mval (choiceL w c p q) "end" = some (c.length + partL q + partL p + 6) := by
  unfold mval choiceL partL
  simp only [mst_cons, mst_app, mst_ins, mst_nil, mstep, if_neg n_ef, if_true]
  congr 1
  omega
def choiceD (c p q : List Ins) (n : Str) : Nat := if n = "first" then c.length + partL q + 5 else c.length + partL q + partL p + 6
theorem choice_is (w : Nat) (c p q : List Ins) : plc (choiceD c p q) 0 (choiceL w c p q) = choiceP w c p q := by
  have d1 : choiceD c p q "first" = c.length + partL q + 5 := if_pos rfl
  have d2 : choiceD c p q "end" = c.length + partL q + partL p + 6 := if_neg n_ef
  unfold choiceL choiceP
  simp only [plc, plc_app, plc_ins, cnt_ins, d1, d2, List.append_nil]
  congr 2
  have e1 : (((c.length + partL q + 5 : Nat) : Int) - ((0 + 1 + c.length : Nat) : Int)) = (partL q : Nat) + 4 := by omega
  have e2 : ∀ k : Nat, k = partL q → (((c.length + partL q + partL p + 6 : Nat) : Int) - ((0 + 1 + c.length + 1 + 1 + k + 1 : Nat) : Int)) = (partL p : Nat) + 2 := fun k hk => by omega
  rw [e1]
  congr 5
  have := e2 ((cln (wid q)).length + q.length) rfl
  rw [show 0 + 1 + c.length + 1 + 1 + ((cln (wid q)).length + q.length) + 1 = 0 + 1 + c.length + 1 + 1 + (cln (wid q)).length + q.length + 1 by omega] at this
  rw [this]
theorem loop_again (w : Nat) (c p : List Ins) : mval (loopL w c p) "again" = some 0 := by
  unfold mval loopL
  simp only [mst_cons, mst_app, mst_ins, mst_nil, mstep, if_neg n_ab, if_neg n_ae, if_true]
theorem loop_body (w : Nat) (c p : List Ins) : mval (loopL w c p) "body" = some (partL c + 5) := by
  unfold mval loopL partL
  simp only [mst_cons, mst_app, mst_ins, mst_nil, mstep, if_neg n_ba, if_neg n_be, if_true]
  congr 1
  omega
theorem loop_end (w : Nat) (c p : List Ins) : mval (loopL w c p) "end" = some (partL c + partL p + 8) := by
  unfold mval loopL partL
  simp only [mst_cons, mst_app, mst_ins, mst_nil, mstep, if_neg n_ea, if_neg n_eb, if_true]
  congr 1
  omega
def loopD (c p : List Ins) (n : Str) : Nat := if n = "again" then 0 else if n = "body" then partL c + 5 else partL c + partL p + 8
theorem loop_is (w : Nat) (c p : List Ins) : plc (loopD c p) 0 (loopL w c p) = loopP w c p := by
  have d1 : loopD c p "again" = 0 := if_pos rfl
  have d2 : loopD c p "body" = partL c + 5 := (if_neg n_ba).trans (if_pos rfl)
  have d3 : loopD c p "end" = partL c + partL p + 8 := (if_neg n_ea).trans (if_neg n_eb)
  unfold loopL loopP
  simp only [plc, plc_app, plc_ins, cnt_ins, d1, d2, d3, List.append_nil]
  have hc : partL c = (cln (wid c)).length + c.length := rfl
  have hp : partL p = (cln (wid p)).length + p.length := rfl
  have e1 : (((partL c + 5 : Nat) : Int) - ((0 + 1 + (cln (wid c)).length + c.length : Nat) : Int)) = 4 := by omega
  have e2 : (((partL c + partL p + 8 : Nat) : Int) - ((0 + 1 + (cln (wid c)).length + c.length + 1 + 1 + 1 : Nat) : Int)) = (partL p : Nat) + 4 := by omega
  have e3 : (((0 : Nat) : Int) - ((0 + 1 + (cln (wid c)).length + c.length + 1 + 1 + 1 + 1 + 1 + (cln (wid p)).length + p.length + 1 : Nat) : Int)) = -((partL c : Nat) + (partL p : Nat) + 7) := by omega
  rw [e1, e2, e3]
theorem nuMax2_nat (a b : Nat) : nuMax2 (.int a) (.int b) = some (.int (max a b : Nat)) := by
  show some (if decide ((a : Int) < (b : Int)) = true then V.int b else V.int a) = _
  by_cases c : a < b
  · rw [if_pos (decide_eq_true (by omega)), Nat.max_eq_right (by omega)]
  · rw [if_neg (fun z => c (by have := of_decide_eq_true z; omega)), Nat.max_eq_left (by omega)]
theorem nuMax3_nat (a b c : Nat) : nuMax3 (.int a) (.int b) (.int c) = some (.int (max (max a b) c : Nat)) := by
  unfold nuMax3
  rw [nuMax2_nat]
  exact nuMax2_nat _ _
theorem gw_two (p q : List Ins) : gw [p, q] = max (wid p) (wid q) := by
  show max (max 1 (wid p)) (wid q) = _
  rw [Nat.max_eq_right (wid_pos p)]
theorem gw_three (c p q : List Ins) : gw [c, p, q] = max (max (wid c) (wid p)) (wid q) := by
  show max (max (max 1 (wid c)) (wid p)) (wid q) = _
  rw [Nat.max_eq_right (wid_pos c)]
/-! ### they are programs -/
/-- instructions from the index o on, in a program of n -/
def OkAt (w k n o : Nat) (is : List Ins) : Prop := ∀ (i : Nat) (x : Ins), is[i]? = some x → x.ok w k (o + i) n
theorem OkAt.nil {w k n o : Nat} : OkAt w k n o [] := fun i x h => by simp at h
theorem OkAt.cons {w k n o : Nat} {x : Ins} {r : List Ins} (h : x.ok w k o n) (t : OkAt w k n (o + 1) r) : OkAt w k n o (x :: r) := fun i y hy => by
  cases i with
  | zero =>
    have hy : some x = some y := hy
    rw [← Option.some.inj hy]
    exact h
  | succ i =>
    have := t i y hy
    rw [show o + 1 + i = o + (i + 1) by omega] at this
    exact this
theorem OkAt.app {w k n o : Nat} {a b : List Ins} (ha : OkAt w k n o a) (hb : OkAt w k n (o + a.length) b) : OkAt w k n o (a ++ b) := fun i x h => by
  by_cases c : i < a.length
  · rw [List.getElem?_append_left c] at h
    exact ha i x h
  · rw [List.getElem?_append_right (by omega)] at h
    have := hb _ x h
    rw [show o + a.length + (i - a.length) = o + i by omega] at this
    exact this
theorem PgOk.at_ {v w k n o : Nat} {p : List Ins} (h : PgOk v k p) (hw : v ≤ w) (ho : o + p.length ≤ n) : OkAt w k n o p := fun i x hx => by
  have := (h.wide hw) i x hx
  cases x with
  | jump a m => exact ⟨this.1, by have := this.2.1; omega, by have := this.2.2; omega⟩
  | _ => exact this
theorem OkAt.all {w k : Nat} {is : List Ins} (h : OkAt w k is.length 0 is) : PgOk w k is := fun i x hx => by
  have := h i x hx
  rw [Nat.zero_add] at this
  exact this
section
variable {w k : Nat} {c p q : List Ins}
theorem bothP_ok (hw : w ≤ 16) (hp : PgOk 16 k p) (hq : PgOk 16 k q) : PgOk 20 k (bothP w p q) := by
  have hwq := hq.wid (by decide)
  have e := cln_len (wid q)
  refine OkAt.all ?_
  have hl : (bothP w p q).length = 4 + p.length + (cln (wid q)).length + q.length := by
    unfold bothP
    simp only [List.length_cons, List.length_append, List.length_nil]
    omega
  rw [hl]
  refine .cons ⟨by omega, by decide⟩ (.app (hp.at_ (by decide) (by omega)) (.cons ⟨by omega, by decide⟩ (.cons ⟨by decide, by omega⟩ (.app ((cln_ok hwq).at_ (by decide) (by omega)) (.app (hq.at_ (by decide) (by omega)) (.cons ⟨by decide, by omega, by decide⟩ .nil))))))
theorem choiceP_ok (hw : w ≤ 16) (hk : 1 ≤ k) (hc : PgOk 16 k c) (hp : PgOk 16 k p) (hq : PgOk 16 k q) : PgOk 20 k (choiceP w c p q) := by
  have hwq := hq.wid (by decide)
  have hwp := hp.wid (by decide)
  have ep : partL p = (cln (wid p)).length + p.length := rfl
  have eq : partL q = (cln (wid q)).length + q.length := rfl
  refine OkAt.all ?_
  have hl : (choiceP w c p q).length = 6 + c.length + partL q + partL p := by
    unfold choiceP
    simp only [List.length_cons, List.length_append]
    omega
  rw [hl]
  refine .cons ⟨by omega, by decide⟩ (.app (hc.at_ (by decide) (by omega)) (.cons ⟨by decide, by omega, by omega⟩ (.cons ⟨by decide, by omega⟩ (.app ((cln_ok hwq).at_ (by decide) (by omega)) (.app (hq.at_ (by decide) (by omega)) (.cons ⟨by omega, hk⟩ (.cons ⟨by omega, by omega, by omega⟩ (.cons ⟨by decide, by omega⟩ (.app ((cln_ok hwp).at_ (by decide) (by omega)) (hp.at_ (by decide) (by omega)))))))))))
theorem loopP_ok (hw : w ≤ 16) (hk : 1 ≤ k) (hc : PgOk 16 k c) (hp : PgOk 16 k p) : PgOk 20 k (loopP w c p) := by
  have hwc := hc.wid (by decide)
  have hwp := hp.wid (by decide)
  have ep : partL p = (cln (wid p)).length + p.length := rfl
  have ec : partL c = (cln (wid c)).length + c.length := rfl
  refine OkAt.all ?_
  have hl : (loopP w c p).length = 8 + partL c + partL p := by
    unfold loopP
    simp only [List.length_cons, List.length_append, List.length_nil]
    omega
  rw [hl]
  refine .cons ⟨by omega, by decide⟩ (.app ((cln_ok hwc).at_ (by decide) (by omega)) (.app (hc.at_ (by decide) (by omega)) (.cons ⟨by decide, by omega, by omega⟩ (.cons ⟨by decide, by omega⟩ (.cons ⟨by omega, hk⟩ (.cons ⟨by omega, by omega, by omega⟩ (.cons ⟨by decide, by omega⟩ (.app ((cln_ok hwp).at_ (by decide) (by omega)) (.app (hp.at_ (by decide) (by omega)) (.cons ⟨by omega, hk⟩ (.cons ⟨by omega, by omega, by omega⟩ .nil)))))))))))
theorem bothP_len : (bothP w p q).length = 4 + p.length + partL q := by
  unfold bothP partL
  simp only [List.length_cons, List.length_append, List.length_nil]
  omega
theorem choiceP_len : (choiceP w c p q).length = 6 + c.length + partL q + partL p := by
  unfold choiceP partL
  simp only [List.length_cons, List.length_append]
  omega
theorem loopP_len : (loopP w c p).length = 8 + partL c + partL p := by
  unfold loopP partL
  simp only [List.length_cons, List.length_append, List.length_nil]
  omega
end
/-! ### what is kept while lists are lengthened -/
theorem PgAt.butL {rs : List Addr} {H H' : Hp} {p : Addr} {is : List Ins} (h : PgAt H p is) (n : p ∉ rs) (e : ButL rs H H') (hr : ∀ r ∈ rs, ∃ ys, H r = some (.lst ys)) : PgAt H' p is := by
  obtain ⟨as, h1, h2⟩ := h
  refine ⟨as, e _ _ n h1, Paired.imp (fun a i q => e a _ (fun z => ?_) q) h2⟩
  obtain ⟨ys, hy⟩ := hr a z
  rw [hy] at q
  cases q
theorem ButL.same_new {rs : List Addr} {H0 H H' : Hp} (s : Same H0 H) (n : ∀ r ∈ rs, H0 r = none) (e : ButL rs H H') : Same H0 H' := fun a o h => e a o (fun z => by rw [n a z] at h; cases h) (s a o h)
theorem ButL.sub {rs ss : List Addr} {H H' : Hp} (h : ∀ r ∈ rs, r ∈ ss) (e : ButL rs H H') : ButL ss H H' := fun a o n q => e a o (fun z => n (h a z)) q
theorem pgs_three {H : Hp} {D : Addr} {c p q : List Ins} (h : PgsAt H D [c, p, q]) : ∃ a1 a2 a3, H D = some (.lst [.ref a1, .ref a2, .ref a3]) ∧ PgAt H a1 c ∧ PgAt H a2 p ∧ PgAt H a3 q := by
  obtain ⟨vs, h1, h2⟩ := h
  cases h2 with
  | cons r1 t1 =>
    cases t1 with
    | cons r2 t2 =>
      cases t2 with
      | cons r3 t3 =>
        cases t3
        obtain ⟨a1, rfl, e1⟩ := r1
        obtain ⟨a2, rfl, e2⟩ := r2
        obtain ⟨a3, rfl, e3⟩ := r3
        exact ⟨a1, a2, a3, h1, e1, e2, e3⟩
theorem PgAt.some {H : Hp} {p : Addr} {is : List Ins} (h : PgAt H p is) : H p ≠ none := fun z => by
  obtain ⟨as, h1, _⟩ := h
  rw [z] at h1
  cases h1
theorem PgAt.apart {H : Hp} {p r : Addr} {is : List Ins} (h : PgAt H p is) (n : H r = none) : p ≠ r := fun z => h.some (by rw [z]; exact n)
def callP : Nat → List Ins → List Ins → List Ins → List Ins
  | 0, a, b, c => chainP [a, b, c]
  | 1, a, b, _ => bothP (gw [a, b]) a b
  | 2, a, b, c => choiceP (gw [a, b, c]) a b c
  | _, a, b, _ => loopP (gw [a, b]) a b
def callW : Nat → List Ins → List Ins → List Ins → Nat
  | 0, a, b, c => gw [a, b, c]
  | 1, a, b, _ => gw [a, b]
  | 2, a, b, c => gw [a, b, c]
  | _, a, b, _ => gw [a, b]
end Nx

/-! Runs of composed programs. -/
namespace Nx
open PySem PySem.Spec PyProof.Rows L2
/-- n steps, none of them too large -/
inductive St (is : List Ins) : Nat → Nat → List Tr → Nat → List Tr → Prop where
  | refl (k : Nat) (rs : List Tr) : St is 0 k rs k rs
  | step {n k k1 k' : Nat} {rs rs' : List Tr} {i : Ins} (h : is[k]? = some i) (g : bigS i rs = false) (e : stepAt i k rs = (k1 : Int)) (t : St is n k1 (stepRs i rs) k' rs') : St is (n + 1) k rs k' rs'
section
variable {is A B : List Ins} {n m k k' k2 : Nat} {rs rs' rs2 : List Tr}
theorem St.rn (s : St is n k rs k' rs') : Rn is n k rs k' rs' := by
  induction s with
  | refl k rs => exact Rn.refl _ _ _
  | step h g e t ih => exact ((Rn.one h g e).trans ih).cast (Nat.add_comm _ _) rfl rfl
theorem St.trans (s : St is n k rs k' rs') (t : St is m k' rs' k2 rs2) : St is (n + m) k rs k2 rs2 := by
  induction s with
  | refl k rs =>
    rw [Nat.zero_add]
    exact t
  | @step n k k1 k' rs rs' i h g e _ ih =>
    rw [show n + 1 + m = (n + m) + 1 by omega]
    exact .step h g e (ih t)
theorem St.cast (s : St is n k rs k' rs') (e1 : n = m) (e2 : k' = k2) : St is m k rs k2 rs' := by
  subst e1 e2
  exact s
theorem St.len (s : St is n k rs k' rs') : rs'.length = rs.length := by
  induction s with
  | refl k rs => rfl
  | step h g e t ih => rw [ih, stepRs_len]
theorem St.left (s : St A n k rs k' rs') (B : List Ins) : St (A ++ B) n k rs k' rs' := by
  induction s with
  | refl k rs => exact .refl _ _
  | step h g e t ih =>
    have hl := (List.getElem?_eq_some_iff.mp h).1
    exact .step (by rw [List.getElem?_append_left hl]; exact h) g e ih
theorem stepAt_shift (i : Ins) (a : Nat) (k : Nat) (rs : List Tr) : stepAt i ((a + k : Nat) : Int) rs = (a : Int) + stepAt i (k : Nat) rs := by
  cases i with
  | jump r m =>
    show (if reg rs r = .leaf then _ else _) = _ + (if reg rs r = .leaf then _ else _)
    split <;> omega
  | _ => show ((a + k : Nat) : Int) + 1 = (a : Int) + ((k : Int) + 1); omega
theorem St.right (s : St B n k rs k' rs') (A : List Ins) : St (A ++ B) n (A.length + k) rs (A.length + k') rs' := by
  induction s with
  | refl k rs => exact .refl _ _
  | @step n k k1 k' rs rs' i h g e _ ih =>
    refine .step (k1 := A.length + k1) (by rw [List.getElem?_append_right (by omega), Nat.add_sub_cancel_left]; exact h) g ?_ ih
    rw [stepAt_shift, e]
    omega
theorem go_st (hJ : JOk is) : ∀ (n k : Nat) (rs : List Tr) {k' d : Nat} {rs' : List Tr}, go is n k rs = some (k', rs', d) → St is d k rs k' rs'
  | 0, k, rs, k', d, rs', e => by
    cases e
    exact .refl _ _
  | n + 1, k, rs, k', d, rs', e => by
    cases hi : is[k]? with
    | none =>
      rw [go_end hi] at e
      cases e
      exact .refl _ _
    | some i =>
      cases hg : bigS i rs with
      | true =>
        rw [go_big hi hg] at e
        cases e
      | false =>
        rw [go_on hi hg] at e
        cases e2 : go is n (stepAt i k rs).toNat (stepRs i rs) with
        | none =>
          rw [e2] at e
          cases e
        | some q =>
          rw [e2] at e
          obtain ⟨q1, q2, q3⟩ := q
          have e : some (q1, q2, q3 + 1) = some (k', rs', d) := e
          cases e
          obtain ⟨j2, h1, _⟩ := hJ k i rs hi
          exact .step hi hg (k1 := (stepAt i k rs).toNat) (by rw [h1]; rfl) (go_st hJ n _ _ e2)
/-- at the end -/
theorem St.go_end (s : St is n k rs is.length rs') (h : n ≤ m) : go is m k rs = some (is.length, rs', n) := by
  have := s.rn (m - n)
  rw [show n + (m - n) = m by omega, Nx.go_end (List.getElem?_eq_none (Nat.le_refl _))] at this
  rw [this]
  show some (is.length, rs', 0 + n) = _
  rw [Nat.zero_add]
/-- what runs behind A stays there -/
theorem St.inR (hB : JOk B) (s : St (A ++ B) n (A.length + k) rs k2 rs') : ∃ k', k2 = A.length + k' ∧ St B n k rs k' rs' := by
  generalize hx : A.length + k = x at s
  generalize hI : A ++ B = I at s
  induction s generalizing k with
  | refl y rs => exact ⟨k, hx.symm, .refl _ _⟩
  | @step n y k1 k' rs rs' i h g e _ ih =>
    subst hx hI
    rw [List.getElem?_append_right (by omega), Nat.add_sub_cancel_left] at h
    obtain ⟨j2, h1, h2⟩ := hB k i rs h
    rw [stepAt_shift, h1] at e
    obtain ⟨k3, e3, t3⟩ := ih (k := j2) (by omega)
    exact ⟨k3, e3, .step h g h1 t3⟩
/-- a run through A ++ B is one through A and one through B -/
theorem St.split (hA : JOk A) (hB : JOk B) (s : St (A ++ B) n k rs k2 rs') (hk : k ≤ A.length) (hk2 : A.length ≤ k2) : ∃ n1 n2 rs1 k3, n = n1 + n2 ∧ St A n1 k rs A.length rs1 ∧ St B n2 0 rs1 k3 rs' ∧ k2 = A.length + k3 := by
  generalize hI : A ++ B = I at s
  induction s with
  | refl y rs =>
    have : y = A.length := by omega
    subst this
    exact ⟨0, 0, rs, 0, rfl, .refl _ _, .refl _ _, rfl⟩
  | @step n y k1 k' rs rs' i h g e t ih =>
    subst hI
    by_cases c : y < A.length
    · rw [List.getElem?_append_left c] at h
      obtain ⟨j2, h1, h2⟩ := hA y i rs h
      rw [h1] at e
      have : j2 = k1 := by omega
      subst this
      obtain ⟨n1, n2, rs1, k3, e1, s1, s2, e2⟩ := ih h2 hk2
      exact ⟨n1 + 1, n2, rs1, k3, by omega, .step h g h1 s1, s2, e2⟩
    · have : y = A.length := by omega
      subst this
      have s : St (A ++ B) (n + 1) (A.length + 0) rs k' rs' := .step h g e t
      obtain ⟨k3, e3, t3⟩ := s.inR hB
      exact ⟨0, n + 1, rs, k3, by omega, .refl _ _, t3, e3⟩
/-- one behind the other -/
theorem St.seq {n1 n2 : Nat} {rs1 : List Tr} (a : St A n1 0 rs A.length rs1) (b : St B n2 0 rs1 k' rs') : St (A ++ B) (n1 + n2) 0 rs (A.length + k') rs' := (a.left B).trans (b.right A)
end
theorem JOk.app {A B : List Ins} (hA : JOk A) (hB : JOk B) : JOk (A ++ B) := fun j i rs h => by
  rw [List.length_append]
  by_cases c : j < A.length
  · rw [List.getElem?_append_left c] at h
    obtain ⟨j2, h1, h2⟩ := hA j i rs h
    exact ⟨j2, h1, by omega⟩
  · rw [List.getElem?_append_right (by omega)] at h
    obtain ⟨j2, h1, h2⟩ := hB _ i rs h
    refine ⟨A.length + j2, ?_, by omega⟩
    have := stepAt_shift i A.length (j - A.length) rs
    rw [show A.length + (j - A.length) = j by omega] at this
    rw [this, h1]
    omega
theorem PgOk.jok {w k : Nat} {is : List Ins} (h : PgOk w k is) : JOk is := fun _ _ _ hi => stepAt_ok h hi
/-! ### what the further registers hold does not matter -/
def Ag (w : Nat) (rs us : List Tr) : Prop := ∀ i, i < w → reg rs i = reg us i
section
variable {w : Nat} {i : Ins} {rs us : List Tr}
theorem Ag.big (h : Ag w rs us) (hb : i.below w) : bigS i rs = bigS i us := by
  cases i with
  | cons a b c =>
    show decide (200000 < (Tr.node (reg rs b) (reg rs c)).sg.length) = decide (200000 < (Tr.node (reg us b) (reg us c)).sg.length)
    rw [h b (hb b (by simp [Ins.regs])), h c (hb c (by simp [Ins.regs]))]
  | _ => rfl
theorem Ag.at_ (h : Ag w rs us) (hb : i.below w) (k : Int) : stepAt i k rs = stepAt i k us := by
  cases i with
  | jump a m =>
    show (if reg rs a = .leaf then _ else _) = (if reg us a = .leaf then _ else _)
    rw [h a (hb a (by simp [Ins.regs]))]
  | _ => rfl
theorem Ag.new (h : Ag w rs us) (hb : i.below w) : newT i rs = newT i us := by
  cases i with
  | set a t => rfl
  | jump a m => rfl
  | move a b => exact h b (hb b (by simp [Ins.regs]))
  | head a b => exact congrArg Tr.hd (h b (hb b (by simp [Ins.regs])))
  | tail a b => exact congrArg Tr.tl (h b (hb b (by simp [Ins.regs])))
  | cons a b c =>
    show Tr.node (reg rs b) (reg rs c) = .node (reg us b) (reg us c)
    rw [h b (hb b (by simp [Ins.regs])), h c (hb c (by simp [Ins.regs]))]
theorem reg_set_all {rs : List Tr} {a : Nat} (t : Tr) (j : Nat) (h : a < rs.length) : reg (rs.set a t) j = if a = j then t else reg rs j := by
  by_cases c : a = j
  · subst c
    rw [if_pos rfl, reg_set t h]
  · rw [if_neg c, reg_ne t c]
theorem Ag.step (h : Ag w rs us) (hb : i.below w) (l1 : w ≤ rs.length) (l2 : w ≤ us.length) : Ag w (stepRs i rs) (stepRs i us) := by
  cases hj : i.isJ with
  | true =>
    cases i with
    | jump a m => exact h
    | _ => cases hj
  | false =>
    have ha := Ins.below_a hb
    intro j hj2
    rw [stepRs_no hj, stepRs_no hj, reg_set_all _ _ (by omega), reg_set_all _ _ (by omega), h.new hb, h j hj2]
theorem step_out (hb : i.below w) {j : Nat} (hj : w ≤ j) : reg (stepRs i rs) j = reg rs j := by
  cases h : i.isJ with
  | true =>
    cases i with
    | jump a m => rfl
    | _ => cases h
  | false =>
    have ha := Ins.below_a hb
    rw [stepRs_no h, reg_ne _ (by omega)]
end
theorem St.agree {is : List Ins} {w n k k' : Nat} {rs rs' us : List Tr} (s : St is n k rs k' rs') (hb : ∀ i ∈ is, i.below w) (h : Ag w rs us) (l1 : w ≤ rs.length) (l2 : w ≤ us.length) : ∃ us', St is n k us k' us' ∧ Ag w rs' us' ∧ us'.length = us.length ∧ ∀ j, w ≤ j → reg us' j = reg us j := by
  induction s generalizing us with
  | refl k rs => exact ⟨us, .refl _ _, h, rfl, fun _ _ => rfl⟩
  | @step n k k1 k' rs rs' i hi g e _ ih =>
    have hbi := hb i (List.mem_of_getElem? hi)
    obtain ⟨us', s', a', l', o'⟩ := ih (us := stepRs i us) (h.step hbi l1 l2) (by rw [stepRs_len]; exact l1) (by rw [stepRs_len]; exact l2)
    exact ⟨us', .step hi (by rw [← h.big hbi]; exact g) (by rw [← h.at_ hbi]; exact e) s', a', by rw [l', stepRs_len], fun j hj => by rw [o' j hj, step_out hbi hj]⟩
theorem St.out {is : List Ins} {w n k k' : Nat} {rs rs' : List Tr} (s : St is n k rs k' rs') (hb : ∀ i ∈ is, i.below w) {j : Nat} (hj : w ≤ j) : reg rs' j = reg rs j := by
  induction s with
  | refl k rs => rfl
  | step hi g e _ ih => rw [ih, step_out (hb _ (List.mem_of_getElem? hi)) hj]
/-! ### cleanings -/
theorem cln_at {w j : Nat} (h : j < w - 1) : (cln w)[j]? = some (.set (j + 1) .leaf) := by
  unfold cln
  rw [List.getElem?_map, List.getElem?_range h]
  rfl
theorem cln_run (w : Nat) (rs : List Tr) (hw : w ≤ rs.length) : ∃ us, St (cln w) (w - 1) 0 rs (cln w).length us ∧ us.length = rs.length ∧ ∀ j, reg us j = if 1 ≤ j ∧ j < w then .leaf else reg rs j := by
  have key : ∀ m, m ≤ w - 1 → ∃ us, St (cln w) m 0 rs m us ∧ us.length = rs.length ∧ ∀ j, reg us j = if 1 ≤ j ∧ j < m + 1 then .leaf else reg rs j := fun m => by
    induction m with
    | zero => exact fun _ => ⟨rs, .refl _ _, rfl, fun j => by rw [if_neg (by omega)]⟩
    | succ m ih =>
      intro hm
      obtain ⟨us, s, l, r⟩ := ih (by omega)
      have one : St (cln w) 1 m us (m + 1) (stepRs (.set (m + 1) .leaf) us) := .step (cln_at (by omega)) rfl (k1 := m + 1) rfl (.refl _ _)
      refine ⟨_, s.trans one, by rw [stepRs_len, l], fun j => ?_⟩
      show reg (us.set (m + 1) .leaf) j = _
      rw [reg_set_all _ _ (by omega), r j]
      by_cases c : m + 1 = j
      · rw [if_pos c, if_pos (by omega)]
      · rw [if_neg c]
        by_cases c2 : 1 ≤ j ∧ j < m + 1
        · rw [if_pos c2, if_pos (by omega)]
        · rw [if_neg c2, if_neg (by omega)]
  obtain ⟨us, s, l, r⟩ := key (w - 1) (Nat.le_refl _)
  refine ⟨us, s.cast rfl (cln_len w).symm, l, fun j => ?_⟩
  rw [r j]
  by_cases c : 1 ≤ j ∧ j < w
  · rw [if_pos c, if_pos (by omega)]
  · rw [if_neg c, if_neg (by omega)]
/-- all runs of a cleaning -/
theorem cln_only {w n : Nat} {rs rs' : List Tr} (s : St (cln w) n 0 rs (cln w).length rs') (hw : w ≤ rs.length) : n = w - 1 ∧ ∀ j, reg rs' j = if 1 ≤ j ∧ j < w then .leaf else reg rs j := by
  obtain ⟨us, s2, _, r⟩ := cln_run w rs hw
  have e1 := s.go_end (m := n + (w - 1)) (by omega)
  have e2 := s2.go_end (m := n + (w - 1)) (by omega)
  rw [e1] at e2
  cases e2
  exact ⟨rfl, r⟩
/-! ### what a program returns -/
/-- from the first state on: n steps, none too large, to the end, where register 0 holds y -/
def Ret (is : List Ins) (n : Nat) (x y : Tr) : Prop := ∃ us, St is n 0 (rs0 x) is.length us ∧ reg us 0 = y
theorem rs0_reg (x : Tr) (j : Nat) : reg (rs0 x) j = if j = 0 then x else .leaf := by
  match j with
  | 0 => rfl
  | j + 1 =>
    rw [if_neg (by omega)]
    show (x :: List.replicate 19 Tr.leaf).getD (j + 1) .leaf = .leaf
    rw [List.getD_cons_succ, List.getD_eq_getElem?_getD, List.getElem?_replicate]
    split <;> rfl
section
variable {is A B : List Ins} {n m w : Nat} {x y z : Tr}
theorem Ret.of_go (hJ : JOk is) {d : Nat} {rs' : List Tr} (e : go is m 0 (rs0 x) = some (is.length, rs', d)) : Ret is d x (reg rs' 0) := ⟨rs', go_st hJ _ _ _ e, rfl⟩
theorem Ret.go (h : Ret is n x y) (hm : n ≤ m) : ∃ us, go is m 0 (rs0 x) = some (is.length, us, n) ∧ reg us 0 = y := by
  obtain ⟨us, s, e⟩ := h
  exact ⟨us, s.go_end hm, e⟩
theorem Ret.nil (x : Tr) : Ret [] 0 x x := ⟨rs0 x, .refl _ _, rfl⟩
theorem St.l20 {k k' : Nat} {us : List Tr} (s : St is n k (rs0 x) k' us) : us.length = 20 := s.len
theorem cln_ag {us vs : List Tr} (h : reg us 0 = y) (r : ∀ j, reg vs j = if 1 ≤ j ∧ j < w then .leaf else reg us j) : Ag w (rs0 y) vs := fun i hi => by
  rw [r i, rs0_reg]
  by_cases c : i = 0
  · subst c
    rw [if_pos rfl, if_neg (by omega), h]
  · rw [if_neg c, if_pos (by omega)]
theorem Ret.chain (hB : ∀ i ∈ B, i.below w) (h1 : 1 ≤ w) (hw : w ≤ 20) (a : Ret A n x y) (b : Ret B m y z) : Ret (A ++ (cln w ++ B)) (n + (w - 1 + m)) x z := by
  obtain ⟨us, sa, ea⟩ := a
  obtain ⟨zs, sb, eb⟩ := b
  obtain ⟨vs, sc, lc, rc⟩ := cln_run w us (by rw [sa.l20]; exact hw)
  obtain ⟨ws, sd, ag, _, _⟩ := sb.agree hB (cln_ag ea rc) hw (by rw [lc, sa.l20]; exact hw)
  refine ⟨ws, (sa.seq (sc.seq sd)).cast rfl ?_, ?_⟩
  · rw [List.length_append, List.length_append]
  · rw [← ag 0 h1, eb]
theorem cln_jok (w : Nat) : JOk (cln w) := (cln_ok (k := 0) (Nat.le_refl w)).jok
theorem Ret.parts (jA : JOk A) (jB : JOk B) (hB : ∀ i ∈ B, i.below w) (h1 : 1 ≤ w) (hw : w ≤ 20) {N : Nat} (h : Ret (A ++ (cln w ++ B)) N x z) : ∃ n m y, N = n + (w - 1 + m) ∧ Ret A n x y ∧ Ret B m y z := by
  obtain ⟨us, s, e⟩ := h
  obtain ⟨n1, n2, rs1, k3, e1, s1, s2, e2⟩ := s.split jA ((cln_jok w).app jB) (Nat.zero_le _) (by rw [List.length_append]; omega)
  have e3 : k3 = (cln w ++ B).length := by
    rw [List.length_append] at e2
    omega
  subst e3
  obtain ⟨n3, n4, rs2, k4, e4, s3, s4, e5⟩ := s2.split (cln_jok w) jB (Nat.zero_le _) (by rw [List.length_append]; omega)
  have e6 : k4 = B.length := by
    rw [List.length_append] at e5
    omega
  subst e6
  obtain ⟨e7, r⟩ := cln_only s3 (by rw [s1.l20]; exact hw)
  have ag : Ag w (rs0 (reg rs1 0)) rs2 := cln_ag rfl r
  obtain ⟨zs, sz, az, _, _⟩ := s4.agree hB (fun i hi => (ag i hi).symm) (by rw [s3.len, s1.l20]; exact hw) hw
  exact ⟨n1, n4, reg rs1 0, by omega, ⟨rs1, s1, rfl⟩, ⟨zs, sz, by rw [← az 0 h1, e]⟩⟩
end
theorem wid_bel (is : List Ins) : ∀ i ∈ is, i.below (wid is) := (wid_below (wid_pos is)).mp (Nat.le_refl _)
theorem chain2_is (p q : List Ins) : chainP [p, q] = p ++ (cln (wid q) ++ q) := by simp [chainP]
theorem chain3_is (p q r : List Ins) : chainP [p, q, r] = p ++ (cln (wid q) ++ (q ++ (cln (wid r) ++ r))) := by simp [chainP]
theorem chain_l (p q r : List Ins) : chainP [chainP [p, q], r] = chainP [p, q, r] := by simp [chainP]
theorem wid_nil : wid [] = 1 := rfl
theorem cln_1 : cln 1 = [] := rfl
theorem chain_e (p q r : List Ins) : chainP [p, [], q, r] = chainP [p, q, r] := by simp [chainP, wid_nil, cln_1]
theorem chain_n (p q r : List Ins) : chainP [[], p, q, [], r, []] = [] ++ (cln (wid p) ++ chainP [p, q, r]) := by simp [chainP, wid_nil, cln_1]
theorem bel_le {l : List Ins} {w : Nat} (h : wid l ≤ w) : ∀ i ∈ l, i.below w := (wid_below (Nat.le_trans (wid_pos l) h)).mp h
/-- three programs behind one another -/
theorem chain3_of {p q r : List Ins} {d : Nat} {x y : Tr} (jp : JOk p) (jq : JOk q) (jr : JOk r) (wq : wid q ≤ 20) (wr : wid r ≤ 20) (h : Ret (chainP [p, q, r]) d x y) : ∃ n m l s t, d = n + (wid q - 1 + m) + (wid r - 1 + l) ∧ Ret p n x s ∧ Ret q m s t ∧ Ret r l t y := by
  have e : chainP [p, q, r] = (p ++ (cln (wid q) ++ q)) ++ (cln (wid r) ++ r) := by simp [chainP]
  rw [e] at h
  obtain ⟨n, l, t, e1, a, c⟩ := h.parts (jp.app ((cln_jok _).app jq)) jr (wid_bel r) (wid_pos r) wr
  obtain ⟨n, m, s, e2, a, b⟩ := a.parts jp jq (wid_bel q) (wid_pos q) wq
  exact ⟨n, m, l, s, t, by omega, a, b, c⟩
theorem chain2_to {p q : List Ins} {n m : Nat} {x s t : Tr} (wq : wid q ≤ 20) (a : Ret p n x s) (b : Ret q m s t) : Ret (chainP [p, q]) (n + (wid q - 1 + m)) x t := by
  rw [chain2_is]
  exact a.chain (wid_bel q) (wid_pos q) wq b
/-- as point 11 says -/
theorem chain_r {p q r : List Ins} {k d : Nat} {x y : Tr} (hp : PgOk 4 k p) (hq : PgOk 4 k q) (hr : PgOk 4 k r) (h : Ret (chainP [p, q, r]) d x y) : ∃ n, n ≤ d + 6 ∧ Ret (chainP [p, chainP [q, r]]) n x y := by
  have h4 : ∀ {l : List Ins}, PgOk 4 k l → wid l ≤ 4 := fun hl => hl.wid (by decide)
  have w2 := h4 hq
  have w3 := h4 hr
  have w4 := h4 (chainP_ok (iss := [q, r]) (fun is hi => by simp at hi; rcases hi with rfl | rfl; exact hq; exact hr) (by decide))
  obtain ⟨n, m, l, s, t, e, a, b, c⟩ := chain3_of hp.jok hq.jok hr.jok (by omega) (by omega) h
  exact ⟨_, by omega, chain2_to (by omega) a (chain2_to (by omega) b c)⟩
theorem chain_s {p q r : List Ins} {k d : Nat} {x y : Tr} (hp : PgOk 4 k p) (hq : PgOk 4 k q) (hr : PgOk 4 k r) (h : Ret (chainP [p, q, r]) d x y) : ∃ n, n ≤ d + 6 ∧ Ret (chainP [[], p, q, [], r, []]) n x y := by
  have h4 : ∀ {l : List Ins}, PgOk 4 k l → wid l ≤ 4 := fun hl => hl.wid (by decide)
  have w1 := h4 hp
  have w2 := h4 hq
  have w3 := h4 hr
  obtain ⟨n, m, l, s, t, e, a, b, c⟩ := chain3_of hp.jok hq.jok hr.jok (by omega) (by omega) h
  have e2 : chainP [[], p, q, [], r, []] = (([] ++ (cln (wid p) ++ p)) ++ (cln (wid q) ++ q)) ++ (cln (wid r) ++ r) := by simp [chainP, wid_nil, cln_1]
  rw [e2]
  exact ⟨_, by omega, (((Ret.nil x).chain (wid_bel p) (wid_pos p) (by omega) a).chain (wid_bel q) (wid_pos q) (by omega) b).chain (wid_bel r) (wid_pos r) (by omega) c⟩
theorem pst {X : Hp} {st q : Addr} {js : List Ins} (hs : Strm X st) (hq : PgAt X q js) : q ≠ st := fun z => by
  obtain ⟨l, ns, c, i, m, g1, g2, g3⟩ := hs
  obtain ⟨as, h1, _⟩ := hq
  rw [z, g1] at h1
  have h4 := HO.lst.inj (Option.some.inj h1)
  cases as with
  | nil => cases h4
  | cons b r =>
    cases r with
    | nil => cases (List.cons.inj h4).2
    | cons b2 r2 => cases (List.cons.inj (List.cons.inj h4).2).1
theorem PgAt.draw {H H' : Hp} {st p : Addr} {is : List Ins} (h : PgAt H p is) (s : Strm H st) (e : ExS st H H') : PgAt H' p is := h.exs s (pst s h) e
theorem bigSum_mul {m : Nat} : ∀ l : List Ins, (∀ i ∈ l, i.big ≤ m) → bigSum l ≤ l.length * m
  | [], _ => Nat.zero_le _
  | i :: r, h => by
    have h1 := bigSum_mul r fun j hj => h j (.tail _ hj)
    have h2 := h i (.head _)
    have e : bigSum (i :: r) = i.big + bigSum r := by unfold bigSum; simp
    rw [e, List.length_cons, Nat.succ_mul]
    omega
theorem go_d {is : List Ins} : ∀ (n k : Nat) (rs : List Tr) {k' d : Nat} {rs' : List Tr}, go is n k rs = some (k', rs', d) → d ≤ n
  | 0, k, rs, k', d, rs', e => by
    cases e
    exact Nat.le_refl _
  | n + 1, k, rs, k', d, rs', e => by
    cases hi : is[k]? with
    | none =>
      rw [go_end hi] at e
      cases e
      exact Nat.zero_le _
    | some i =>
      cases hg : bigS i rs with
      | true =>
        rw [go_big hi hg] at e
        cases e
      | false =>
        rw [go_on hi hg] at e
        cases e2 : go is n (stepAt i k rs).toNat (stepRs i rs) with
        | none =>
          rw [e2] at e
          cases e
        | some q =>
          rw [e2] at e
          obtain ⟨q1, q2, q3⟩ := q
          have e : some (q1, q2, q3 + 1) = some (k', rs', d) := e
          cases e
          exact Nat.succ_le_succ (go_d n _ _ e2)
theorem chain2_len {p q : List Ins} (hq : wid q ≤ 4) : (chainP [p, q]).length ≤ p.length + q.length + 3 := by
  rw [chain2_is, List.length_append, List.length_append, cln_len]
  omega
end Nx

/-! The world of the later laws: trees by their numbers, each tree once. -/
namespace Nx
open PySem PySem.Spec PyProof.Rows L2
def wKV (Ah At As Ap : Addr) : List (Key × V) := [(.inr "heads", .ref Ah), (.inr "tails", .ref At), (.inr "sizes", .ref As), (.inr "pairs", .ref Ap)]
theorem wKV_h {Ah At As Ap : Addr} : L2.valV (wKV Ah At As Ap) (.inr "heads") = some (.ref Ah) := valV_pos rfl
theorem wKV_t {Ah At As Ap : Addr} : L2.valV (wKV Ah At As Ap) (.inr "tails") = some (.ref At) :=
  (valV_neg (show ¬ (Sum.inr ("heads" : Str) : Key) = .inr ("tails" : Str) by decide +kernel)).trans (valV_pos rfl)
theorem wKV_s {Ah At As Ap : Addr} : L2.valV (wKV Ah At As Ap) (.inr "sizes") = some (.ref As) :=
  (valV_neg (show ¬ (Sum.inr ("heads" : Str) : Key) = .inr ("sizes" : Str) by decide +kernel)).trans ((valV_neg (show ¬ (Sum.inr ("tails" : Str) : Key) = .inr ("sizes" : Str) by decide +kernel)).trans (valV_pos rfl))
theorem wKV_p {Ah At As Ap : Addr} : L2.valV (wKV Ah At As Ap) (.inr "pairs") = some (.ref Ap) :=
  (valV_neg (show ¬ (Sum.inr ("heads" : Str) : Key) = .inr ("pairs" : Str) by decide +kernel)).trans ((valV_neg (show ¬ (Sum.inr ("tails" : Str) : Key) = .inr ("pairs" : Str) by decide +kernel)).trans ((valV_neg (show ¬ (Sum.inr ("sizes" : Str) : Key) = .inr ("pairs" : Str) by decide +kernel)).trans (valV_pos rfl)))
theorem wk_h {H : Hp} {W Ah At As Ap : Addr} (h : H W = some (.dK (wKV Ah At As Ap))) : DGet H W (.str "heads") (some (.ref Ah)) := by
  have := DGet.k (k := .inr "heads") h
  rwa [wKV_h] at this
theorem wk_t {H : Hp} {W Ah At As Ap : Addr} (h : H W = some (.dK (wKV Ah At As Ap))) : DGet H W (.str "tails") (some (.ref At)) := by
  have := DGet.k (k := .inr "tails") h
  rwa [wKV_t] at this
theorem wk_s {H : Hp} {W Ah At As Ap : Addr} (h : H W = some (.dK (wKV Ah At As Ap))) : DGet H W (.str "sizes") (some (.ref As)) := by
  have := DGet.k (k := .inr "sizes") h
  rwa [wKV_s] at this
theorem wk_p {H : Hp} {W Ah At As Ap : Addr} (h : H W = some (.dK (wKV Ah At As Ap))) : DGet H W (.str "pairs") (some (.ref Ap)) := by
  have := DGet.k (k := .inr "pairs") h
  rwa [wKV_p] at this
theorem wKV_merge {Ah At As Ap : Addr} : mergeK [] (wKV Ah At As Ap) = wKV Ah At As Ap := by
  show putK (putK (putK (putK ([] : List (Key × V)) (Sum.inr ("heads" : Str) : Key) (.ref Ah)) (Sum.inr ("tails" : Str) : Key) (.ref At)) (Sum.inr ("sizes" : Str) : Key) (.ref As)) (Sum.inr ("pairs" : Str) : Key) (.ref Ap) = _
  rw [putK_new (.ref Ah) valV_nil]
  show putK (putK (putK [(.inr "heads", .ref Ah)] (Sum.inr ("tails" : Str) : Key) (.ref At)) (Sum.inr ("sizes" : Str) : Key) (.ref As)) (Sum.inr ("pairs" : Str) : Key) (.ref Ap) = _
  rw [putK_new (.ref At) ((valV_neg (show ¬ (Sum.inr ("heads" : Str) : Key) = .inr ("tails" : Str) by decide +kernel)).trans valV_nil)]
  show putK (putK [(.inr "heads", .ref Ah), (.inr "tails", .ref At)] (Sum.inr ("sizes" : Str) : Key) (.ref As)) (Sum.inr ("pairs" : Str) : Key) (.ref Ap) = _
  rw [putK_new (.ref As) ((valV_neg (show ¬ (Sum.inr ("heads" : Str) : Key) = .inr ("sizes" : Str) by decide +kernel)).trans ((valV_neg (show ¬ (Sum.inr ("tails" : Str) : Key) = .inr ("sizes" : Str) by decide +kernel)).trans valV_nil))]
  show putK [(.inr "heads", .ref Ah), (.inr "tails", .ref At), (.inr "sizes", .ref As)] (Sum.inr ("pairs" : Str) : Key) (.ref Ap) = _
  rw [putK_new (.ref Ap) ((valV_neg (show ¬ (Sum.inr ("heads" : Str) : Key) = .inr ("pairs" : Str) by decide +kernel)).trans ((valV_neg (show ¬ (Sum.inr ("tails" : Str) : Key) = .inr ("pairs" : Str) by decide +kernel)).trans ((valV_neg (show ¬ (Sum.inr ("sizes" : Str) : Key) = .inr ("pairs" : Str) by decide +kernel)).trans valV_nil)))]
  rfl
def pK (a b : Nat) : List Key := [.inl (a : Int), .inl (b : Int)]
theorem pK_inj {a b c d : Nat} (h : pK a b = pK c d) : a = c ∧ b = d := by
  unfold pK at h
  simp only [List.cons.injEq, Sum.inl.injEq, and_true] at h
  exact ⟨by omega, by omega⟩
/-- what the pairs' dict says of the table -/
structure PsOk (kvs : List (List Key × V)) (T : List Tr) : Prop where
  len : kvs.length ≤ T.length
  val : ∀ (a b : Nat) (v : V), L2.valV kvs (pK a b) = some v → ∃ (n : Nat) (s t : Tr), v = .int n ∧ T[a]? = some s ∧ T[b]? = some t ∧ T[n]? = some (.node s t)
  has : ∀ (n : Nat) (s t : Tr), T[n]? = some (.node s t) → ∃ a b : Nat, T[a]? = some s ∧ T[b]? = some t ∧ (L2.valV kvs (pK a b)).isSome = true
structure WAt (H : Hp) (W Ah At As Ap : Addr) (T : List Tr) : Prop where
  ob : H W = some (.dK (wKV Ah At As Ap))
  tb : MacAt H Ah At As T
  nd : ∀ (m n : Nat) (t : Tr), T[m]? = some t → T[n]? = some t → m = n
  ps : ∃ kvs : List (List Key × V), H Ap = some (.dT kvs) ∧ PsOk kvs T
theorem nd_one : ∀ (m n : Nat) (t : Tr), [Tr.leaf][m]? = some t → [Tr.leaf][n]? = some t → m = n := fun m n t h1 h2 => by
  rw [(one_at h1).1, (one_at h2).1]
theorem PsOk.new : PsOk [] [.leaf] := ⟨by decide, fun a b v h => (by cases h), fun n s t h => (by
  have := (one_at h).2
  cases this)⟩
theorem last_at {T : List Tr} {u x : Tr} {n : Nat} (h : (T ++ [u])[n]? = some x) : T[n]? = some x ∨ (n = T.length ∧ x = u) := by
  have hl := (List.getElem?_eq_some_iff.mp h).1
  rw [List.length_append, List.length_singleton] at hl
  by_cases c : n < T.length
  · rw [List.getElem?_append_left c] at h
    exact .inl h
  · have c2 : n = T.length := by omega
    rw [c2, List.getElem?_append_right (Nat.le_refl _), Nat.sub_self] at h
    exact .inr ⟨c2, (Option.some.inj h).symm⟩
theorem at_last (T : List Tr) (u : Tr) : (T ++ [u])[T.length]? = some u := by
  rw [List.getElem?_append_right (Nat.le_refl _), Nat.sub_self]
  rfl
theorem PsOk.no {kvs : List (List Key × V)} {T : List Tr} (p : PsOk kvs T) (nd : ∀ (m n : Nat) (t : Tr), T[m]? = some t → T[n]? = some t → m = n) {a b : Nat} {s t : Tr} (ha : T[a]? = some s) (hb : T[b]? = some t) (h : L2.valV kvs (pK a b) = none) : ∀ n : Nat, T[n]? ≠ some (Tr.node s t) := fun n hn => by
  obtain ⟨c, d, h1, h2, h3⟩ := p.has n s t hn
  rw [nd c a s h1 ha, nd d b t h2 hb, h] at h3
  cases h3
theorem PsOk.put {kvs : List (List Key × V)} {T : List Tr} (p : PsOk kvs T) {a b : Nat} {s t : Tr} (ha : T[a]? = some s) (hb : T[b]? = some t) (h : L2.valV kvs (pK a b) = none) : PsOk (putK kvs (pK a b) (.int T.length)) (T ++ [.node s t]) := by
  have e := Ext.app T [.node s t]
  refine ⟨by rw [putK_new _ h, List.length_append, List.length_append]; exact Nat.add_le_add_right p.len 1, fun c d v hv => ?_, fun n s' t' hn => ?_⟩
  · rw [valV_put] at hv
    by_cases q : pK c d = pK a b
    · rw [if_pos q] at hv
      cases hv
      obtain ⟨rfl, rfl⟩ := pK_inj q
      exact ⟨T.length, s, t, rfl, e _ _ ha, e _ _ hb, at_last _ _⟩
    · rw [if_neg q] at hv
      obtain ⟨n, s', t', h1, h2, h3, h4⟩ := p.val c d v hv
      exact ⟨n, s', t', h1, e _ _ h2, e _ _ h3, e _ _ h4⟩
  · rcases last_at hn with hn | ⟨_, hn⟩
    · obtain ⟨c, d, h1, h2, h3⟩ := p.has n s' t' hn
      refine ⟨c, d, e _ _ h1, e _ _ h2, ?_⟩
      rw [valV_put]
      split
      · rfl
      · exact h3
    · injection hn with h1 h2
      subst h1 h2
      refine ⟨a, b, e _ _ ha, e _ _ hb, ?_⟩
      rw [valV_put, if_pos rfl]
      rfl
theorem nd_put {T : List Tr} {u : Tr} (nd : ∀ (m n : Nat) (t : Tr), T[m]? = some t → T[n]? = some t → m = n) (no : ∀ n : Nat, T[n]? ≠ some u) : ∀ (m n : Nat) (t : Tr), (T ++ [u])[m]? = some t → (T ++ [u])[n]? = some t → m = n := fun m n t h1 h2 => by
  rcases last_at h1 with g1 | ⟨e1, q1⟩
  · rcases last_at h2 with g2 | ⟨e2, q2⟩
    · exact nd m n t g1 g2
    · exact absurd (q2 ▸ g1) (no m)
  · rcases last_at h2 with g2 | ⟨e2, q2⟩
    · exact absurd (q1 ▸ g2) (no n)
    · rw [e1, e2]
section
variable {H H' : Hp} {W Ah At As Ap : Addr} {T T' : List Tr}
theorem WAt.notA (h : WAt H W Ah At As Ap T) : W ∉ [Ah, At, As] := fun z => by
  obtain ⟨hs, ts, h1, h2, h3, g⟩ := h.tb.get
  have ho := h.ob
  simp only [List.mem_cons, List.not_mem_nil, or_false] at z
  rcases z with rfl | rfl | rfl
  · rw [h1] at ho; cases ho
  · rw [h2] at ho; cases ho
  · rw [h3] at ho; cases ho
theorem WAt.pA (h : WAt H W Ah At As Ap T) : Ap ∉ [Ah, At, As] := fun z => by
  obtain ⟨hs, ts, h1, h2, h3, g⟩ := h.tb.get
  obtain ⟨kvs, ho, _⟩ := h.ps
  simp only [List.mem_cons, List.not_mem_nil, or_false] at z
  rcases z with rfl | rfl | rfl
  · rw [h1] at ho; cases ho
  · rw [h2] at ho; cases ho
  · rw [h3] at ho; cases ho
theorem WAt.WP (h : WAt H W Ah At As Ap T) : W ≠ Ap := fun z => by
  obtain ⟨kvs, ho, _⟩ := h.ps
  have h1 := h.ob
  rw [z, ho] at h1
  cases h1
abbrev wL (Ah At As Ap : Addr) : List Addr := [Ah, At, As, Ap]
theorem WAt.W4 (h : WAt H W Ah At As Ap T) : W ∉ wL Ah At As Ap := fun z => by
  have h1 := h.notA
  have h2 := h.WP
  simp only [wL, List.mem_cons, List.not_mem_nil, or_false, not_or] at z h1
  rcases z with z | z | z | z
  · exact h1.1 z
  · exact h1.2.1 z
  · exact h1.2.2 z
  · exact h2 z
/-- changes elsewhere -/
theorem WAt.but {as : List Addr} (h : WAt H W Ah At As Ap T) (e : ButL as H H') (n : ∀ b ∈ W :: wL Ah At As Ap, b ∉ as) : WAt H' W Ah At As Ap T := by
  obtain ⟨kvs, h1, h2⟩ := h.ps
  exact ⟨e _ _ (n W (by simp)) h.ob, h.tb.but e (n _ (by simp)) (n _ (by simp)) (n _ (by simp)), h.nd, kvs, e _ _ (n Ap (by simp)) h1, h2⟩
theorem WAt.same (h : WAt H W Ah At As Ap T) (e : Same H H') : WAt H' W Ah At As Ap T := h.but (as := []) e.butL (fun _ _ z => by cases z)
/-- what is tracked as something else is none of the world's -/
theorem WAt.none (h : WAt H W Ah At As Ap T) {b : Addr} (hb : H b = none) : b ∉ W :: wL Ah At As Ap := fun z => by
  obtain ⟨hs, ts, h1, h2, h3, g⟩ := h.tb.get
  obtain ⟨kvs, h4, _⟩ := h.ps
  have h5 := h.ob
  simp only [wL, List.mem_cons, List.not_mem_nil, or_false] at z
  rcases z with rfl | rfl | rfl | rfl | rfl
  · rw [h5] at hb; cases hb
  · rw [h1] at hb; cases hb
  · rw [h2] at hb; cases hb
  · rw [h3] at hb; cases hb
  · rw [h4] at hb; cases hb
theorem WAt.tup (h : WAt H W Ah At As Ap T) {b : Addr} {xs : List V} (hb : H b = some (.tup xs)) : b ∉ W :: wL Ah At As Ap := fun z => by
  obtain ⟨hs, ts, h1, h2, h3, g⟩ := h.tb.get
  obtain ⟨kvs, h4, _⟩ := h.ps
  have h5 := h.ob
  simp only [wL, List.mem_cons, List.not_mem_nil, or_false] at z
  rcases z with rfl | rfl | rfl | rfl | rfl
  · rw [h5] at hb; cases hb
  · rw [h1] at hb; cases hb
  · rw [h2] at hb; cases hb
  · rw [h3] at hb; cases hb
  · rw [h4] at hb; cases hb
theorem WAt.gh (h : WAt H W Ah At As Ap T) : DGet H W (.str "heads") (some (.ref Ah)) := wk_h h.ob
theorem WAt.gt (h : WAt H W Ah At As Ap T) : DGet H W (.str "tails") (some (.ref At)) := wk_t h.ob
theorem WAt.gs (h : WAt H W Ah At As Ap T) : DGet H W (.str "sizes") (some (.ref As)) := wk_s h.ob
theorem WAt.gp (h : WAt H W Ah At As Ap T) : DGet H W (.str "pairs") (some (.ref Ap)) := wk_p h.ob
theorem not4 {b : Addr} (h : b ∉ W :: wL Ah At As Ap) : b ∉ wL Ah At As Ap := fun z => h (.tail _ z)
end
end Nx

/-! Programs whose rows may be the module's own constants. -/
namespace Nx
open PySem PySem.Spec PyProof.Rows L2
abbrev RowsK (K : PySem.W.Frag) (H : Hp) : List Addr → List Ins → Prop := Paired fun a i => SqT K H a i.vs
def PgK (K : PySem.W.Frag) (H : Hp) (p : Addr) (is : List Ins) : Prop := ∃ as : List Addr, H p = some (.lst (as.map V.ref)) ∧ RowsK K H as is
section
variable {K : PySem.W.Frag} {H H' : Hp} {p : Addr} {is : List Ins}
theorem PgAt.k (h : PgAt H p is) : PgK K H p is := by
  obtain ⟨as, h1, h2⟩ := h
  exact ⟨as, h1, Paired.imp (fun _ _ q => SqT.of q) h2⟩
instance : Coe (PgAt H p is) (PgK K H p is) := ⟨PgAt.k⟩
theorem PgK.same (h : PgK K H p is) (e : Same H H') : PgK K H' p is := by
  obtain ⟨as, h1, h2⟩ := h
  exact ⟨as, e _ _ h1, Paired.imp (fun _ _ q => Same.seqT e q) h2⟩
theorem PgK.len (h : PgK K H p is) : ∃ xs, H p = some (.lst xs) ∧ xs.length = is.length := by
  obtain ⟨as, h1, h2⟩ := h
  exact ⟨_, h1, by rw [List.length_map, Paired.len h2]⟩
theorem PgK.has (h : PgK K H p is) : H p ≠ none := fun z => by
  obtain ⟨as, h1, _⟩ := h
  rw [h1] at z
  cases z
theorem PgK.apart {r : Addr} (h : PgK K H p is) (n : H r = none) : p ≠ r := fun z => h.has (by rw [z]; exact n)
/-- an item of a program -/
theorem PgK.get (h : PgK K H p is) : ∃ xs : List V, H p = some (.lst xs) ∧ xs.length = is.length ∧ ∀ (i : Nat) (x : Ins), is[i]? = some x → ∃ a : Addr, xs[i]? = some (V.ref a) ∧ SqT K H a x.vs := by
  obtain ⟨as, h1, h2⟩ := h
  refine ⟨_, h1, by rw [List.length_map, Paired.len h2], fun i x hi => ?_⟩
  obtain ⟨a, e1, e2⟩ := Paired.get h2 hi
  exact ⟨a, by rw [List.getElem?_map, e1]; rfl, e2⟩
theorem Ins.dpK {a : Addr} {i : Ins} (h : SqT K H a i.vs) : Dp K H (.ref a) i.data := by
  refine .tup h (.cons (.str _) ?_)
  cases i with
  | set a t => exact .cons (.int _) (.cons (.str _) .nil)
  | move a b => exact .cons (.int _) (.cons (.int _) .nil)
  | cons a b c => exact .cons (.int _) (.cons (.int _) (.cons (.int _) .nil))
  | head a b => exact .cons (.int _) (.cons (.int _) .nil)
  | tail a b => exact .cons (.int _) (.cons (.int _) .nil)
  | jump a n => exact .cons (.int _) (.cons (.int _) .nil)
theorem rowsK_dp : ∀ {as : List Addr} {is : List Ins}, RowsK K H as is → DpAll K H (as.map V.ref) (is.map Ins.data)
  | _, _, .nil => .nil
  | _, _, .cons r t => .cons (Ins.dpK r) (rowsK_dp t)
theorem PgK.dp (h : PgK K H p is) : Dp K H (.ref p) (progD is) := by
  obtain ⟨as, h1, h2⟩ := h
  exact .lst (SqL.of h1) (rowsK_dp h2)
/-- no tuple stands at these -/
def NoT (H : Hp) (as : List Addr) : Prop := ∀ b ∈ as, (∀ ys, H b ≠ some (.tup ys)) ∧ ∀ o ys, H b ≠ some (.frz o (.tup ys))
theorem _root_.L2.SqT.butL {as : List Addr} {a : Addr} {xs : List V} (h : SqT K H a xs) (e : ButL as H H') (n : NoT H as) : SqT K H' a xs := by
  rcases h with (h | ⟨o, h⟩) | h
  · exact .inl (.inl (e _ _ (fun z => (n a z).1 xs h) h))
  · exact .inl (.inr ⟨o, e _ _ (fun z => (n a z).2 o xs h) h⟩)
  · exact .inr h
theorem PgK.butL {as : List Addr} (h : PgK K H p is) (e : ButL as H H') (n : NoT H as) (np : p ∉ as) : PgK K H' p is := by
  obtain ⟨qs, h1, h2⟩ := h
  exact ⟨qs, e _ _ np h1, Paired.imp (fun _ _ q => SqT.butL q e n) h2⟩
theorem NoT.lst {b : Addr} {xs : List V} {as : List Addr} (h : H b = some (.lst xs)) (n : NoT H as) : NoT H (b :: as) := fun c hc => by
  rcases List.mem_cons.mp hc with rfl | hc
  · rw [h]
    exact ⟨fun _ z => (by cases z), fun _ _ z => (by cases z)⟩
  · exact n c hc
theorem NoT.nil : NoT H [] := fun _ h => by cases h
theorem Strm.noT {st : Addr} (h : Strm H st) : NoT H [st] := by
  obtain ⟨l, ns, c, i, m, h1, _⟩ := h
  exact NoT.lst h1 .nil
theorem ExS.butL {st : Addr} (e : ExS st H H') : ButL [st] H H' := fun b o n h => e.k b o (fun z => n (by rw [z]; exact List.mem_singleton.mpr rfl)) h
theorem PgK.nst {st : Addr} (h : PgK K H p is) (s : Strm H st) : p ≠ st := fun z => by
  obtain ⟨as, h1, _⟩ := h
  obtain ⟨l, ns, c, i, m, h2, _⟩ := s
  rw [z, h2] at h1
  have h1 := HO.lst.inj (Option.some.inj h1)
  match as, h1 with
  | _ :: [], h1 => cases h1
  | _ :: _ :: _, h1 =>
    have := (List.cons.inj (List.cons.inj h1).2).1
    cases this
theorem PgK.draw {st : Addr} (h : PgK K H p is) (s : Strm H st) (e : ExS st H H') : PgK K H' p is := h.butL e.butL s.noT (fun z => h.nst s (List.mem_singleton.mp z))
section
variable {W Ah At As Ap : Addr} {T T' : List Tr}
theorem WAt.noT (h : WAt H W Ah At As Ap T) : NoT H (wL Ah At As Ap) := by
  obtain ⟨hs, ts, h1, h2, h3, g⟩ := h.tb.get
  obtain ⟨kvs, h4, _⟩ := h.ps
  refine NoT.lst h1 (NoT.lst h2 (NoT.lst h3 ?_))
  intro b hb
  cases List.mem_singleton.mp hb
  rw [h4]
  exact ⟨fun _ z => (by cases z), fun _ _ z => (by cases z)⟩
theorem WAt.noT5 (h : WAt H W Ah At As Ap T) : NoT H (W :: wL Ah At As Ap) := fun b hb => by
  rcases List.mem_cons.mp hb with rfl | hb
  · rw [h.ob]
    exact ⟨fun _ z => (by cases z), fun _ _ z => (by cases z)⟩
  · exact h.noT b hb
/-- a list of objects is none of the world's -/
theorem WAt.refs (h : WAt H W Ah At As Ap T) {as : List Addr} (hp : H p = some (.lst (as.map V.ref))) : p ∉ W :: wL Ah At As Ap := fun z => by
  obtain ⟨hs, ts, h1, h2, h3, g⟩ := h.tb.get
  obtain ⟨kvs, h4, _⟩ := h.ps
  have h5 := h.ob
  have l0 := (List.getElem?_eq_some_iff.mp g.z).1
  have no : ∀ (ns : List Nat), ns.length = T.length → H p ≠ some (.lst (natsV ns)) := fun ns hl e => by
    rw [hp] at e
    have e := HO.lst.inj (Option.some.inj e)
    match as, ns, e, hl with
    | [], [], _, hl => simp at hl; omega
    | a :: as, n :: ns, e, _ => cases (List.cons.inj e).1
  simp only [wL, List.mem_cons, List.not_mem_nil, or_false] at z
  rcases z with rfl | rfl | rfl | rfl | rfl
  · rw [h5] at hp; cases hp
  · exact no hs g.lh h1
  · exact no ts g.lt h2
  · rw [h3] at hp
    have e := HO.lst.inj (Option.some.inj hp)
    match as, T, e, l0 with
    | [], t :: T, e, _ => cases e
    | a :: as, t :: T, e, _ => cases (List.cons.inj e).1
  · rw [h4] at hp; cases hp
theorem WAt.pg (h : WAt H W Ah At As Ap T) (hp : PgK K H p is) : p ∉ W :: wL Ah At As Ap := by
  obtain ⟨as, h1, _⟩ := hp
  exact h.refs h1
theorem PgK.wld (hp : PgK K H p is) (h : WAt H W Ah At As Ap T) (e : ButL (wL Ah At As Ap) H H') : PgK K H' p is := hp.butL e h.noT (not4 (h.pg hp))
end
end
theorem sl_anyK {K : PySem.W.Frag} {H : Hp} {a : Addr} {xs : List V} {lo hi : Option Int} {Q : VK} (h : SqT K H a xs) (q : ∀ b H', Same H H' → SqT K H' b (cutV xs lo hi) → Q (.ref b) H') : rSlA K (.ref a) lo hi H Q := by
  refine ⟨a, xs, rfl, h, fun hw => q a H (.refl _) ?_, fun _ p np => q p _ (Same.upd np) (SqT.of upd_same)⟩
  have : cutV xs lo hi = xs := by
    unfold cutV
    rw [hw.1, hw.2, List.drop_zero, Nat.sub_zero]
    exact List.take_of_length_le (Nat.le_refl _)
  rw [this]
  exact h
/-! ### a program as the law's own runs hold it -/
def ldV (i : Ins) (n : Nat) : List V := match i with
  | .set a _ => [.str "set", .int a, .int n]
  | i => i.vs
def LdAt (K : PySem.W.Frag) (H : Hp) (T : List Tr) (L : Addr) (is : List Ins) : Prop := ∃ qs : List Addr, H L = some (.lst (qs.map V.ref)) ∧ qs.length = is.length ∧ ∀ (j : Nat) (i : Ins), is[j]? = some i → ∃ (q : Addr) (n : Nat), qs[j]? = some q ∧ SqT K H q (ldV i n) ∧ SetN T i n
theorem LdAt.on {K : PySem.W.Frag} {H H' : Hp} {T T' : List Tr} {L : Addr} {is : List Ins} {as : List Addr} (h : LdAt K H T L is) (e : ButL as H H') (n : NoT H as) (nL : L ∉ as) (x : Ext T T') : LdAt K H' T' L is := by
  obtain ⟨qs, h1, h2, h3⟩ := h
  refine ⟨qs, e _ _ nL h1, h2, fun j i hi => ?_⟩
  obtain ⟨q, m, a, b, c⟩ := h3 j i hi
  exact ⟨q, m, a, b.butL e n, c.ext x⟩
/-! ### a program that is drawn, its trees of at most t pairs -/
structure PIn (t : Nat) (H2 : Hp) (st p : Addr) (wide many : Nat) (as : List Addr) (is : List Ins) (H' : Hp) : Prop where
  at_ : H' p = some (.lst (as.map V.ref))
  rows : Rows H' as is
  ok : ∀ (j : Nat) (x : Ins), is[j]? = some x → x.ok wide t j many
  ex : ExS st H2 H'
  sm : Strm H' st
theorem PIn.go {t : Nat} {H2 H5 H6 : Hp} {st p : Addr} {wide many : Nat} {as : List Addr} {is : List Ins} (np : p ≠ st) (h : PIn t H2 st p wide many as is H5) (e : ExS st H5 H6) (s : Strm H6 st) : PIn t H2 st p wide many as is H6 :=
  ⟨e _ _ np h.at_, Rows.exs h.sm e h.rows, h.ok, h.ex.trans e, s⟩
theorem PIn.push {t : Nat} {H2 H5 : Hp} {st p T : Addr} {wide many : Nat} {as : List Addr} {is : List Ins} {x : Ins} (hp : H2 p = none) (s2 : Strm H2 st) (h : PIn t H2 st p wide many as is H5) (hx : x.ok wide t is.length many) (hT : H5 T = none) :
    PIn t H2 st p wide many (as ++ [T]) (is ++ [x]) (upd (upd H5 T (.tup x.vs)) p (.lst (as.map V.ref ++ [.ref T]))) := by
  have np : p ≠ st := s2.ne hp
  have smT := Same.upd (o := .tup x.vs) hT
  have e1 : ExS st H2 (upd H5 T (.tup x.vs)) := h.ex.trans smT.exs
  refine ⟨?_, Rows.push h.rows h.at_ hT, fun j y hj => ?_, .off np hp e1, s2.off hp e1 (smT.strm h.sm)⟩
  · rw [upd_same, List.map_append]
    rfl
  · by_cases c : j < is.length
    · rw [List.getElem?_append_left c] at hj
      exact h.ok j y hj
    · have c2 : j = is.length := by
        have := (List.getElem?_eq_some_iff.mp hj).1
        rw [List.length_append] at this
        have h1 : ([x] : List Ins).length = 1 := rfl
        omega
      subst c2
      rw [List.getElem?_append_right (Nat.le_refl _), Nat.sub_self] at hj
      have : x = y := by simpa using hj
      rw [← this]
      exact hx
theorem PIn.done {t : Nat} {H2 H' : Hp} {st p : Addr} {wide many : Nat} {as : List Addr} {is : List Ins} (h : PIn t H2 st p wide many as is H') (hl : is.length = many) : PgAt H' p is ∧ PgOk wide t is :=
  ⟨⟨as, h.at_, h.rows⟩, fun i x hi => by
    rw [hl]
    exact h.ok i x hi⟩
theorem PIn.size {t : Nat} {H2 H' : Hp} {st p : Addr} {wide many : Nat} {as : List Addr} {is : List Ins} (h : PIn t H2 st p wide many as is H') : (as.map V.ref).length = is.length := by
  rw [List.length_map, Paired.len h.rows]
/-! ### the stream beside a world -/
structure Free (H : Hp) (st : Addr) (as : List Addr) : Prop where
  sm : Strm H st
  n1 : st ∉ as
  n2 : ∀ l r, H st = some (.lst (.ref l :: r)) → l ∉ as
theorem Free.draw {H H' : Hp} {st : Addr} {as : List Addr} (h : Free H st as) (e : ExS st H H') (s : Strm H' st) : Free H' st as := by
  refine ⟨s, h.n1, fun l r hl => ?_⟩
  obtain ⟨l0, ns, c, i, m, h1, _⟩ := h.sm
  obtain ⟨r', h'⟩ := e.hd l0 _ h1
  rw [hl] at h'
  have := (List.cons.inj (HO.lst.inj (Option.some.inj h'))).1
  rw [V.ref.inj this]
  exact h.n2 l0 _ h1
theorem Free.but {H H' : Hp} {st : Addr} {as : List Addr} (h : Free H st as) (e : ButL as H H') : Free H' st as := by
  obtain ⟨l0, ns, c, i, m, h1, h2, h3⟩ := h.sm
  have g := e st _ h.n1 h1
  refine ⟨⟨l0, ns, c, i, m, g, e l0 _ (h.n2 l0 _ h1) h2, h3⟩, h.n1, fun l r hl => ?_⟩
  rw [g] at hl
  have := (List.cons.inj (HO.lst.inj (Option.some.inj hl))).1
  rw [← V.ref.inj this]
  exact h.n2 l0 _ h1
theorem Free.same {H H' : Hp} {st : Addr} {as : List Addr} (h : Free H st as) (e : Same H H') : Free H' st as := h.but (e.butL (as := as))
theorem Free.of {H H' : Hp} {st : Addr} {as : List Addr} (s : Strm H st) (e : Same H H') (n : ∀ b ∈ as, H b = none) : Free H' st as := by
  obtain ⟨l0, ns, c, i, m, h1, h2, h3⟩ := s
  refine ⟨⟨l0, ns, c, i, m, e _ _ h1, e _ _ h2, h3⟩, fun z => ?_, fun l r hl z => ?_⟩
  · rw [n st z] at h1
    cases h1
  · rw [e _ _ h1] at hl
    have := V.ref.inj (List.cons.inj (HO.lst.inj (Option.some.inj hl))).1
    rw [← this] at z
    rw [n l0 z] at h2
    cases h2
theorem Free.sub {H : Hp} {st : Addr} {as bs : List Addr} (h : Free H st as) (e : ∀ b ∈ bs, b ∈ as) : Free H st bs := ⟨h.sm, fun z => h.n1 (e _ z), fun l r hl z => h.n2 l r hl (e _ z)⟩
theorem Free.add {H : Hp} {st b : Addr} {as : List Addr} (h : Free H st as) (n : H b = none) : Free H st (b :: as) := by
  obtain ⟨l0, ns, c, i, m, h1, h2, h3⟩ := h.sm
  refine ⟨h.sm, fun z => ?_, fun l r hl z => ?_⟩
  · rcases List.mem_cons.mp z with z | z
    · rw [z, n] at h1
      cases h1
    · exact h.n1 z
  · rcases List.mem_cons.mp z with z | z
    · rw [h1] at hl
      have := V.ref.inj (List.cons.inj (HO.lst.inj (Option.some.inj hl))).1
      rw [← z, ← this, h2] at n
      cases n
    · exact h.n2 l r hl z
theorem WAt.draw {H H' : Hp} {W Ah At As Ap st : Addr} {T : List Tr} (h : WAt H W Ah At As Ap T) (f : Free H st (W :: wL Ah At As Ap)) (e : ExS st H H') : WAt H' W Ah At As Ap T := h.but e.butL (fun b hb z => f.n1 (by rw [← List.mem_singleton.mp z]; exact hb))
theorem ButL.up {as bs : List Addr} {H H' : Hp} (e : ButL as H H') (h : ∀ b ∈ as, b ∈ bs) : ButL bs H H' := fun b o n x => e b o (fun z => n (h b z)) x
theorem Free.wld {H H' : Hp} {W Ah At As Ap st : Addr} (f : Free H st (W :: wL Ah At As Ap)) (e : ButL (wL Ah At As Ap) H H') : Free H' st (W :: wL Ah At As Ap) := f.but (e.up fun _ z => .tail _ z)
theorem PgAt.but1 {H H' : Hp} {p r : Addr} {is : List Ins} {ys : List V} (h : PgAt H p is) (n : p ≠ r) (e : ButL [r] H H') (hr : H r = Option.some (.lst ys)) : PgAt H' p is := by
  refine h.butL (fun z => n (List.mem_singleton.mp z)) e (fun b hb => ⟨ys, ?_⟩)
  rw [List.mem_singleton.mp hb]
  exact hr
theorem PgAt.wld {H H' : Hp} {W Ah At As Ap p : Addr} {T : List Tr} {is : List Ins} (hp : PgAt H p is) (h : WAt H W Ah At As Ap T) (e : ButL (wL Ah At As Ap) H H') : PgAt H' p is := by
  obtain ⟨as, h1, h2⟩ := hp
  exact ⟨as, e _ _ (not4 (h.refs h1)) h1, Paired.imp (fun a i q => e a _ (not4 (h.tup q)) q) h2⟩
theorem eqvAll_len : ∀ {xs ys : List PyData}, PyData.eqvAll xs ys = true → xs.length = ys.length
  | [], [], _ => rfl
  | x :: xs, y :: ys, h => by
    have h : (PyData.eqv x y && PyData.eqvAll xs ys) = true := h
    rw [Bool.and_eq_true] at h
    rw [List.length_cons, List.length_cons, eqvAll_len h.2]
  | [], _ :: _, h => by cases h
  | _ :: _, [], h => by cases h
/-- one more row at the end of a program -/
theorem pg_snoc {H : Hp} {p T : Addr} {is : List Ins} {xs : List V} {i : Ins} (h : PgAt H p is) (hp : H p = some (.lst xs)) (nT : H T = none) : PgAt (upd (upd H T (.tup i.vs)) p (.lst (xs ++ [.ref T]))) p (is ++ [i]) := by
  obtain ⟨as, h1, h2⟩ := h
  rw [hp] at h1
  have e := HO.lst.inj (Option.some.inj h1)
  subst e
  refine ⟨as ++ [T], by rw [upd_same, List.map_append]; rfl, Rows.push h2 hp nT⟩
end Nx

/-! The order of trees: how many rows of trees there are, ranks, the tree behind a tree; math.comb; rfind of two signs. -/
namespace Nx
open PySem PySem.Spec PyProof.Rows L2

/-! ### math.comb -/
def rComb : List V → Hp → VK → Prop := fun vs H Q => ∃ a b : Nat, vs = [.int a, .int b] ∧ a ≤ 18000 ∧ Q (.int (PySem.W.mcComb a b)) H
theorem cr_comb {X : Cx} : CallR X (.builtin "math.comb") rComb := by
  intro pn s1 σ1 H1 ws us1 Q1 I1 r1 h1
  obtain ⟨a, b, rfl, ha, q⟩ := h1
  obtain ⟨ta, tb, rfl⟩ := Vals.int2 r1
  exact PySem.W.mc_comb (by omega) (by omega) (by omega) (.inr (by omega)) fun _ => ⟨.int _, H1, I1.tok _, ⟨_, rfl⟩, q⟩

/-! ### how many rows of w trees have p pairs together -/
noncomputable def bal : Nat → Nat → Nat
  | 0 => fun _ => 1
  | p + 1 => fun w => Nat.rec (motive := fun _ => Nat) 0 (fun i a => a + bal p (i + 2)) w
theorem bal_z (w : Nat) : bal 0 w = 1 := rfl
theorem bal_0 (p : Nat) : bal (p + 1) 0 = 0 := rfl
theorem bal_s (p w : Nat) : bal (p + 1) (w + 1) = bal (p + 1) w + bal p (w + 2) := rfl
/-- the program's way to reckon it -/
def balF (w p : Nat) : Int := PySem.W.mcComb ((2 * p + w : Nat) : Int) (p : Int) * (w : Int) / ((2 * p + w : Nat) : Int)
def balC : Bool := (List.range 33).all fun p => (List.range (33 - p)).all fun w => decide (balF (w + 1) (p + 1) = balF w (p + 1) + balF (w + 2) p)
theorem balC_yes : balC = true := by decide +kernel
theorem balF_s {w p : Nat} (h : w + p ≤ 32) : balF (w + 1) (p + 1) = balF w (p + 1) + balF (w + 2) p := by
  have h1 := List.all_eq_true.mp balC_yes p (List.mem_range.mpr (by omega))
  have h2 := List.all_eq_true.mp h1 w (List.mem_range.mpr (by omega))
  exact of_decide_eq_true h2
theorem balF_0 (p : Nat) : balF 0 p = 0 := by
  unfold balF
  show (_ * 0) / _ = (0 : Int)
  rw [Int.mul_zero, Int.zero_ediv]
theorem balF_z (w : Nat) : balF (w + 1) 0 = 1 := by
  unfold balF
  rw [show 2 * 0 + (w + 1) = w + 1 by omega, PySem.W.mcComb_ends (b := ((0 : Nat) : Int)) (by decide) (by omega) (.inl rfl), Int.one_mul]
  exact Int.ediv_self (by omega)
theorem balF_eq : ∀ (p w : Nat), w + p ≤ 34 → 0 < w + p → balF w p = (bal p w : Nat)
  | 0, 0, _, h => absurd h (by decide)
  | 0, w + 1, _, _ => by
    rw [balF_z]
    rfl
  | p + 1, 0, _, _ => by
    rw [balF_0]
    rfl
  | p + 1, w + 1, h, _ => by
    rw [balF_s (by omega), balF_eq (p + 1) w (by omega) (by omega), balF_eq p (w + 2) (by omega) (by omega), bal_s]
    omega
theorem bal_le (p w : Nat) : bal p w ≤ bal p (w + 1) := by
  cases p with
  | zero => exact Nat.le_refl 1
  | succ p =>
    rw [bal_s]
    omega

/-! ### ranks -/
noncomputable def rk : Nat → Nat → List Nat → Nat
  | _, _, [] => 0
  | w, p, c :: l => if c = 49 then bal p (w - 1) + rk (w + 1) (p - 1) l else rk (w - 1) p l
noncomputable def bse (p : Nat) : Nat := ((List.range p).map fun q => bal q 1).sum
noncomputable def rankL (l : List Nat) : Nat := bse (l.count 49) + rk 1 (l.count 49) l
theorem bse_s (p : Nat) : bse (p + 1) = bse p + bal p 1 := by
  unfold bse
  rw [List.range_succ, List.map_append, List.sum_append]
  rfl
theorem bse_sum (n : Nat) : ((List.range n).map fun q => ((bal q 1 : Nat) : Int)).sum = ((bse n : Nat) : Int) := by
  induction n with
  | zero => rfl
  | succ n ih =>
    rw [List.range_succ, List.map_append, List.sum_append, ih, bse_s]
    show _ + (((bal n 1 : Nat) : Int) + 0) = _
    omega
theorem rk_1 (w p : Nat) (l : List Nat) : rk w p (49 :: l) = bal p (w - 1) + rk (w + 1) (p - 1) l := if_pos rfl
theorem rk_0 (w p : Nat) (l : List Nat) : rk w p (48 :: l) = rk (w - 1) p l := if_neg (by decide)
theorem scan_1 (w : Nat) (l : List Nat) : scan (w + 1) (49 :: l) = scan (w + 2) l := by
  show (if w + 1 = 0 ∨ ¬ (49 = 48 ∨ 49 = 49) then none else scan (if 49 = 48 then w + 1 - 1 else w + 1 + 1) l) = _
  rw [if_neg (fun z => z.elim (by omega) fun z => z (.inr rfl)), if_neg (by decide)]
theorem scan_0 (w : Nat) (l : List Nat) : scan (w + 1) (48 :: l) = scan w l := by
  show (if w + 1 = 0 ∨ ¬ (48 = 48 ∨ 48 = 49) then none else scan (if 48 = 48 then w + 1 - 1 else w + 1 + 1) l) = _
  rw [if_neg (fun z => z.elim (by omega) fun z => z (.inl rfl)), if_pos rfl]
  rfl
/-- a row that goes on begins so -/
theorem scan_cons {w k c : Nat} {l : List Nat} (h : scan w (c :: l) = some k) : ∃ v, w = v + 1 ∧ ((c = 48 ∧ scan v l = some k) ∨ (c = 49 ∧ scan (v + 2) l = some k)) := by
  have h' : (if w = 0 ∨ ¬ (c = 48 ∨ c = 49) then none else scan (if c = 48 then w - 1 else w + 1) l) = some k := h
  by_cases hc : w = 0 ∨ ¬ (c = 48 ∨ c = 49)
  · rw [if_pos hc] at h'
    cases h'
  · have hw : w ≠ 0 := fun z => hc (.inl z)
    obtain ⟨v, rfl⟩ : ∃ v, w = v + 1 := ⟨w - 1, by omega⟩
    refine ⟨v, rfl, ?_⟩
    by_cases h8 : c = 48
    · subst h8
      exact .inl ⟨rfl, by rw [scan_0] at h; exact h⟩
    · by_cases h9 : c = 49
      · subst h9
        exact .inr ⟨rfl, by rw [scan_1] at h; exact h⟩
      · exact absurd (.inr (fun z => z.elim h8 h9)) hc
theorem cnt_1 (l : List Nat) : (49 :: l).count 49 = l.count 49 + 1 := List.count_cons_self
theorem cnt_0 (l : List Nat) : (48 :: l).count 49 = l.count 49 := List.count_cons_of_ne (by decide)
theorem scan_len : ∀ (l : List Nat) (w k : Nat), scan w l = some k → k + l.length = w + 2 * l.count 49
  | [], w, k, h => by
    cases h
    rfl
  | c :: l, w, k, h => by
    obtain ⟨v, rfl, ⟨rfl, h1⟩ | ⟨rfl, h1⟩⟩ := scan_cons h
    · have := scan_len l v k h1
      rw [cnt_0, List.length_cons]
      omega
    · have := scan_len l (v + 2) k h1
      rw [cnt_1, List.length_cons]
      omega
/-- a row's parts -/
theorem scan_split : ∀ (a b : List Nat) (w k : Nat), scan w (a ++ b) = some k → ∃ v, scan w a = some v ∧ scan v b = some k
  | [], b, w, k, h => ⟨w, rfl, h⟩
  | c :: a, b, w, k, h => by
    obtain ⟨v, rfl, ⟨rfl, h1⟩ | ⟨rfl, h1⟩⟩ := scan_cons (l := a ++ b) h
    · obtain ⟨u, h2, h3⟩ := scan_split a b v k h1
      exact ⟨u, by rw [scan_0]; exact h2, h3⟩
    · obtain ⟨u, h2, h3⟩ := scan_split a b (v + 2) k h1
      exact ⟨u, by rw [scan_1]; exact h2, h3⟩
theorem scan_ones : ∀ (n w : Nat) (r : List Nat), scan (w + 1) (List.replicate n 49 ++ r) = scan (w + 1 + n) r
  | 0, w, r => rfl
  | n + 1, w, r => by
    show scan (w + 1) (49 :: (List.replicate n 49 ++ r)) = _
    rw [scan_1, show w + 2 = (w + 1) + 1 by omega, scan_ones n (w + 1) r]
    congr 1
    omega
theorem scan_zeros : ∀ (n w : Nat) (r : List Nat), scan (w + n) (List.replicate n 48 ++ r) = scan w r
  | 0, w, r => rfl
  | n + 1, w, r => by
    show scan (w + n + 1) (48 :: (List.replicate n 48 ++ r)) = _
    rw [scan_0, scan_zeros n w r]
theorem scan_tens : ∀ (n w : Nat) (r : List Nat), scan (w + 1) (repL n [49, 48] ++ r) = scan (w + 1) r
  | 0, w, r => rfl
  | n + 1, w, r => by
    rw [show repL (n + 1) [49, 48] = 49 :: 48 :: repL n [49, 48] from rfl]
    show scan (w + 1) (49 :: 48 :: (repL n [49, 48] ++ r)) = _
    rw [scan_1, scan_0, scan_tens n w r]
theorem scan_tree : ∀ (t : Tr) (w : Nat) (r : List Nat), scan (w + 1) (t.sg ++ r) = scan w r
  | .leaf, w, r => scan_0 w r
  | .node a b, w, r => by
    show scan (w + 1) (49 :: (a.sg ++ b.sg) ++ r) = _
    rw [List.cons_append, scan_1, List.append_assoc, scan_tree a (w + 1), scan_tree b w]
theorem scan_sg (t : Tr) : scan 1 t.sg = some 0 := by
  have := scan_tree t 0 []
  rw [List.append_nil] at this
  exact this
theorem tr_of {l : List Nat} (h : scan 1 l = some 0) : ∃ t : Tr, l = t.sg := (isT_true l).mp (by rw [isT_scan, h]; rfl)

theorem rk_lt : ∀ (l : List Nat) (w p : Nat), scan w l = some 0 → l.count 49 = p → rk w p l < bal p w
  | [], w, p, h, hp => by
    cases h
    cases hp
    exact Nat.zero_lt_one
  | c :: l, w, p, h, hp => by
    obtain ⟨v, rfl, ⟨rfl, h1⟩ | ⟨rfl, h1⟩⟩ := scan_cons h
    · rw [cnt_0] at hp
      rw [rk_0]
      exact Nat.lt_of_lt_of_le (rk_lt l v p h1 hp) (bal_le p v)
    · rw [cnt_1] at hp
      subst hp
      rw [rk_1, bal_s]
      have := rk_lt l (v + 2) _ h1 rfl
      show bal _ v + rk (v + 2) _ l < _
      rw [show l.count 49 + 1 - 1 = l.count 49 by omega]
      omega
/-- in the order of strings -/
def ltL : List Nat → List Nat → Prop
  | a :: l, b :: m => a < b ∨ (a = b ∧ ltL l m)
  | [], _ :: _ => True
  | _, [] => False
theorem rk_mono : ∀ (l m : List Nat) (w p : Nat), scan w l = some 0 → scan w m = some 0 → l.count 49 = p → m.count 49 = p → ltL l m → rk w p l < rk w p m
  | [], [], _, _, _, _, _, _, h => h.elim
  | [], _ :: _, w, p, h1, h2, _, _, _ => by
    cases h1
    obtain ⟨v, z, _⟩ := scan_cons h2
    omega
  | _ :: _, [], _, _, _, _, _, _, h => h.elim
  | a :: l, b :: m, w, p, h1, h2, c1, c2, h => by
    obtain ⟨v, rfl, ⟨rfl, h1'⟩ | ⟨rfl, h1'⟩⟩ := scan_cons h1
    · rw [cnt_0] at c1
      obtain ⟨v2, e2, ⟨rfl, h2'⟩ | ⟨rfl, h2'⟩⟩ := scan_cons h2
      · obtain rfl : v = v2 := by omega
        rw [cnt_0] at c2
        rw [rk_0, rk_0]
        exact rk_mono l m v p h1' h2' c1 c2 (h.elim (fun z => absurd z (Nat.lt_irrefl _)) fun z => z.2)
      · rw [rk_0, rk_1]
        have := rk_lt l v p h1' c1
        show rk v p l < bal p v + _
        omega
    · obtain ⟨v2, e2, ⟨rfl, h2'⟩ | ⟨rfl, h2'⟩⟩ := scan_cons h2
      · exact absurd h (fun z => z.elim (by decide) fun z => absurd z.1 (by decide))
      · obtain rfl : v = v2 := by omega
        rw [cnt_1] at c1 c2
        rw [rk_1, rk_1]
        have := rk_mono l m (v + 2) (p - 1) h1' h2' (by omega) (by omega) (h.elim (fun z => absurd z (Nat.lt_irrefl _)) fun z => z.2)
        show bal p v + rk (v + 2) _ l < bal p v + rk (v + 2) _ m
        omega
theorem ltL_tri : ∀ l m : List Nat, ltL l m ∨ l = m ∨ ltL m l
  | [], [] => .inr (.inl rfl)
  | [], _ :: _ => .inl trivial
  | _ :: _, [] => .inr (.inr trivial)
  | a :: l, b :: m => by
    rcases Nat.lt_trichotomy a b with h | h | h
    · exact .inl (.inl h)
    · subst h
      rcases ltL_tri l m with h | h | h
      · exact .inl (.inr ⟨rfl, h⟩)
      · exact .inr (.inl (by rw [h]))
      · exact .inr (.inr (.inr ⟨rfl, h⟩))
    · exact .inr (.inr (.inl h))
theorem bse_le {p q : Nat} (h : p < q) : bse (p + 1) ≤ bse q := by
  induction q with
  | zero => omega
  | succ q ih =>
    by_cases e : p = q
    · rw [e]
      exact Nat.le_refl _
    · have := ih (by omega)
      rw [bse_s q]
      omega
theorem rankL_lt {l m : List Nat} (h1 : scan 1 l = some 0) (h2 : scan 1 m = some 0) (h : l.count 49 < m.count 49 ∨ (l.count 49 = m.count 49 ∧ ltL l m)) : rankL l < rankL m := by
  unfold rankL
  rcases h with h | ⟨h, hl⟩
  · have a1 := rk_lt l 1 _ h1 rfl
    have a2 := bse_le h
    rw [bse_s] at a2
    omega
  · have := rk_mono l m 1 _ h1 h2 h rfl hl
    rw [h]
    omega
theorem rankL_inj {l m : List Nat} (h1 : scan 1 l = some 0) (h2 : scan 1 m = some 0) (h : rankL l = rankL m) : l = m := by
  rcases Nat.lt_trichotomy (l.count 49) (m.count 49) with c | c | c
  · have := rankL_lt h1 h2 (.inl c)
    omega
  · rcases ltL_tri l m with d | d | d
    · have := rankL_lt h1 h2 (.inr ⟨c, d⟩)
      omega
    · exact d
    · have := rankL_lt h2 h1 (.inr ⟨c.symm, d⟩)
      omega
  · have := rankL_lt h2 h1 (.inl c)
    omega

/-! ### the tree behind a tree -/
/-- what stands in front of the last 0 that a 1 follows, and behind both -/
def sp01 : List Nat → Option (List Nat × List Nat)
  | [] => none
  | x :: l => match sp01 l with
    | some (a, b) => some (x :: a, b)
    | none => match l with
      | [] => none
      | y :: r => if x = 48 ∧ y = 49 then some ([], r) else none
theorem sp01_some : ∀ {l a b : List Nat}, sp01 l = some (a, b) → l = a ++ 48 :: 49 :: b ∧ sp01 (49 :: b) = none
  | [], _, _, h => nomatch h
  | x :: l, a, b, h => by
    cases e : sp01 l with
    | some ab =>
      obtain ⟨a', b'⟩ := ab
      have h' : some (x :: a', b') = some (a, b) := by
        rw [← h]
        show _ = (match sp01 l with | some (a, b) => some (x :: a, b) | none => _)
        rw [e]
      cases h'
      obtain ⟨e1, e2⟩ := sp01_some e
      exact ⟨by rw [e1]; rfl, e2⟩
    | none =>
      cases l with
      | nil =>
        exact nomatch h
      | cons y r =>
        have h' : (if x = 48 ∧ y = 49 then some (([] : List Nat), r) else none) = some (a, b) := by
          rw [← h]
          show _ = (match sp01 (y :: r) with | some (a, b) => some (x :: a, b) | none => _)
          rw [e]
        by_cases c : x = 48 ∧ y = 49
        · rw [if_pos c] at h'
          cases h'
          obtain ⟨rfl, rfl⟩ := c
          exact ⟨rfl, e⟩
        · rw [if_neg c] at h'
          cases h'
theorem sp01_tail {x : Nat} {l : List Nat} (h : sp01 (x :: l) = none) : sp01 l = none := by
  cases e : sp01 l with
  | none => rfl
  | some ab =>
    have : sp01 (x :: l) = some (x :: ab.1, ab.2) := by
      show (match sp01 l with | some (a, b) => some (x :: a, b) | none => _) = _
      rw [e]
    rw [this] at h
    cases h
theorem sp01_no {x y : Nat} {l : List Nat} (h : sp01 (x :: y :: l) = none) : ¬ (x = 48 ∧ y = 49) := fun c => by
  have e := sp01_tail h
  have : sp01 (x :: y :: l) = some ([], l) := by
    show (match sp01 (y :: l) with | some (a, b) => some (x :: a, b) | none => if x = 48 ∧ y = 49 then some (([] : List Nat), l) else none) = _
    rw [e]
    exact if_pos c
  rw [this] at h
  cases h
/-- no 0 with a 1 behind it: all ones stand in front -/
theorem sp01_none : ∀ {l : List Nat}, sp01 l = none → all01 l → ∃ j m, l = List.replicate j 49 ++ List.replicate m 48
  | [], _, _ => ⟨0, 0, rfl⟩
  | x :: l, h, h2 => by
    obtain ⟨j, m, e⟩ := sp01_none (sp01_tail h) (fun c hc => h2 c (List.mem_cons_of_mem _ hc))
    rcases h2 x (List.mem_cons_self ..) with rfl | rfl
    · cases j with
      | zero => exact ⟨0, m + 1, by rw [e]; rfl⟩
      | succ j =>
        rw [e, List.replicate_succ, List.cons_append] at h
        exact absurd ⟨rfl, rfl⟩ (sp01_no h)
    · exact ⟨j + 1, m, by rw [e]; rfl⟩
/-- no such place, said by places -/
theorem sp01_at : ∀ {l : List Nat}, sp01 l = none → ∀ i, ¬ (l[i]? = some 48 ∧ l[i + 1]? = some 49)
  | [], _, i, h => nomatch h.1
  | x :: l, e, 0, h => by
    cases l with
    | nil => exact nomatch h.2
    | cons y r =>
      have h1 : some x = some 48 := h.1
      have h2 : some y = some 49 := h.2
      exact sp01_no e ⟨Option.some.inj h1, Option.some.inj h2⟩
  | x :: l, e, i + 1, h => sp01_at (sp01_tail e) i h
theorem at_01 (l : List Nat) (i : Nat) : StrLaws.At (stS l) (stS [48, 49]) (stS l).length i ↔ (l[i]? = some 48 ∧ l[i + 1]? = some 49) := by
  unfold StrLaws.At
  rw [StrLaws.subAt_eq, stS_len, stS_len]
  show (i + 2 ≤ l.length ∧ ((l.drop i).take 2 == [48, 49]) = true) ↔ _
  rw [← List.getElem?_drop (i := i) (j := 1), show l[i]? = (l.drop i)[0]? by rw [List.getElem?_drop]; rfl]
  have hl : (l.drop i).length = l.length - i := List.length_drop
  match h : l.drop i with
  | [] =>
    rw [h] at hl
    constructor
    · intro z
      exact absurd z.2 (by decide)
    · intro z
      exact nomatch z.1
  | [x] =>
    constructor
    · intro z
      exact absurd (beq_iff_eq.mp z.2) (fun q => nomatch q)
    · intro z
      exact nomatch z.2
  | x :: y :: r =>
    rw [h] at hl
    have hl' : r.length + 2 = l.length - i := hl
    constructor
    · intro z
      have q : [x, y] = [48, 49] := beq_iff_eq.mp z.2
      cases q
      exact ⟨rfl, rfl⟩
    · intro z
      have q1 : some x = some 48 := z.1
      have q2 : some y = some 49 := z.2
      cases q1
      cases q2
      exact ⟨by omega, rfl⟩
theorem at_mid (a b : List Nat) : (a ++ 48 :: 49 :: b)[a.length]? = some 48 ∧ (a ++ 48 :: 49 :: b)[a.length + 1]? = some 49 := by
  rw [List.getElem?_append_right (Nat.le_refl _), List.getElem?_append_right (by omega), Nat.sub_self, show a.length + 1 - a.length = 1 by omega]
  exact ⟨rfl, rfl⟩
theorem rfind_01 (l : List Nat) : Txt.rfind (stS l) (stS [48, 49]) = match sp01 l with | some (a, _) => (a.length : Int) | none => -1 := by
  unfold Txt.rfind
  rcases StrLaws.last_spec (stS l) (stS [48, 49]) with ⟨e, hn⟩ | ⟨i, e, hi, hn⟩
  · rw [e]
    cases h : sp01 l with
    | none => rfl
    | some ab =>
      obtain ⟨a, b⟩ := ab
      obtain ⟨rfl, _⟩ := sp01_some h
      exact absurd ((at_01 _ _).mpr (at_mid a b)) (hn _)
  · rw [e]
    have hi' := (at_01 l i).mp hi
    cases h : sp01 l with
    | none => exact absurd hi' (sp01_at h i)
    | some ab =>
      obtain ⟨a, b⟩ := ab
      obtain ⟨rfl, hb⟩ := sp01_some h
      show (i : Int) = (a.length : Int)
      have h1 : ¬ i < a.length := fun z => hn _ z ((at_01 _ _).mpr (at_mid a b))
      have h2 : ¬ a.length < i := fun z => by
        obtain ⟨k, rfl⟩ : ∃ k, i = a.length + 1 + k := ⟨i - a.length - 1, by omega⟩
        refine sp01_at hb k ?_
        obtain ⟨q1, q2⟩ := hi'
        rw [List.getElem?_append_right (by omega), show a.length + 1 + k - a.length = k + 1 by omega] at q1
        rw [List.getElem?_append_right (by omega), show a.length + 1 + k + 1 - a.length = k + 1 + 1 by omega] at q2
        exact ⟨q1, q2⟩
      omega
theorem in_01 (l : List Nat) : (!(Builtin.Str.occurrences (stS l) (stS [48, 49]) 0 (stS l).length 1).isEmpty) = (sp01 l).isSome := by
  rw [Bool.eq_iff_iff, StrLaws.found_iff]
  constructor
  · rintro ⟨i, hi⟩
    have := (at_01 l i).mp hi
    cases h : sp01 l with
    | none => exact absurd this (sp01_at h i)
    | some _ => rfl
  · intro h
    cases e : sp01 l with
    | none =>
      rw [e] at h
      cases h
    | some ab =>
      obtain ⟨a, b⟩ := ab
      obtain ⟨rfl, _⟩ := sp01_some e
      exact ⟨_, (at_01 _ _).mpr (at_mid a b)⟩
theorem count_from (x : Str) (c i : Nat) : Txt.count3 x ⟨#[c]⟩ (i : Int) = ((x.cps.toList.drop i).count c : Nat) := by
  have h := count_in x c i (i + x.length) (by omega)
  rw [show i + x.length - i = x.length by omega, List.take_of_length_le (by rw [List.length_drop]; show x.cps.toList.length - i ≤ x.cps.size; rw [Array.length_toList]; omega)] at h
  refine Eq.trans ?_ h
  show (((Builtin.Str.occurrences x ⟨#[c]⟩ (fromIndex x.length (i : Int)) x.length (x.length + 1)).length : Nat) : Int) = (((Builtin.Str.occurrences x ⟨#[c]⟩ (fromIndex x.length (i : Int)) (toIndexW x.length ((i + x.length : Nat) : Int)) (x.length + 1)).length : Nat) : Int)
  have e2 : toIndexW x.length ((i + x.length : Nat) : Int) = x.length := by
    unfold toIndexW
    rw [if_neg (by omega)]
    omega
  rw [e2]

/-- the following tree's signs -/
def restL (n q : Nat) : List Nat := List.replicate (n - 2 * q) 48 ++ repL q [49, 48] ++ [48]
def nxL (l : List Nat) : List Nat := match sp01 l with
  | some (a, b) => a ++ 49 :: restL b.length (b.count 49)
  | none => repL (l.count 49 + 1) [49, 48] ++ [48]
theorem rep_count1 (n : Nat) : (List.replicate n 49).count 49 = n := List.count_replicate_self
theorem rep_count0 (n : Nat) : (List.replicate n 48).count 49 = 0 := by
  rw [List.count_replicate]
  rfl
theorem tens_len (n : Nat) : (repL n [49, 48]).length = 2 * n := by
  rw [repL_len]
  show n * 2 = _
  omega
theorem tens_cnt : ∀ n : Nat, (repL n [49, 48]).count 49 = n
  | 0 => rfl
  | n + 1 => by
    rw [show repL (n + 1) [49, 48] = 49 :: 48 :: repL n [49, 48] from rfl, cnt_1, cnt_0, tens_cnt n]
theorem restL_len {n q : Nat} (h : 2 * q ≤ n) : (restL n q).length = n + 1 := by
  unfold restL
  rw [List.length_append, List.length_append, List.length_replicate, tens_len]
  show _ + 1 = _
  omega
theorem restL_cnt (n q : Nat) : (restL n q).count 49 = q := by
  unfold restL
  rw [List.count_append, List.count_append, rep_count0, tens_cnt, show ([48] : List Nat).count 49 = 0 from rfl]
  omega
/-- behind the place there is room -/
theorem mid_room {a b : List Nat} (h : scan 1 (a ++ 48 :: 49 :: b) = some 0) : ∃ w, scan 1 a = some (w + 2) ∧ b.length = w + 2 + 2 * b.count 49 := by
  obtain ⟨v, h1, h2⟩ := scan_split a _ _ _ h
  obtain ⟨v1, rfl, ⟨_, h3⟩ | ⟨z, _⟩⟩ := scan_cons h2
  · obtain ⟨v2, rfl, ⟨z, _⟩ | ⟨_, h4⟩⟩ := scan_cons h3
    · exact absurd z (by decide)
    · have := scan_len b _ _ h4
      exact ⟨v2, h1, by omega⟩
  · exact absurd z (by decide)
theorem nxL_len {l : List Nat} (h : scan 1 l = some 0) : (nxL l).length = if (sp01 l).isSome then l.length else l.length + 2 := by
  have hl := scan_len l 1 0 h
  unfold nxL
  cases e : sp01 l with
  | none =>
    show (repL (l.count 49 + 1) [49, 48] ++ [48]).length = l.length + 2
    rw [List.length_append, tens_len]
    show _ + 1 = _
    omega
  | some ab =>
    obtain ⟨a, b⟩ := ab
    obtain ⟨rfl, _⟩ := sp01_some e
    obtain ⟨w, _, hb⟩ := mid_room h
    show (a ++ 49 :: restL b.length (b.count 49)).length = (a ++ 48 :: 49 :: b).length
    rw [List.length_append, List.length_append, List.length_cons, List.length_cons, List.length_cons, restL_len (by omega)]
theorem nxL_scan {l : List Nat} (h : scan 1 l = some 0) : scan 1 (nxL l) = some 0 := by
  unfold nxL
  cases e : sp01 l with
  | none =>
    show scan (0 + 1) (repL (l.count 49 + 1) [49, 48] ++ [48]) = _
    rw [scan_tens]
    rfl
  | some ab =>
    obtain ⟨a, b⟩ := ab
    obtain ⟨rfl, _⟩ := sp01_some e
    obtain ⟨w, ha, hb⟩ := mid_room h
    show scan 1 (a ++ 49 :: restL b.length (b.count 49)) = _
    rw [scan_app a _ 1 _ ha, scan_1]
    unfold restL
    rw [List.append_assoc, show w + 1 + 2 = 1 + (w + 2) by omega, show b.length - 2 * b.count 49 = w + 2 by omega, scan_zeros, show (1 : Nat) = 0 + 1 from rfl, scan_tens]
    rfl
theorem rk_zeros : ∀ (n w p : Nat) (r : List Nat), rk (w + n) p (List.replicate n 48 ++ r) = rk w p r
  | 0, w, p, r => rfl
  | n + 1, w, p, r => by
    show rk (w + n + 1) p (48 :: (List.replicate n 48 ++ r)) = _
    rw [rk_0]
    exact rk_zeros n w p r
theorem rk_tens : ∀ n : Nat, rk 1 n (repL n [49, 48] ++ [48]) = 0
  | 0 => rk_0 1 0 []
  | n + 1 => by
    show rk 1 (n + 1) (49 :: 48 :: (repL n [49, 48] ++ [48])) = 0
    rw [rk_1, rk_0]
    show bal (n + 1) 0 + rk 1 n _ = 0
    rw [bal_0, rk_tens n]
/-- the last one of its kind -/
theorem rk_last : ∀ (p w m : Nat), rk (w + 1) p (List.replicate p 49 ++ List.replicate m 48) + 1 = bal p (w + 1)
  | 0, w, m => by
    show rk (w + 1) 0 (List.replicate m 48) + 1 = 1
    have : ∀ (m w : Nat), rk w 0 (List.replicate m 48) = 0 := fun m => by
      induction m with
      | zero => exact fun _ => rfl
      | succ m ih => exact fun w => (rk_0 w 0 _).trans (ih _)
    rw [this]
  | p + 1, w, m => by
    show rk (w + 1) (p + 1) (49 :: (List.replicate p 49 ++ List.replicate m 48)) + 1 = _
    rw [rk_1, bal_s, Nat.add_assoc]
    show bal (p + 1) w + (rk (w + 2) p _ + 1) = _
    rw [rk_last p (w + 1) m]
theorem rk_app : ∀ (a r : List Nat) (w v p : Nat), scan w a = some v → rk w p (a ++ r) = rk w p a + rk v (p - a.count 49) r
  | [], r, w, v, p, h => by
    cases h
    show _ = 0 + rk w (p - 0) r
    rw [Nat.zero_add]
    rfl
  | c :: a, r, w, v, p, h => by
    obtain ⟨u, rfl, ⟨rfl, h1⟩ | ⟨rfl, h1⟩⟩ := scan_cons h
    · rw [List.cons_append, rk_0, rk_0, cnt_0]
      exact rk_app a r u v p h1
    · have e := rk_app a r (u + 2) v (p - 1) h1
      rw [show p - 1 - a.count 49 = p - (a.count 49 + 1) by omega] at e
      rw [List.cons_append, rk_1, rk_1, cnt_1]
      show bal p u + rk (u + 2) (p - 1) (a ++ r) = bal p u + rk (u + 2) (p - 1) a + _
      omega
theorem rankL_nx {l : List Nat} (h : scan 1 l = some 0) : rankL (nxL l) = rankL l + 1 := by
  have h01 : all01 l := ((scan_iff l 1).mp h).1
  have hl := scan_len l 1 0 h
  unfold rankL
  cases e : sp01 l with
  | none =>
    obtain ⟨j, m, hj⟩ := sp01_none e h01
    have hc : l.count 49 = j := by
      rw [hj, List.count_append, rep_count1, rep_count0]
      rfl
    have hn : nxL l = repL (j + 1) [49, 48] ++ [48] := by
      unfold nxL
      rw [e, hc]
    have hcn : (nxL l).count 49 = j + 1 := by
      rw [hn, List.count_append, tens_cnt]
      rfl
    have e1 : rk 1 j (List.replicate j 49 ++ List.replicate m 48) + 1 = bal j 1 := rk_last j 0 m
    rw [hcn, hn, rk_tens, bse_s, hc, hj]
    omega
  | some ab =>
    obtain ⟨a, b⟩ := ab
    obtain ⟨rfl, hb0⟩ := sp01_some e
    obtain ⟨w, ha, hb⟩ := mid_room h
    have hn : nxL (a ++ 48 :: 49 :: b) = a ++ 49 :: restL b.length (b.count 49) := by
      unfold nxL
      rw [e]
    have hc : (a ++ 48 :: 49 :: b).count 49 = a.count 49 + (b.count 49 + 1) := by
      rw [List.count_append, cnt_0, cnt_1]
    have hcn : (a ++ 49 :: restL b.length (b.count 49)).count 49 = a.count 49 + (b.count 49 + 1) := by
      rw [List.count_append, cnt_1, restL_cnt]
    have hb1 : all01 (49 :: b) := fun c hc' => h01 c (List.mem_append.mpr (.inr (List.mem_cons_of_mem _ hc')))
    obtain ⟨j, m, hj⟩ := sp01_none hb0 hb1
    have hjc : j = b.count 49 + 1 := by
      have := congrArg (List.count 49) hj
      rw [cnt_1, List.count_append, rep_count1, rep_count0] at this
      omega
    rw [hn, hcn, hc, rk_app a _ 1 _ _ ha, rk_app a _ 1 _ _ ha, rk_0, rk_1, show a.count 49 + (b.count 49 + 1) - a.count 49 = b.count 49 + 1 by omega, hj, hjc]
    have e1 := rk_last (b.count 49 + 1) w m
    have e2 : rk (w + 2 + 1) (b.count 49 + 1 - 1) (restL b.length (b.count 49)) = 0 := by
      unfold restL
      rw [List.append_assoc, show w + 2 + 1 = 1 + (w + 2) by omega, show b.length - 2 * b.count 49 = w + 2 by omega, rk_zeros]
      exact rk_tens _
    rw [e2]
    show _ + (_ + (bal (b.count 49 + 1) (w + 1) + 0)) = _ + (_ + rk (w + 1) _ _) + 1
    omega
/-- [f i for i in range(n)] -/
theorem lc_val {lo : Int} {n : Nat} {te : TE} {vs : List Nat} {j : Nat} {σ : L2.St} {H1 : Hp} {D : Addr} {Qd : Hp → Prop} (f : Nat → V) (hD : H1 D = none) (hn : n < sizeLine)
    (hw : ∀ x, wipe ((wipe σ vs).set j (some x)) vs = wipe σ vs)
    (he : ∀ (i : Nat) H', i < n → Same H1 H' → ∀ Q : VK, (∀ H2, Same H' H2 → Q (f i) H2) → te ((wipe σ vs).set j (some (.int (lo + i)))) H' Q)
    (hd : ∀ H', Same H1 H' → H' D = some (.lst ((List.range n).map f)) → Qd H') :
    ∃ W : Nat → Nat → Hp → Prop, (∃ m, W 0 m (upd H1 D (.lst []))) ∧ ∀ i m H, W i m H →
      ((Itr lo n).stop i H ∧ Qd H) ∨ ((Itr lo n).go i H ∧ ∃ Nx : Hp → Prop, (∀ H', Nx H' → ∃ m', m' < m ∧ W (i + 1) m' H') ∧ ∀ x H', (Itr lo n).yld i H x H' → (gName j) x (wipe σ vs) H' fun σ2 H2 => wipe σ2 vs = wipe σ vs ∧ tYes σ2 H2 fun b H3 =>
        if b = true then te σ2 H3 fun y H4 => ∃ acc, H4 D = some (.lst acc) ∧ acc.length < sizeLine ∧ Nx (upd H4 D (.lst (acc ++ [y]))) else Nx H3) := by
  have hu : ∀ {H' : Hp} {o : HO}, Same H1 H' → Same H1 (upd H' D o) := fun {H' o} e b x q => by
    rw [upd_ne (ne_of_none q hD)]
    exact e b x q
  refine lc_range (lo := lo) (n := n) (fun i H' => Same H1 H' ∧ H' D = some (.lst ((List.range i).map f))) ⟨hu (.refl _), upd_same⟩ (fun i H' hi p => ?_) (fun H' p => hd H' p.1 p.2)
  obtain ⟨sm, hD'⟩ := p
  refine ⟨hw _, ?_⟩
  simp only [tYes, ↓reduceIte]
  refine he i H' hi sm _ fun H2 s2 => ⟨_, s2 _ _ hD', ?_, hu (sm.trans s2), ?_⟩
  · rw [List.length_map, List.length_range]
    omega
  · rw [upd_same, List.range_succ, List.map_append]
    rfl
end Nx

/-! More of the order of trees: Catalan's numbers, a memo of counts, every number is a rank, [int, text] < [int, text]. -/
namespace Nx
open PySem PySem.Spec PyProof.Rows L2
/-! ### [n, x] < [m, y] -/
def ltNS (n m : Int) (u v : Str) : Bool := if n = m then decide (u.cps.toList < v.cps.toList) else decide (n < m)
def rLtNS (K : PySem.W.Frag) : R2 := fun x y H Q => ∃ (a b : Addr) (n m : Int) (u v : Str), x = .ref a ∧ y = .ref b ∧ SqL K H a [.int n, .str u] ∧ SqL K H b [.int m, .str v] ∧ Q (.bl (ltNS n m u v)) H
theorem op_ltNS {X : Cx} (hu : X.A.units + 64 < cLine) : OpR X (compareOp .Lt) (rLtNS X.K) := by
  intro pn s1 σ1 H1 x y v1 u1 Q1 I1 rx ry h1
  obtain ⟨a, b, n, m, u, v, rfl, rfl, ha, hb, q⟩ := h1
  cases rx
  cases ry
  obtain ⟨ia, ra, pa, _⟩ := I1.list ha
  obtain ⟨ib, rb, pb, _⟩ := I1.list hb
  obtain ⟨ta, ua, rfl⟩ : ∃ t t', ia = [.int n t, .str u t'] := by
    cases ra with
    | cons r1 r2 =>
      cases r2 with
      | cons r3 r4 =>
        cases r4
        obtain ⟨t, rfl⟩ := r1
        obtain ⟨t', rfl⟩ := r3
        exact ⟨t, t', rfl⟩
  obtain ⟨tb, ub, rfl⟩ : ∃ t t', ib = [.int m t, .str v t'] := by
    cases rb with
    | cons r1 r2 =>
      cases r2 with
      | cons r3 r4 =>
        cases r4
        obtain ⟨t, rfl⟩ := r1
        obtain ⟨t', rfl⟩ := r3
        exact ⟨t, t', rfl⟩
  have R := SeqAt.RcLt.lists (s := s1) (A := X.A) pa.isList pb.isList (Nat.lt_of_le_of_lt (Nat.le_add_right _ 64) hu) (e := fun j => if j = 0 then n == m else u == v) (r := fun j => if j = 0 then decide (n < m) else decide (u.cps.toList < v.cps.toList))
    (fun j g1 g2 => by
      match j, g1, g2 with
      | 0, _, _ => exact SeqAt.EqAt.int_int n ta m tb
      | 1, _, _ => exact SeqAt.EqAt.str_str u ua v ub)
    (fun j g1 g2 _ => by
      match j, g1, g2 with
      | 0, _, _ => exact fun _ _ _ _ z => PyProof.Rows.lt_int z
      | 1, _, _ => exact fun _ _ _ _ z => PyProof.Rows.lt_str z)
  have e : SeqAt.firstLt (fun j => if j = 0 then n == m else u == v) (fun j => if j = 0 then decide (n < m) else decide (u.cps.toList < v.cps.toList)) (decide (2 < 2)) (List.range 2) = ltNS n m u v := by
    show (if (n == m) = true then (if (u == v) = true then decide (2 < 2) else decide (u.cps.toList < v.cps.toList)) else decide (n < m)) = _
    unfold ltNS
    by_cases c : n = m
    · rw [if_pos c, if_pos (by rw [c]; exact beq_self_eq_true m)]
      by_cases d : u = v
      · rw [if_pos (by rw [d]; exact beq_self_eq_true v), d]
        exact (decide_eq_false (fun z => List.lt_irrefl _ z)).symm
      · rw [if_neg (fun z => d (eq_of_beq z))]
    · rw [if_neg c, if_neg (fun z => c (eq_of_beq z))]
  have R' : SeqAt.RcLt X.A s1 (.ref a) (.ref b) (ltNS n m u v) := by
    rw [← e]
    exact R
  exact R' X.prog X.w X.xe (EP X pn σ1 Q1) ⟨.bl _, H1, I1, rfl, q⟩
/-- Python's order of texts -/
theorem ltL_iff : ∀ l m : List Nat, ltL l m ↔ l < m
  | [], [] => ⟨fun h => h.elim, fun h => absurd h (List.lt_irrefl _)⟩
  | [], _ :: _ => ⟨fun _ => List.Lex.nil, fun _ => trivial⟩
  | _ :: _, [] => ⟨fun h => h.elim, fun h => nomatch h⟩
  | a :: l, b :: m => by
    rw [List.cons_lt_cons_iff, ← ltL_iff l m]
    rfl

/-! ### Catalan's numbers -/
def catC : Bool := (List.range 32).all fun k => decide (((List.range (k + 1)).map fun i => balF 1 i * balF 1 (k - i)).sum = balF 1 (k + 1)) && decide (balF 1 k < 18446744073709551616)
theorem catC_yes : catC = true := by decide +kernel
theorem cat_s {k : Nat} (h : k < 32) : ((List.range (k + 1)).map fun i => ((bal i 1 : Nat) : Int) * ((bal (k - i) 1 : Nat) : Int)).sum = ((bal (k + 1) 1 : Nat) : Int) := by
  have h1 := List.all_eq_true.mp catC_yes k (List.mem_range.mpr h)
  have h2 := of_decide_eq_true (Bool.and_eq_true_iff.mp h1).1
  rw [balF_eq (k + 1) 1 (by omega) (by omega)] at h2
  rw [← h2]
  congr 1
  refine List.map_congr_left fun i hi => ?_
  have hi' := List.mem_range.mp hi
  rw [balF_eq i 1 (by omega) (by omega), balF_eq (k - i) 1 (by omega) (by omega)]
theorem cat_lt {k : Nat} (h : k < 32) : ((bal k 1 : Nat) : Int) < 18446744073709551616 := by
  have h1 := List.all_eq_true.mp catC_yes k (List.mem_range.mpr h)
  have h2 := of_decide_eq_true (Bool.and_eq_true_iff.mp h1).2
  rw [balF_eq k 1 (by omega) (by omega)] at h2
  exact h2

/-! ### every number is a rank -/
theorem rk_onto : ∀ (n p w b : Nat), 2 * p + w ≤ n → b < bal p w → ∃ r, scan w r = some 0 ∧ r.count 49 = p ∧ rk w p r = b
  | n, 0, w, b, _, h => by
    have hb : b = 0 := Nat.lt_one_iff.mp h
    subst hb
    refine ⟨List.replicate w 48, ?_, rep_count0 w, ?_⟩
    · have := scan_zeros w 0 []
      rw [Nat.zero_add, List.append_nil] at this
      exact this
    · have := rk_zeros w 0 0 []
      rw [Nat.zero_add, List.append_nil] at this
      exact this
  | n, p + 1, 0, b, _, h => by
    rw [bal_0] at h
    exact absurd h (Nat.not_lt_zero _)
  | 0, p + 1, w + 1, b, hn, _ => by omega
  | n + 1, p + 1, w + 1, b, hn, h => by
    rw [bal_s] at h
    by_cases c : b < bal (p + 1) w
    · obtain ⟨r, h1, h2, h3⟩ := rk_onto n (p + 1) w b (by omega) c
      exact ⟨48 :: r, by rw [scan_0]; exact h1, by rw [cnt_0]; exact h2, by rw [rk_0]; exact h3⟩
    · obtain ⟨r, h1, h2, h3⟩ := rk_onto n p (w + 2) (b - bal (p + 1) w) (by omega) (by omega)
      refine ⟨49 :: r, by rw [scan_1]; exact h1, by rw [cnt_1, h2], ?_⟩
      rw [rk_1]
      show bal (p + 1) w + rk (w + 2) p r = b
      omega
theorem bse_mono {p q : Nat} (h : p ≤ q) : bse p ≤ bse q := by
  induction q with
  | zero =>
    rw [show p = 0 by omega]
    exact Nat.le_refl _
  | succ q ih =>
    by_cases e : p = q + 1
    · rw [e]
      exact Nat.le_refl _
    · have := ih (by omega)
      rw [bse_s q]
      omega
theorem size_onto (n : Nat) : ∀ q, n < bse q → ∃ p b, p < q ∧ n = bse p + b ∧ b < bal p 1
  | 0, h => absurd h (Nat.not_lt_zero _)
  | q + 1, h => by
    by_cases c : n < bse q
    · obtain ⟨p, b, h1, h2, h3⟩ := size_onto n q c
      exact ⟨p, b, by omega, h2, h3⟩
    · rw [bse_s] at h
      exact ⟨q, n - bse q, by omega, by omega, by omega⟩
theorem rank_onto {n q : Nat} (h : n < bse q) : ∃ t : Tr, t.pairs < q ∧ rankL t.sg = n := by
  obtain ⟨p, b, h1, h2, h3⟩ := size_onto n q h
  obtain ⟨r, g1, g2, g3⟩ := rk_onto _ p 1 b (Nat.le_refl _) h3
  obtain ⟨t, rfl⟩ := tr_of g1
  have e : t.pairs = p := by rw [← t.count_1, g2]
  refine ⟨t, by omega, ?_⟩
  unfold rankL
  rw [g2, g3, h2]
theorem rank_lt_bse {l : List Nat} {q : Nat} (h : scan 1 l = some 0) (hq : l.count 49 < q) : rankL l < bse q := by
  have h1 := rk_lt l 1 _ h rfl
  have h2 := bse_mono (show l.count 49 + 1 ≤ q by omega)
  rw [bse_s] at h2
  unfold rankL
  omega
theorem bse_10 : bse 10 = 6918 := by decide +kernel
/-- the number of pairs, from the rank -/
theorem size_of {l : List Nat} {p b : Nat} (h : scan 1 l = some 0) (e : rankL l = bse p + b) (hb : b < bal p 1) : l.count 49 = p ∧ rk 1 p l = b := by
  have h1 := rk_lt l 1 _ h rfl
  have e' : bse (l.count 49) + rk 1 (l.count 49) l = bse p + b := e
  rcases Nat.lt_trichotomy (l.count 49) p with c | c | c
  · have := bse_le c
    rw [bse_s] at this
    omega
  · subst c
    exact ⟨rfl, by omega⟩
  · have := bse_le c
    rw [bse_s] at this
    omega
theorem scan_no {w : Nat} {r : List Nat} (h : scan w r = some 0) (c : r.count 49 = 0) : r = List.replicate w 48 := by
  induction r generalizing w with
  | nil =>
    cases h
    rfl
  | cons x r ih =>
    obtain ⟨v, rfl, ⟨rfl, h1⟩ | ⟨rfl, h1⟩⟩ := scan_cons h
    · rw [cnt_0] at c
      rw [ih h1 c]
      rfl
    · rw [cnt_1] at c
      omega

/-! ### a memo of counts -/
structure BalD (kvs : List (List Key × V)) : Prop where
  val : ∀ kv ∈ kvs, ∃ p m : Nat, kv = (pK p m, .int (bal p m : Nat)) ∧ p ≤ 31 ∧ m ≤ 63
  nd : (kvs.map (·.1)).Nodup
theorem nodup_sub {α : Type} [DecidableEq α] : ∀ (l m : List α), l.Nodup → (∀ x ∈ l, x ∈ m) → l.length ≤ m.length
  | [], _, _, _ => Nat.zero_le _
  | x :: l, m, h, hs => by
    have hx := hs x (List.mem_cons_self ..)
    have h' := List.nodup_cons.mp h
    have := nodup_sub l (m.erase x) h'.2 fun y hy => (List.mem_erase_of_ne (fun z => h'.1 (by rw [← z]; exact hy))).mpr (hs y (List.mem_cons_of_mem _ hy))
    rw [List.length_erase_of_mem hx] at this
    have hm : 0 < m.length := List.length_pos_of_mem hx
    rw [List.length_cons]
    omega
def allK : List (List Key) := (List.range 32).flatMap fun p => (List.range 64).map fun m => pK p m
theorem BalD.len {kvs : List (List Key × V)} (h : BalD kvs) : kvs.length ≤ 2048 := by
  have := nodup_sub (kvs.map (·.1)) allK h.nd fun k hk => by
    obtain ⟨kv, h1, rfl⟩ := List.mem_map.mp hk
    obtain ⟨p, m, rfl, hp, hm⟩ := h.val kv h1
    exact List.mem_flatMap.mpr ⟨p, List.mem_range.mpr (by omega), List.mem_map.mpr ⟨m, List.mem_range.mpr (by omega), rfl⟩⟩
  rw [List.length_map] at this
  have e : allK.length = 2048 := by
    unfold allK
    rw [List.length_flatMap]
    simp only [List.length_map, List.length_range]
    decide +kernel
  omega
theorem BalD.nil : BalD [] := ⟨fun _ h => (nomatch h), List.nodup_nil⟩
theorem BalD.get {kvs : List (List Key × V)} (h : BalD kvs) {p m : Nat} {v : V} (e : L2.valV kvs (pK p m) = some v) : v = .int (bal p m : Nat) := by
  unfold L2.valV at e
  obtain ⟨kv, h1, rfl⟩ := Option.map_eq_some_iff.mp e
  obtain ⟨p', m', rfl, _, _⟩ := h.val kv (List.mem_of_find?_eq_some h1)
  have h2 := List.find?_some h1
  obtain ⟨rfl, rfl⟩ := pK_inj (of_decide_eq_true h2)
  rfl
theorem BalD.put {kvs : List (List Key × V)} (h : BalD kvs) {p m : Nat} (hp : p ≤ 31) (hm : m ≤ 63) : BalD (putK kvs (pK p m) (.int (bal p m : Nat))) := by
  cases e : L2.valV kvs (pK p m) with
  | none =>
    rw [putK_new _ e]
    refine ⟨fun kv hk => ?_, ?_⟩
    · rcases List.mem_append.mp hk with hk | hk
      · exact h.val kv hk
      · rw [List.mem_singleton.mp hk]
        exact ⟨p, m, rfl, hp, hm⟩
    · rw [List.map_append, List.nodup_append]
      refine ⟨h.nd, List.nodup_cons.mpr ⟨fun z => (nomatch z), List.nodup_nil⟩, fun a ha b hb => ?_⟩
      obtain rfl : b = pK p m := List.mem_singleton.mp hb
      intro z
      obtain ⟨kv, h1, h2⟩ := List.mem_map.mp ha
      have : (kvs.any fun kv => decide (kv.1 = pK p m)) = true := List.any_eq_true.mpr ⟨kv, h1, decide_eq_true (h2.trans z)⟩
      rw [valV_any, e] at this
      cases this
  | some v =>
    have e2 := h.get e
    have e3 : putK kvs (pK p m) (.int (bal p m : Nat)) = kvs := by
      unfold putK
      rw [valV_any, e, if_pos (show (some v).isSome = true from rfl)]
      refine (List.map_congr_left fun kv hk => ?_).trans (List.map_id' kvs)
      by_cases c : kv.1 = pK p m
      · rw [if_pos c]
        obtain ⟨p', m', rfl, _, _⟩ := h.val kv hk
        obtain ⟨rfl, rfl⟩ := pK_inj c
        rfl
      · rw [if_neg c]
    rw [e3]
    exact h
def CntAt (H : Hp) (a : Addr) : Prop := ∃ kvs, H a = some (.dT kvs) ∧ BalD kvs
end Nx

namespace Nx
open PySem PySem.Spec PyProof.Rows L2
def topS (i : Nat) : Stmt := PySem.Challenge.pw_narcissus_k41_counts_and_ranks.main.body.getD i (.Pass ⟨0, 0, 0, 0⟩)
/-- the top's built-ins and constants -/
structure Txt (K : PySem.W.Frag) (mg : Str → Option Value) (cl : Cn → Addr) (w : World) : Prop where
  m_list : mg "list" = none
  m_int : mg "int" = none
  m_abs : mg "abs" = none
  m_len : mg "len" = none
  m_sum : mg "sum" = none
  m_range : mg "range" = none
  m_isinstance : mg "isinstance" = none
  m_bool : mg "bool" = none
  m_comb : mg "comb" = some (.builtin "math.comb")
  m_LEAF : ∃ t, mg "LEAF" = some (.str "0" t)
  m_MOST_PAIRS : ∃ t, mg "MOST_PAIRS" = some (.int 30 t)
section
variable {P : Program} {w : World} {K : PySem.W.Frag} {mg : Str → Option Value} {base : Heap} {cl : Cn → Addr}
abbrev s_law_stream : Stmt := topS 9
abbrev nm_law_stream : List Str := ["script", "mixed", "cell"]
theorem sc_law_stream : FnScope nm_law_stream ["script"] (defScope s_law_stream) := ⟨rfl, rfl, rfl, by decide +kernel, rfl, by decide +kernel, by decide +kernel⟩
def sp_law_stream (K : PySem.W.Frag) (cl : Cn → Addr) : Sp := fun vs H Q _ => ∃ (a : Addr) (ns : List Int), vs = [.ref a] ∧ SqL K H a (ns.map V.int) ∧ ns.length ≤ 63 ∧ ∀ st H', Same H H' → H st = none → Strm H' st → Q (.ref st) H'
theorem ok_law_stream (T : Txt K mg cl w) {f : Addr} {fd : FuncData} (F : Fun K "_law_stream" "_law_stream" s_law_stream f fd) : FnOk P w K mg base CX0 1 f fd ["script"] (sp_law_stream K cl) := by
  have m_list := T.m_list
  have m_int := T.m_int
  refine F.ok sc_law_stream (fun vs H Q E h => ?_) (fun cdv A outer s H vs Q E hr h => ?_)
  · obtain ⟨x, i, rfl, _⟩ := h
    rfl
  · obtain ⟨a, ns, rfl, hS, hlen, q⟩ := h
    refine ⟨_, (pss_cons (ps_set (i := 1) sc_law_stream.nd rfl (Or.inl rfl) pe_int)
      (pss_cons (ps_for PassesOwn.never rfl (pi_list (pv 0)) (pg_name (i := 2) sc_law_stream.nd rfl (Or.inl rfl)) (pss_one (ps_set (i := 1) sc_law_stream.nd rfl (Or.inl rfl) (pe_op op_mod (pe_callTy call_int1 (by rfl) m_int (by decide +kernel) (pa_cons (pe_op op_add (pe_op op_add (pe_op op_mul (pv 1) pe_int) (pe_op op_mod (pe_callTy call_int1 (by rfl) m_int (by decide +kernel) (pa_cons (pv 2) pa_nil)) pe_int)) pe_int) pa_nil)) pe_int))))
      (pss_one (ps_ret (pe_lst (pa_cons (pe_callTy (call_listOf : CallR _ _ (rListOf K)) (by rfl) m_list (by decide +kernel) (pa_cons (pv 0) pa_nil)) (pa_cons pe_int (pa_cons pe_int (pa_cons (pv 1) pa_nil))))))))), ?_⟩
    refine ⟨_, rfl, a, rfl, ⟨_, hS⟩, for_list (K := K) (a := a) (xs := ns.map V.int) (fun i σ H' => ∃ (m : Int) (v : Option V), σ = [some (.ref a), some (.int m), v] ∧ H = H' ∧ 0 ≤ m ∧ m < 2147483647)
      ⟨17, none, rfl, rfl, by decide, by decide⟩ (fun i σ H' _ ⟨_, _, _, e, _⟩ => e ▸ hS) ?_ ?_⟩
    · rintro i y σ H' hi ⟨m, v, rfl, rfl, h1, h2⟩
      obtain ⟨u, _, rfl⟩ := map_int hi
      refine ⟨_, rfl, _, _, rfl, rfl, .inl ⟨by omega, by omega⟩, _, rfl, .inl ⟨_, rfl, _, _, rfl, rfl, (by show (0 : Int) < 65521; omega), _, _, rfl, rfl, _, _, rfl, rfl, .inl ⟨_, rfl, _, _, rfl, rfl, (by show (0 : Int) < 2147483647; omega), ?_⟩⟩⟩
      exact ⟨_, _, rfl, rfl, Int.emod_nonneg _ (by decide), Int.emod_lt_of_pos _ (by decide)⟩
    · rintro σ H' ⟨m, v, rfl, rfl, h1, h2⟩
      refine ⟨_, rfl, _, _, rfl, .inl hS, fun p np => ⟨_, rfl, (by show 4 ≤ sizeLine; decide), fun st nst => ?_⟩⟩
      have n1 : p ≠ st := fun z => by
        rw [z, upd_same] at nst
        cases nst
      refine q st _ (fun b o e => ?_) ?_ ⟨p, ns, 0, 0, m, upd_same, ?_, by decide, by decide, h1, h2⟩
      · rw [upd_ne (fun z => ?_), upd_ne (ne_of_none e np)]
        · exact e
        · rw [z] at e
          rw [upd_ne n1.symm, e] at nst
          cases nst
      · rw [upd_ne n1.symm] at nst
        exact nst
      · rw [upd_ne n1, upd_same]
abbrev s_law_draw : Stmt := topS 10
abbrev nm_law_draw : List Str := ["stream", "many", "value"]
theorem sc_law_draw : FnScope nm_law_draw ["stream", "many"] (defScope s_law_draw) := ⟨rfl, rfl, rfl, by decide +kernel, rfl, by decide +kernel, by decide +kernel⟩
def sp_law_draw (K : PySem.W.Frag) (cl : Cn → Addr) : Sp := fun vs H Q _ => ∃ (st : Addr) (n : Int), vs = [.ref st, .int n] ∧ 0 < n ∧ n < 1073741824 ∧ Strm H st ∧ ∀ (k : Nat) H', (k : Int) < n → ExS st H H' → Strm H' st → Q (.int k) H'
theorem draw_go {st : Addr} {H : Hp} {n : Int} {Q : VK} (hn : 0 < n) (q : ∀ (k : Nat) H', (k : Int) < n → ExS st H H' → Strm H' st → Q (.int k) H') {H' : Hp} (x : Int) (e : ExS st H H') (s : Strm H' st) : Q (.int (x % n)) H' := by
  have h1 : 0 ≤ x % n := Int.emod_nonneg _ (by omega)
  have h2 := Int.emod_lt_of_pos x hn
  have := q (x % n).toNat H' (by omega) e s
  rw [show (((x % n).toNat : Nat) : Int) = x % n by omega] at this
  exact this
theorem ok_law_draw (T : Txt K mg cl w) {f : Addr} {fd : FuncData} (F : Fun K "_law_draw" "_law_draw" s_law_draw f fd) : FnOk P w K mg base CX0 1 f fd ["stream", "many"] (sp_law_draw K cl) := by
  have m_abs := T.m_abs
  have m_int := T.m_int
  have m_len := T.m_len
  refine F.ok sc_law_draw (fun vs H Q E h => ?_) (fun cdv A outer s H vs Q E hr h => ?_)
  · obtain ⟨x, i, rfl, _⟩ := h
    rfl
  · obtain ⟨st, n, rfl, hn, hn2, ⟨l, ns, c, i, m, hst, hl, c0, i0, m0, m1⟩, q⟩ := h
    have nl : l ≠ st := ne_of hl hst (fun z => by
      have := HO.lst.inj z
      cases ns with
      | nil => cases this
      | cons a r => cases (List.cons.inj this).1)
    have hL : SqL K H st [.ref l, .int c, .int i, .int m] := SqL.of hst
    refine ⟨_, (Evl.pss_cut (ps_if (PW.pt (pw_and (pt_cmpR op_eq (pe_ix (ix_list : IxR _ (rIxL K)) (pv 0) pe_int (fun _ _ => rfl)) pe_int (nomark _)) (pw_and1 (pt_cmpR op_lt (pe_ix (ix_list : IxR _ (rIxL K)) (pv 0) pe_int (fun _ _ => rfl)) (pe_callB (call_lenS : CallR _ _ (rLenS K)) (by rfl) m_len (by decide +kernel) (pa_cons (pe_ix (ix_list : IxR _ (rIxL K)) (pv 0) pe_int (fun _ _ => rfl)) pa_nil)) (nomark _))))) (pss_cons (ps_asg (pe_callB call_abs (by rfl) m_abs (by decide +kernel) (pa_cons (pe_callTy call_int1 (by rfl) m_int (by decide +kernel) (pa_cons (pe_ix (ix_list : IxR _ (rIxL K)) (pe_ix (ix_list : IxR _ (rIxL K)) (pv 0) pe_int (fun _ _ => rfl)) (pe_ix (ix_list : IxR _ (rIxL K)) (pv 0) pe_int (fun _ _ => rfl)) (fun _ _ => rfl)) pa_nil)) pa_nil)) (pg_sub (pv 0) pe_int set_list))
      (pss_one (ps_asg (pe_op op_add (pe_ix (ix_list : IxR _ (rIxL K)) (pv 0) pe_int (fun _ _ => rfl)) pe_int) (pg_sub (pv 0) pe_int set_list)))) pss_nil)
      (pss_cons (ps_if (pt_cmpR op_eq (pe_ix (ix_list : IxR _ (rIxL K)) (pv 0) pe_int (fun _ _ => rfl)) pe_int (nomark _)) (pss_cons (ps_asg (pe_op op_mod (pe_callTy call_int1 (by rfl) m_int (by decide +kernel) (pa_cons (pe_op op_add (pe_op op_mul (pe_ix (ix_list : IxR _ (rIxL K)) (pv 0) pe_int (fun _ _ => rfl)) pe_int) pe_int) pa_nil)) pe_int) (pg_sub (pv 0) pe_int set_list))
      (pss_one (ps_ret (pe_op op_mod (pe_callTy call_int1 (by rfl) m_int (by decide +kernel) (pa_cons (pe_op op_fdiv (pe_ix (ix_list : IxR _ (rIxL K)) (pv 0) pe_int (fun _ _ => rfl)) pe_int) pa_nil)) (pv 1))))) pss_nil)
      (pss_cons (ps_set (i := 2) sc_law_draw.nd rfl (Or.inl rfl) (pe_op op_mod (pe_callTy call_int1 (by rfl) m_int (by decide +kernel) (pa_cons (pe_ix (ix_list : IxR _ (rIxL K)) (pv 0) pe_int (fun _ _ => rfl)) pa_nil)) (pv 1)))
      (pss_cons (ps_asg (pe_op op_fdiv (pe_ix (ix_list : IxR _ (rIxL K)) (pv 0) pe_int (fun _ _ => rfl)) (pv 1)) (pg_sub (pv 0) pe_int set_list))
      (pss_one (ps_ret (pv 2))))))), ?_⟩
    -- the first part leaves a row again
    refine ⟨fun σ H' => ∃ (c i : Int), σ = [some (.ref st), some (.int n), none] ∧ 0 ≤ c ∧ 0 ≤ i ∧ ExS st H H' ∧ H' st = some (.lst [.ref l, .int c, .int i, .int m]) ∧ H' l = some (.lst (ns.map V.int)), ?_, ?_⟩
    · refine ⟨_, rfl, _, _, _, _, rfl, rfl, hL, rfl, rfl, _, rfl, ?_⟩
      by_cases hc : c = 0
      · subst hc
        rw [decide_eq_true rfl]
        refine iteT ?_
        refine ⟨_, rfl, _, _, _, _, rfl, rfl, hL, rfl, _, rfl, _, _, _, _, rfl, rfl, hL, rfl, _, _, rfl, .inl (SqL.of hl), _, _, rfl, rfl, _, rfl, ?_⟩
        by_cases hi : i < (((ns.map V.int).length : Nat) : Int)
        · rw [decide_eq_true hi]
          refine iteT ?_
          obtain ⟨j, rfl⟩ : ∃ j : Nat, i = j := ⟨i.toNat, by omega⟩
          have hj : j < ns.length := by
            rw [List.length_map] at hi
            omega
          have ha : atI (ns.map V.int) (j : Int) = some (.int ns[j]) := atI_nat (by rw [List.getElem?_map, List.getElem?_eq_getElem hj]; rfl)
          refine ⟨_, rfl, _, _, _, _, rfl, rfl, hL, rfl, _, rfl, _, _, _, _, rfl, rfl, hL, rfl, _, _, _, _, rfl, rfl, SqL.of hl, ha, .inl ⟨_, rfl, _, rfl, ?_⟩⟩
          refine ⟨_, rfl, _, _, _, 1, rfl, rfl, hst, rfl, ?_⟩
          refine ⟨_, rfl, _, _, _, _, rfl, rfl, SqL.of upd_same, rfl, _, _, rfl, rfl, ?_⟩
          refine ⟨_, rfl, _, _, _, 2, rfl, rfl, upd_same, rfl, ?_⟩
          refine ⟨_, _, rfl, ?_, ?_, ?_, upd_same, ?_⟩
          · split <;> omega
          · omega
          · rw [upd_upd]
            exact ExS.put hst
          · rw [upd_upd, upd_ne nl]
            exact hl
        · rw [decide_eq_false hi]
          refine iteF ?_
          exact ⟨_, _, rfl, c0, i0, .refl, hst, hl⟩
      · rw [decide_eq_false (fun z => hc (V.int.inj z))]
        refine iteF (iteF ?_)
        exact ⟨_, _, rfl, c0, i0, .refl, hst, hl⟩
    · rintro σ H1 ⟨c, i, rfl, c0, i0, ex, hst, hl⟩
      have hL : SqL K H1 st [.ref l, .int c, .int i, .int m] := SqL.of hst
      refine ⟨_, rfl, _, _, _, _, rfl, rfl, hL, rfl, rfl, _, rfl, ?_⟩
      refine ite2 (fun e => ?_) (fun e => ?_)
      · refine ⟨_, rfl, _, _, _, _, rfl, rfl, hL, rfl, _, _, rfl, rfl, .inl ⟨by omega, by omega⟩, _, _, rfl, rfl, .inl ⟨_, rfl, _, _, rfl, rfl, (by show (0 : Int) < 2147483647; omega), ?_⟩⟩
        refine ⟨_, rfl, _, _, _, 3, rfl, rfl, hst, rfl, ?_⟩
        refine ⟨_, rfl, _, _, _, _, rfl, rfl, SqL.of upd_same, rfl, _, _, rfl, rfl, ⟨by show (0 : Int) < 97; omega, by show (97 : Int) < 1073741824; omega⟩, .inl ⟨_, rfl, _, rfl, _, _, rfl, rfl, hn, ?_⟩⟩
        refine draw_go hn q _ (ex.trans (ExS.put hst)) ⟨l, ns, _, _, _, upd_same, ?_, c0, i0, Int.emod_nonneg _ (by decide), Int.emod_lt_of_pos _ (by decide)⟩
        rw [upd_ne nl]
        exact hl
      · refine ⟨_, rfl, _, _, _, _, rfl, rfl, hL, rfl, .inl ⟨_, rfl, _, rfl, _, _, rfl, rfl, hn, ?_⟩⟩
        refine ⟨_, rfl, _, _, _, _, rfl, rfl, hL, rfl, _, rfl, _, _, rfl, rfl, ⟨hn, hn2⟩, ?_⟩
        refine ⟨_, rfl, _, _, _, 1, rfl, rfl, hst, rfl, ?_⟩
        refine ⟨_, rfl, ?_⟩
        refine draw_go hn q _ (ex.trans (ExS.put hst)) ⟨l, ns, _, _, _, upd_same, ?_, Int.ediv_nonneg c0 (by omega), i0, m0, m1⟩
        rw [upd_ne nl]
        exact hl
abbrev s_law_tree : Stmt := topS 12
abbrev nm_law_tree : List Str := ["stream", "pairs", "left"]
theorem sc_law_tree : FnScope nm_law_tree ["stream", "pairs"] (defScope s_law_tree) := ⟨rfl, rfl, rfl, by decide +kernel, rfl, by decide +kernel, by decide +kernel⟩
def sp_law_tree_n (n : Nat) (K : PySem.W.Frag) (cl : Cn → Addr) : Sp := fun vs H Q _ => ∃ (st : Addr) (d : Nat), vs = [.ref st, .int d] ∧ d < n ∧ d ≤ 100 ∧ Strm H st ∧ ∀ (t : Tr) H', t.pairs = d → ExS st H H' → Strm H' st → Q (.str t.str) H'
theorem sp_law_tree_0 (K : PySem.W.Frag) (cl : Cn → Addr) {vs : List V} {H : Hp} {Q : VK} {E : XK} : ¬ sp_law_tree_n 0 K cl vs H Q E := fun ⟨_, _, _, h, _⟩ => Nat.not_lt_zero _ h
def sp_law_tree (K : PySem.W.Frag) (cl : Cn → Addr) : Sp := sp_law_tree_n 40 K cl
theorem ok_law_tree (T : Txt K mg cl w) (H_law_draw : Has P w K mg base CX0 1 "_law_draw" ["stream", "many"] (sp_law_draw K cl)) {f : Addr} {fd : FuncData} (F : Fun K "_law_tree" "_law_tree" s_law_tree f fd) (g_law_tree : mg "_law_tree" = some (.ref f)) (b_law_tree : Binds K fd ["stream", "pairs"] []) : ∀ n : Nat, FnOk P w K mg base CX0 (2 + n) f fd ["stream", "pairs"] (sp_law_tree_n n K cl) := by
  obtain ⟨f_law_draw, d_law_draw, G_law_draw, g_law_draw, k_law_draw, b_law_draw⟩ := H_law_draw.ex
  have k_law_tree := F.kp
  intro n
  induction n with
  | zero => exact F.ok sc_law_tree (fun vs H Q E h => absurd h (sp_law_tree_0 K cl)) (fun cdv A outer s H vs Q E hr h => absurd h (sp_law_tree_0 K cl))
  | succ n G_law_tree =>
  refine F.ok sc_law_tree (fun vs H Q E h => ?_) (fun cdv A outer s H vs Q E hr h => ?_)
  · obtain ⟨st, d, rfl, _⟩ := h
    rfl
  · obtain ⟨st, d, rfl, hd, hd2, st1, q⟩ := h
    have hz : sizeLine = 16777216 := rfl
    have hr : Room (2 + n) _ := hr
    refine ⟨_, (pss_cons (ps_if (pt_cmpR op_eq (pv 1) pe_int (nomark _)) (pss_one (ps_ret pe_str)) pss_nil)
      (pss_cons (ps_set (i := 2) sc_law_tree.nd rfl (Or.inl rfl) (pe_call G_law_draw (hr.mono (by first | decide | omega)) (by rfl) g_law_draw k_law_draw b_law_draw .nil pass0 (pa_cons (pv 0) (pa_cons (pv 1) pa_nil))))
      (pss_one (ps_ret (pe_op op_add_str (pe_op op_add_str pe_str (pe_call G_law_tree (hr.mono (by first | decide | omega)) (by rfl) g_law_tree k_law_tree b_law_tree .nil pass0 (pa_cons (pv 0) (pa_cons (pv 2) pa_nil)))) (pe_call G_law_tree (hr.mono (by first | decide | omega)) (by rfl) g_law_tree k_law_tree b_law_tree .nil pass0 (pa_cons (pv 0) (pa_cons (pe_op op_sub (pe_op op_sub (pv 1) pe_int) (pv 2)) pa_nil)))))))), ?_⟩
    refine ⟨_, rfl, rfl, _, rfl, ?_⟩
    by_cases c : d = 0
    · subst c
      refine iteS rfl ?_
      exact q .leaf H rfl .refl st1
    refine iteNo (fun z => c (by have := V.int.inj z; omega)) ?_
    have d0 : 0 < (d : Int) := by omega
    have d1 : (d : Int) < 1073741824 := by omega
    refine ⟨_, rfl, _, rfl, st, (d : Int), rfl, d0, d1, st1, fun l H1 hl ex1 st1' => ?_⟩
    have hl2 : l < n := by omega
    have hl3 : d - 1 - l < n := by omega
    have e3 : (d : Int) - 1 - (l : Int) = ((d - 1 - l : Nat) : Int) := by omega
    have ll : (Str.ofString "1").length = 1 := by decide +kernel
    refine ⟨_, rfl, _, rfl, st, l, rfl, hl2, by omega, st1', fun a H2 ha ex2 st2 => ?_⟩
    have la := a.str_len
    have sa := a.sg_len
    refine ⟨_, _, rfl, rfl, (by rw [ll]; omega), _, rfl, _, rfl, _, _, rfl, rfl, _, rfl, _, _, rfl, rfl, st, d - 1 - l, (by show [V.ref st, V.int ((d : Int) - 1 - (l : Int))] = _; rw [e3]), hl3, by omega, st2, fun b H3 hb ex3 st3 => ?_⟩
    have lb := b.str_len
    have sb := b.sg_len
    refine ⟨_, _, rfl, rfl, (by rw [Str.length_append, ll]; omega), ?_⟩
    rw [str_cons]
    exact q (.node a b) H3 (by show a.pairs + b.pairs + 1 = d; omega) ((ex1.trans ex2).trans ex3) st3
abbrev s_count_of_rows : Stmt := topS 5
abbrev nm_count_of_rows : List Str := ["wanted", "pairs", "signs"]
theorem sc_count_of_rows : FnScope nm_count_of_rows ["wanted", "pairs"] (defScope s_count_of_rows) := ⟨rfl, rfl, rfl, by decide +kernel, rfl, by decide +kernel, by decide +kernel⟩
def sp_count_of_rows (K : PySem.W.Frag) (cl : Cn → Addr) : Sp := fun vs H Q _ => ∃ w p : Nat, vs = [.int w, .int p] ∧ 0 < w + p ∧ w + p ≤ 34 ∧ Q (.int (bal p w : Nat)) H
theorem ok_count_of_rows (T : Txt K mg cl w) {f : Addr} {fd : FuncData} (F : Fun K "_count_of_rows" "_count_of_rows" s_count_of_rows f fd) : FnOk P w K mg base CX0 1 f fd ["wanted", "pairs"] (sp_count_of_rows K cl) := by
  have m_comb := T.m_comb
  refine F.ok sc_count_of_rows (fun vs H Q E h => ?_) (fun cdv A outer s H vs Q E hr h => ?_)
  · obtain ⟨w, p, rfl, _⟩ := h
    rfl
  · obtain ⟨w, p, rfl, h0, h1, q⟩ := h
    refine ⟨_, (pss_cons (ps_set (i := 2) sc_count_of_rows.nd rfl (Or.inl rfl) (pe_op op_add (pe_op op_mul pe_int (pv 1)) (pv 0)))
      (pss_one (ps_ret (pe_op op_fdiv (pe_op op_mul (pe_callBfun cr_comb (by rfl) m_comb (pa_cons (pv 2) (pa_cons (pv 1) pa_nil))) (pv 0)) (pv 2))))), ?_⟩
    refine ⟨_, rfl, _, _, rfl, rfl, .inl (by decide), _, rfl, _, _, rfl, rfl, ?_⟩
    have e1 : 2 * (p : Int) + (w : Int) = ((2 * p + w : Nat) : Int) := by omega
    dsimp only
    rw [e1]
    refine ⟨_, rfl, _, rfl, 2 * p + w, p, rfl, by omega, _, rfl, _, _, rfl, rfl, .inr ⟨by omega, by omega⟩, _, rfl, _, _, rfl, rfl, ⟨by omega, by omega⟩, ?_⟩
    have e := balF_eq p w h1 h0
    unfold balF at e
    dsimp only
    rw [e]
    exact q
abbrev s_count : Stmt := topS 4
abbrev nm_count : List Str := ["pairs"]
theorem sc_count : FnScope nm_count ["pairs"] (defScope s_count) := ⟨rfl, rfl, rfl, by decide +kernel, rfl, by decide +kernel, by decide +kernel⟩
def sp_count (K : PySem.W.Frag) (cl : Cn → Addr) : Sp := fun vs H Q _ => ∃ p : Nat, vs = [.int p] ∧ p ≤ 33 ∧ Q (.int (bal p 1 : Nat)) H
theorem ok_count (T : Txt K mg cl w) (H_count_of_rows : Has P w K mg base CX0 1 "_count_of_rows" ["wanted", "pairs"] (sp_count_of_rows K cl)) {f : Addr} {fd : FuncData} (F : Fun K "count" "count" s_count f fd) : FnOk P w K mg base CX0 2 f fd ["pairs"] (sp_count K cl) := by
  obtain ⟨f_count_of_rows, d_count_of_rows, G_count_of_rows, g_count_of_rows, k_count_of_rows, b_count_of_rows⟩ := H_count_of_rows.ex
  refine F.ok sc_count (fun vs H Q E h => ?_) (fun cdv A outer s H vs Q E hr h => ?_)
  · obtain ⟨p, rfl, _⟩ := h
    rfl
  · obtain ⟨p, rfl, h1, q⟩ := h
    refine ⟨_, (pss_cons (ps_if (pt_cmpR op_lt (pv 0) pe_int (nomark _)) (pss_one (ps_ret pe_int)) pss_nil)
      (pss_one (ps_ret (pe_call G_count_of_rows (hr.mono (by decide)) (by rfl) g_count_of_rows k_count_of_rows b_count_of_rows .nil pass0 (pa_cons pe_int (pa_cons (pv 0) pa_nil)))))), ?_⟩
    refine ⟨_, rfl, _, _, rfl, rfl, _, rfl, ?_⟩
    rw [decide_eq_false (by omega)]
    exact iteF ⟨_, rfl, 1, p, rfl, by omega, by omega, q⟩
abbrev s_rank : Stmt := topS 6
abbrev nm_rank : List Str := ["tree", "pairs", "before", "fewer", "wanted", "sign"]
theorem sc_rank : FnScope nm_rank ["tree"] (defScope s_rank) := ⟨rfl, rfl, rfl, by decide +kernel, rfl, by decide +kernel, by decide +kernel⟩
def sp_rank (K : PySem.W.Frag) (cl : Cn → Addr) : Sp := fun vs H Q _ => ∃ l : List Nat, vs = [.str (stS l)] ∧ scan 1 l = some 0 ∧ l.count 49 ≤ 31 ∧ ∀ H', Same H H' → Q (.int (rankL l : Nat)) H'
theorem ok_rank (T : Txt K mg cl w) (H_count : Has P w K mg base CX0 2 "count" ["pairs"] (sp_count K cl)) (H_count_of_rows : Has P w K mg base CX0 1 "_count_of_rows" ["wanted", "pairs"] (sp_count_of_rows K cl)) {f : Addr} {fd : FuncData} (F : Fun K "rank" "rank" s_rank f fd) : FnOk P w K mg base CX0 3 f fd ["tree"] (sp_rank K cl) := by
  have m_sum := T.m_sum
  have m_range := T.m_range
  obtain ⟨f_count, d_count, G_count, g_count, k_count, b_count⟩ := H_count.ex
  obtain ⟨f_count_of_rows, d_count_of_rows, G_count_of_rows, g_count_of_rows, k_count_of_rows, b_count_of_rows⟩ := H_count_of_rows.ex
  refine F.ok sc_rank (fun vs H Q E h => ?_) (fun cdv A outer s H vs Q E hr h => ?_)
  · obtain ⟨l, rfl, _⟩ := h
    rfl
  · obtain ⟨l, rfl, hs, hc, q⟩ := h
    have hz : sizeLine = 16777216 := rfl
    refine ⟨_, (pss_cons (ps_set (i := 1) sc_rank.nd rfl (Or.inl rfl) (pe_bm PySem.F.plainAttrs_str PySem.F.slot_str_count PySem.F.type_str_count mt_count (pv 0) (pa_cons pe_str pa_nil)))
      (pss_cons (ps_set (i := 2) sc_rank.nd rfl (Or.inl rfl) (pe_callB (cr_sum rfl) (by rfl) m_sum (by decide +kernel) (pa_cons (pe_lc (own := [("fewer", 3)]) (g := gName 3) (tt := tYes) rfl sc_rank.nd (pi_range1 (by rfl) m_range (pa_cons (pv 1) pa_nil)) (blkOk_by (N := nm_rank) (sc := defScope s_rank) (by decide +kernel)) (fun _ _ _ _ _ => (pg_name (i := 3) sc_rank.nd rfl (Or.inl rfl))) (fun _ _ _ _ _ => pts_nil) (fun _ _ _ _ _ => (pe_call G_count (hr.mono (by decide)) (by rfl) g_count k_count b_count .nil pass0 (pa_cons (pv 3) pa_nil)))) pa_nil)))
      (pss_cons (ps_set (i := 4) sc_rank.nd rfl (Or.inl rfl) pe_int)
      (pss_cons (ps_for PassesOwn.never rfl (pi_str (pv 0)) (pg_name (i := 5) sc_rank.nd rfl (Or.inl rfl)) (pss_one (ps_if (pt_cmpR op_eq (pv 5) pe_str (nomark _)) (pss_cons (ps_aug (i := 2) sc_rank.nd rfl (Or.inl rfl) (pe_call G_count_of_rows (hr.mono (by decide)) (by rfl) g_count_of_rows k_count_of_rows b_count_of_rows .nil pass0 (pa_cons (pe_op op_sub (pv 4) pe_int) (pa_cons (pv 1) pa_nil))) ip_add)
      (pss_cons (ps_aug (i := 1) sc_rank.nd rfl (Or.inl rfl) pe_int ip_sub)
      (pss_one (ps_aug (i := 4) sc_rank.nd rfl (Or.inl rfl) pe_int ip_add)))) (pss_one (ps_aug (i := 4) sc_rank.nd rfl (Or.inl rfl) pe_int ip_sub)))))
      (pss_one (ps_ret (pv 2))))))), ?_⟩
    have e1 : Txt.count (stS l) (Str.ofString "1") = ((l.count 49 : Nat) : Int) := by
      rw [show (Str.ofString "1") = (⟨#[49]⟩ : Str) by decide +kernel, count_one]
      rfl
    refine ⟨_, rfl, rfl, _, _, rfl, rfl, ?_⟩
    rw [e1]
    generalize hp : l.count 49 = p at *
    refine ⟨_, rfl, p, rfl, by omega, by omega, fun D nD => lc_val (lo := 0) (n := p) (fun i => .int (bal i 1 : Nat)) nD (by omega) (fun _ => rfl) (fun i H1 hi sm Q hq => ?_) (fun H1 sm hD => ?_)⟩
    · refine ⟨_, rfl, i, ?_, by omega, hq H1 (.refl _)⟩
      show [V.int (0 + (i : Int))] = _
      rw [Int.zero_add]
    refine ⟨D, (List.range p).map fun q => ((bal q 1 : Nat) : Int), rfl, SqL.of (hD.trans (by rw [List.map_map]; rfl)), ?_⟩
    rw [bse_sum]
    have hr0 : rankL l = bse p + rk 1 p l := by
      unfold rankL
      rw [hp]
    refine ⟨_, rfl, _, rfl, for_str (x := stS l) (fun a r σ H' => ∃ (w m b : Nat) (v : Option V), σ = [some (.str (stS l)), some (.int m), some (.int b), none, some (.int w), v] ∧ Same H H' ∧ scan 1 a = some w ∧ scan w r = some 0 ∧ a.count 49 + m = p ∧ r.count 49 = m ∧ b + rk w m r = rankL l) ⟨1, p, bse p, none, rfl, sm, rfl, hs, Nat.zero_add p, hp, hr0.symm⟩ ?_ ?_⟩
    · rintro a c r σ H2 hl ⟨w, m, b, v, rfl, s2, h1, h2, h3, h4, h5⟩
      have hw := scan_len a 1 w h1
      have hcl : a.count 49 ≤ a.length := List.count_le_length
      have hl' : l = (a ++ [c]) ++ r := by
        rw [List.append_assoc]
        exact hl.symm
      obtain ⟨u, rfl, ⟨rfl, h6⟩ | ⟨rfl, h6⟩⟩ := scan_cons h2
      · rw [cnt_0] at h4
        rw [rk_0] at h5
        refine ⟨_, rfl, rfl, _, rfl, iteNo (by rw [show (Str.ofString "1") = stS [49] by decide +kernel]; exact fun z => nomatch stS_inj (V.str.inj z)) ?_⟩
        refine ⟨_, rfl, _, _, rfl, rfl, ?_⟩
        refine ⟨u, m, b, some (.str (stS [48])), ?_, s2, ?_, h6, ?_, h4, h5⟩
        · show [_, _, _, _, some (V.int (((u + 1 : Nat) : Int) - 1)), _] = _
          rw [show (((u + 1 : Nat) : Int) - 1) = (u : Int) by omega]
        · rw [scan_app a [48] 1 _ h1, scan_0]
          rfl
        · rw [List.count_append]
          exact h3
      · rw [cnt_1] at h4
        rw [rk_1] at h5
        refine ⟨_, rfl, rfl, _, rfl, iteS (by rw [show (Str.ofString "1") = stS [49] by decide +kernel]) ?_⟩
        refine ⟨_, rfl, _, rfl, _, _, rfl, rfl, _, rfl, u, m, ?_, by omega, by omega, _, _, rfl, rfl, _, rfl, _, _, rfl, rfl, _, rfl, _, _, rfl, rfl, ?_⟩
        · show [V.int (((u + 1 : Nat) : Int) - 1), _] = _
          rw [show (((u + 1 : Nat) : Int) - 1) = (u : Int) by omega]
        refine ⟨u + 2, m - 1, b + bal m u, some (.str (stS [49])), ?_, s2, ?_, h6, ?_, by omega, ?_⟩
        · show [_, some (V.int ((m : Int) - 1)), some (V.int ((b : Int) + ((bal m u : Nat) : Int))), _, some (V.int (((u + 1 : Nat) : Int) + 1)), _] = _
          rw [show (((u + 1 : Nat) : Int) + 1) = ((u + 2 : Nat) : Int) by omega, show ((m : Int) - 1) = ((m - 1 : Nat) : Int) by omega]
          rfl
        · rw [scan_app a [49] 1 _ h1, scan_1]
          rfl
        · rw [List.count_append]
          show a.count 49 + 1 + (m - 1) = p
          omega
        · have h5' : b + (bal m u + rk (u + 2) (m - 1) r) = rankL l := h5
          omega
    · rintro σ H2 ⟨w, m, b, v, rfl, s2, h1, h2, h3, h4, h5⟩
      refine ⟨_, rfl, ?_⟩
      have h6 := q H2 s2
      rw [← h5] at h6
      exact h6
abbrev s_law_is_number : Stmt := topS 11
abbrev nm_law_is_number : List Str := ["value"]
theorem sc_law_is_number : FnScope nm_law_is_number ["value"] (defScope s_law_is_number) := ⟨rfl, rfl, rfl, by decide +kernel, rfl, by decide +kernel, by decide +kernel⟩
def sp_law_is_number (K : PySem.W.Frag) (cl : Cn → Addr) : Sp := fun vs H Q _ => ∃ n : Int, vs = [.int n] ∧ Q (.bl true) H
theorem ok_law_is_number (T : Txt K mg cl w) {f : Addr} {fd : FuncData} (F : Fun K "_law_is_number" "_law_is_number" s_law_is_number f fd) : FnOk P w K mg base CX0 1 f fd ["value"] (sp_law_is_number K cl) := by
  have m_isinstance := T.m_isinstance
  have m_int := T.m_int
  have m_bool := T.m_bool
  refine F.ok sc_law_is_number (fun vs H Q E h => ?_) (fun cdv A outer s H vs Q E hr h => ?_)
  · obtain ⟨n, rfl, _⟩ := h
    rfl
  · obtain ⟨n, rfl, q⟩ := h
    refine ⟨_, (pss_one (ps_ret (pe_and (pe_callB (call_isi : CallR _ _ (rIsi K)) (by rfl) m_isinstance (by decide +kernel) (pa_cons (pv 0) (pa_cons (pe_bltn (v := .ty "int") (by rfl) m_int (by decide +kernel) rfl) pa_nil))) (pe_one (pe_not (pe_callB (call_isi : CallR _ _ (rIsi K)) (by rfl) m_isinstance (by decide +kernel) (pa_cons (pv 0) (pa_cons (pe_bltn (v := .ty "bool") (by rfl) m_bool (by decide +kernel) rfl) pa_nil)))))))), ?_⟩
    refine ⟨_, rfl, _, _, _, _, true, rfl, .ty _, .base (.int _), (kit_ty (by decide +kernel)), _, rfl, iteT ?_⟩
    exact ⟨_, rfl, _, _, _, _, false, rfl, .ty _, .base (.int _), (kit_ty (by decide +kernel)), _, rfl, q⟩
abbrev s_law_catalan : Stmt := topS 14
abbrev nm_law_catalan : List Str := ["most", "found", "k", "i"]
theorem sc_law_catalan : FnScope nm_law_catalan ["most"] (defScope s_law_catalan) := ⟨rfl, rfl, rfl, by decide +kernel, rfl, by decide +kernel, by decide +kernel⟩
noncomputable def catL (n : Nat) : List V := (List.range n).map fun k => .int (bal k 1 : Nat)
def sp_law_catalan (K : PySem.W.Frag) (cl : Cn → Addr) : Sp := fun vs H Q _ => ∃ n : Nat, vs = [.int n] ∧ n ≤ 31 ∧ ∀ a H', Same H H' → H' a = some (.lst (catL (n + 1))) → Q (.ref a) H'
theorem catL_at {n i : Nat} (h : i < n) : (catL n)[i]? = some (.int (bal i 1 : Nat)) := by
  unfold catL
  rw [List.getElem?_map, List.getElem?_range h]
  rfl
theorem catL_len (n : Nat) : (catL n).length = n := by
  unfold catL
  rw [List.length_map, List.length_range]
theorem catL_s (n : Nat) : catL (n + 1) = catL n ++ [.int (bal n 1 : Nat)] := by
  unfold catL
  rw [List.range_succ, List.map_append]
  rfl
theorem ok_law_catalan (T : Txt K mg cl w) {f : Addr} {fd : FuncData} (F : Fun K "_law_catalan" "_law_catalan" s_law_catalan f fd) : FnOk P w K mg base CX0 1 f fd ["most"] (sp_law_catalan K cl) := by
  have m_range := T.m_range
  have m_sum := T.m_sum
  refine F.ok sc_law_catalan (fun vs H Q E h => ?_) (fun cdv A outer s H vs Q E hr h => ?_)
  · obtain ⟨n, rfl, _⟩ := h
    rfl
  · obtain ⟨n, rfl, hn, q⟩ := h
    have hz : sizeLine = 16777216 := rfl
    refine ⟨_, (pss_cons (ps_set (i := 1) sc_law_catalan.nd rfl (Or.inr rfl) (pe_lst (pa_cons pe_int pa_nil)))
      (pss_cons (ps_for PassesOwn.never rfl (pi_range1 (by rfl) m_range (pa_cons (pv 0) pa_nil)) (pg_name (i := 2) sc_law_catalan.nd rfl (Or.inr rfl)) (pss_one (ps_expr (pe_bm PySem.F.plainAttrs_list PySem.F.slot_list_append PySem.F.type_list_append mt_append (pv 1) (pa_cons (pe_callB (cr_sum rfl) (by rfl) m_sum (by decide +kernel) (pa_cons (pe_lc (own := [("i", 3)]) (g := gName 3) (tt := tYes) rfl sc_law_catalan.nd (pi_range1 (by rfl) m_range (pa_cons (pe_op op_add (pv 2) pe_int) pa_nil)) (blkOk_by (N := nm_law_catalan) (sc := defScope s_law_catalan) (by decide +kernel)) (fun _ _ _ _ _ => (pg_name (i := 3) sc_law_catalan.nd rfl (Or.inl rfl))) (fun _ _ _ _ _ => pts_nil) (fun _ _ _ _ _ => (pe_op op_mul (pe_ix (ix_list : IxR _ (rIxL K)) (pv 1) (pv 3) (fun _ _ => rfl)) (pe_ix (ix_list : IxR _ (rIxL K)) (pv 1) (pe_op op_sub (pv 2) (pv 3)) (fun _ _ => rfl))))) pa_nil)) pa_nil)))))
      (pss_one (ps_ret (pv 1))))), ?_⟩
    refine ⟨(by show 1 ≤ sizeLine; omega), fun L nL => ?_⟩
    refine ⟨_, rfl, n, rfl, by omega, by omega, ?_⟩
    refine for_range (lo := 0) (n := n) (fun k σ H' => ∃ v, σ = [some (.int n), some (.ref L), v, none] ∧ Same H H' ∧ H' L = some (.lst (catL (k + 1)))) ⟨none, rfl, Same.upd nL, upd_same⟩ ?_ ?_
    · rintro k σ H1 hk ⟨v, rfl, s1, hL⟩
      refine ⟨_, rfl, .inl ⟨rfl, _, SqL.of hL⟩, _, rfl, _, _, rfl, rfl, k + 1, ?_, by omega, by omega, fun D nD => ?_⟩
      · show [V.int (0 + (k : Int) + 1)] = _
        rw [show 0 + (k : Int) + 1 = ((k + 1 : Nat) : Int) by omega]
        rfl
      refine lc_val (lo := 0) (n := k + 1) (fun i => .int (((bal i 1 : Nat) : Int) * ((bal (k - i) 1 : Nat) : Int))) nD (by omega) (fun _ => rfl) (fun i H2 hi s2 Q hq => ?_) (fun H2 s2 hD => ?_)
      · have hL2 := s2 _ _ hL
        refine ⟨_, rfl, _, rfl, _, _, _, _, rfl, rfl, SqL.of hL2, ?_, _, rfl, _, rfl, _, rfl, _, _, rfl, rfl, _, _, _, _, rfl, rfl, SqL.of hL2, ?_, _, _, rfl, rfl, .inl ⟨?_, ?_⟩, hq H2 (.refl _)⟩
        · rw [Int.zero_add]
          exact atI_nat (catL_at (by omega))
        · show atI _ (0 + (k : Int) - (0 + (i : Int))) = _
          rw [show 0 + (k : Int) - (0 + (i : Int)) = ((k - i : Nat) : Int) by omega]
          exact atI_nat (catL_at (by omega))
        · omega
        · exact cat_lt (by omega)
      · have hL2 := s2 _ _ hL
        refine ⟨D, (List.range (k + 1)).map fun i => ((bal i 1 : Nat) : Int) * ((bal (k - i) 1 : Nat) : Int), rfl, SqL.of (hD.trans (by rw [List.map_map]; rfl)), ?_⟩
        rw [cat_s (by omega)]
        refine ⟨_, _, _, rfl, rfl, hL2, (by rw [catL_len]; omega), ?_⟩
        refine ⟨some (.int (0 + (k : Int))), rfl, fun b o h => (by rw [upd_ne (ne_of_none h nL)]; exact (s1.trans s2) b o h), ?_⟩
        rw [upd_same, catL_s (k + 1)]
    · rintro σ H1 ⟨v, rfl, s1, hL⟩
      exact ⟨_, rfl, q L H1 s1 hL⟩
abbrev s_law_ends : Stmt := topS 15
abbrev nm_law_ends : List Str := ["pairs", "missing", "counts", "key", "value"]
theorem sc_law_ends : FnScope nm_law_ends ["pairs", "missing", "counts"] (defScope s_law_ends) := ⟨rfl, rfl, rfl, by decide +kernel, rfl, by decide +kernel, by decide +kernel⟩
def sp_law_ends_n (n : Nat) (K : PySem.W.Frag) (cl : Cn → Addr) : Sp := fun vs H Q _ => ∃ (p m : Nat) (a : Addr), vs = [.int p, .int m, .ref a] ∧ 2 * p + m < n ∧ p ≤ 31 ∧ p + m ≤ 63 ∧ CntAt H a ∧ ∀ H', ButL [a] H H' → CntAt H' a → Q (.int (bal p m : Nat)) H'
theorem sp_law_ends_0 (K : PySem.W.Frag) (cl : Cn → Addr) {vs : List V} {H : Hp} {Q : VK} {E : XK} : ¬ sp_law_ends_n 0 K cl vs H Q E := fun ⟨_, _, _, _, h, _⟩ => Nat.not_lt_zero _ h
def sp_law_ends (K : PySem.W.Frag) (cl : Cn → Addr) : Sp := sp_law_ends_n 70 K cl
theorem ok_law_ends (T : Txt K mg cl w) {f : Addr} {fd : FuncData} (F : Fun K "_law_ends" "_law_ends" s_law_ends f fd) (g_law_ends : mg "_law_ends" = some (.ref f)) (b_law_ends : Binds K fd ["pairs", "missing", "counts"] []) : ∀ n : Nat, FnOk P w K mg base CX0 (1 + n) f fd ["pairs", "missing", "counts"] (sp_law_ends_n n K cl) := by
  have m_int := T.m_int
  have k_law_ends := F.kp
  intro n
  induction n with
  | zero => exact F.ok sc_law_ends (fun vs H Q E h => absurd h (sp_law_ends_0 K cl)) (fun cdv A outer s H vs Q E hr h => absurd h (sp_law_ends_0 K cl))
  | succ n G_law_ends =>
  refine F.ok sc_law_ends (fun vs H Q E h => ?_) (fun cdv A outer s H vs Q E hr h => ?_)
  · obtain ⟨p, m, a, rfl, _⟩ := h
    rfl
  · obtain ⟨p, m, a, rfl, hn, hp, hpm, ⟨kvs, ha, hb⟩, q⟩ := h
    have hz : sizeLine = 16777216 := rfl
    have hr : Room (1 + n) _ := hr
    refine ⟨_, (pss_cons (ps_set (i := 3) sc_law_ends.nd rfl (Or.inl rfl) (pe_tup (pa_cons (pv 0) (pa_cons (pv 1) pa_nil))))
      (Evl.pss_cut (ps_if (pt_cmp (pc_dnotin (hu_of hr) (pv 3) (pv 2))) (pss_one (ps_if (pt_cmpR op_eq (pv 1) pe_int (nomark _)) (pss_one (ps_dput (hu_of hr) (pv 2) (pv 3) (pe_callTy call_int1 (by rfl) m_int (by decide +kernel) (pa_cons (pe_cmpR op_eq (pv 0) pe_int (nomark _)) pa_nil)) rfl)) (pss_cons (ps_set (i := 4) sc_law_ends.nd rfl (Or.inl rfl) (pe_call G_law_ends (hr.mono (by first | decide | omega)) (by rfl) g_law_ends k_law_ends b_law_ends .nil pass0 (pa_cons (pv 0) (pa_cons (pe_op op_sub (pv 1) pe_int) (pa_cons (pv 2) pa_nil)))))
      (Evl.pss_cut (ps_if (pt_cmpR op_gt (pv 0) pe_int (nomark _)) (pss_one (ps_set (i := 4) sc_law_ends.nd rfl (Or.inl rfl) (pe_op op_add (pv 4) (pe_call G_law_ends (hr.mono (by first | decide | omega)) (by rfl) g_law_ends k_law_ends b_law_ends .nil pass0 (pa_cons (pe_op op_sub (pv 0) pe_int) (pa_cons (pe_op op_add (pv 1) pe_int) (pa_cons (pv 2) pa_nil))))))) pss_nil)
      (pss_one (ps_dput (hu_of hr) (pv 2) (pv 3) (pv 4) rfl)))))) pss_nil)
      (pss_one (ps_ret (pe_dget (hu_of hr) (pv 2) (pv 3) (fun _ _ => rfl)))))), ?_⟩
    refine ⟨_, rfl, _, rfl, (by show 2 ≤ sizeLine; omega), fun k nk => ?_⟩
    have hk : upd H k (.tup [.int p, .int m]) k = some (.tup ((pK p m).map kV)) := upd_same
    have sk := Same.upd (o := .tup [.int p, .int m]) nk
    have ha1 := sk _ _ ha
    have ka : k ≠ a := fun z => by
      rw [z, ha] at nk
      cases nk
    have sb : ButL [a] H (upd H k (.tup [.int p, .int m])) := sk.butL
    generalize upd H k (.tup [V.int (p : Int), V.int (m : Int)]) = H1 at hk ha1 sb ⊢
    have put : ∀ (v : Option V) (kv2 : List (List Key × V)) (H2 : Hp), ButL [a] H1 H2 → H2 a = some (.dT kv2) → BalD kv2 →
        ∃ (v' : Option V) (kv3 : List (List Key × V)), [some (V.int (p : Int)), some (V.int (m : Int)), some (V.ref a), some (V.ref k), v] = [some (.int p), some (.int m), some (.ref a), some (.ref k), v'] ∧ ButL [a] H1 (upd H2 a (.dT (putK kv2 (pK p m) (.int (bal p m : Nat))))) ∧ upd H2 a (.dT (putK kv2 (pK p m) (.int (bal p m : Nat)))) a = some (.dT kv3) ∧ BalD kv3 ∧ L2.valV kv3 (pK p m) = some (.int (bal p m : Nat)) := fun v kv2 H2 b2 h2 d2 =>
      ⟨v, _, rfl, b2.trans (ButL.upd (by simp)), upd_same, d2.put hp (by omega), by rw [valV_put, if_pos rfl]⟩
    refine ⟨fun σ H' => ∃ (v : Option V) (kv2 : List (List Key × V)), σ = [some (.int p), some (.int m), some (.ref a), some (.ref k), v] ∧ ButL [a] H1 H' ∧ H' a = some (.dT kv2) ∧ BalD kv2 ∧ L2.valV kv2 (pK p m) = some (.int (bal p m : Nat)), ?_, ?_⟩
    · refine ⟨_, rfl, _, rfl, _, _, rfl, DGet.t ha1 hk, _, rfl, ?_⟩
      cases e : L2.valV kvs (pK p m) with
      | some v =>
        refine iteF ⟨none, kvs, rfl, .refl _ _, ha1, hb, ?_⟩
        rw [e, hb.get e]
      | none =>
        refine iteT ?_
        refine ⟨_, rfl, rfl, _, rfl, ?_⟩
        cases m with
        | zero =>
          refine iteS rfl ?_
          have e0 : (if decide (V.int (p : Int) = V.int 0) = true then 1 else 0 : Int) = ((bal p 0 : Nat) : Int) := by
            cases p with
            | zero => rfl
            | succ p =>
              rw [decide_eq_false (fun z => by have := V.int.inj z; omega)]
              rfl
          refine ⟨_, rfl, rfl, .inr ⟨_, rfl, _, rfl, _, rfl, _, _, rfl, DPut.t ha1 hk (by have := hb.len; omega), ?_⟩⟩
          exact e0 ▸ put none kvs H1 (.refl _ _) ha1 hb
        | succ m =>
          refine iteNo (fun z => by have := V.int.inj z; omega) ?_
          have e1 : ((m + 1 : Nat) : Int) - 1 = (m : Int) := by omega
          refine ⟨_, rfl, _, rfl, _, _, rfl, rfl, _, rfl, p, m, a, ?_, by omega, hp, by omega, ⟨kvs, ha1, hb⟩, fun H2 b2 ⟨kv2, h2, d2⟩ => ?_⟩
          · show [V.int (p : Int), V.int (((m + 1 : Nat) : Int) - 1), _] = _
            rw [e1]
          refine ⟨fun σ H' => ∃ (kv3 : List (List Key × V)), σ = [some (.int p), some (.int ((m + 1 : Nat) : Int)), some (.ref a), some (.ref k), some (.int (bal p (m + 1) : Nat))] ∧ ButL [a] H1 H' ∧ H' a = some (.dT kv3) ∧ BalD kv3, ?_, ?_⟩
          · refine ⟨_, rfl, _, _, rfl, rfl, _, rfl, ?_⟩
            cases p with
            | zero =>
              refine iteNo (by omega) ?_
              exact ⟨kv2, rfl, b2, h2, d2⟩
            | succ p =>
              refine iteS (by omega) ?_
              refine ⟨_, rfl, _, rfl, _, _, rfl, rfl, _, rfl, _, _, rfl, rfl, _, rfl, p, m + 2, a, ?_, by omega, by omega, by omega, ⟨kv2, h2, d2⟩, fun H3 b3 ⟨kv3, h3, d3⟩ => ?_⟩
              · show [V.int (((p + 1 : Nat) : Int) - 1), V.int (((m + 1 : Nat) : Int) + 1), _] = _
                rw [show (((p + 1 : Nat) : Int) - 1) = (p : Int) by omega, show (((m + 1 : Nat) : Int) + 1) = ((m + 2 : Nat) : Int) by omega]
              · exact ⟨_, _, rfl, rfl, kv3, rfl, b2.trans b3, h3, d3⟩
          · rintro σ H3 ⟨kv3, rfl, b3, h3, d3⟩
            refine ⟨_, rfl, _, rfl, _, rfl, _, _, rfl, DPut.t h3 (b3 _ _ (by simp [ka]) hk) (by have := d3.len; omega), ?_⟩
            exact put _ kv3 H3 b3 h3 d3
    · rintro σ H2 ⟨v, kv2, rfl, b2, h2, d2, e2⟩
      have hk2 := b2 _ _ (by simp [ka]) hk
      refine ⟨_, rfl, _, rfl, _, _, rfl, (by have := DGet.t h2 hk2; rwa [e2] at this), ?_⟩
      exact q H2 (sb.trans b2) ⟨kv2, h2, d2⟩
abbrev s_law_rank : Stmt := topS 16
abbrev nm_law_rank : List Str := ["tree", "left", "found", "counts", "missing", "sign"]
theorem sc_law_rank : FnScope nm_law_rank ["tree"] (defScope s_law_rank) := ⟨rfl, rfl, rfl, by decide +kernel, rfl, by decide +kernel, by decide +kernel⟩
def sp_law_rank (K : PySem.W.Frag) (cl : Cn → Addr) : Sp := fun vs H Q _ => ∃ l : List Nat, vs = [.str (stS l)] ∧ scan 1 l = some 0 ∧ l.count 49 ≤ 30 ∧ ∀ H', Same H H' → Q (.int (rankL l : Nat)) H'
theorem ok_law_rank (T : Txt K mg cl w) (H_law_catalan : Has P w K mg base CX0 1 "_law_catalan" ["most"] (sp_law_catalan K cl)) (H_law_ends : Has P w K mg base CX0 71 "_law_ends" ["pairs", "missing", "counts"] (sp_law_ends K cl)) {f : Addr} {fd : FuncData} (F : Fun K "_law_rank" "_law_rank" s_law_rank f fd) : FnOk P w K mg base CX0 72 f fd ["tree"] (sp_law_rank K cl) := by
  have m_sum := T.m_sum
  obtain ⟨f_law_catalan, d_law_catalan, G_law_catalan, g_law_catalan, k_law_catalan, b_law_catalan⟩ := H_law_catalan.ex
  obtain ⟨f_law_ends, d_law_ends, G_law_ends, g_law_ends, k_law_ends, b_law_ends⟩ := H_law_ends.ex
  refine F.ok sc_law_rank (fun vs H Q E h => ?_) (fun cdv A outer s H vs Q E hr h => ?_)
  · obtain ⟨l, rfl, _⟩ := h
    rfl
  · obtain ⟨l, rfl, hs, hc, q⟩ := h
    have hz : sizeLine = 16777216 := rfl
    refine ⟨_, (pss_cons (ps_set (i := 1) sc_law_rank.nd rfl (Or.inl rfl) (pe_bm PySem.F.plainAttrs_str PySem.F.slot_str_count PySem.F.type_str_count mt_count (pv 0) (pa_cons pe_str pa_nil)))
      (pss_cons (ps_set (i := 2) sc_law_rank.nd rfl (Or.inl rfl) (pe_callB (cr_sum rfl) (by rfl) m_sum (by decide +kernel) (pa_cons (pe_slice (sl_list : SlR _ (rSlL K)) (pe_call G_law_catalan (hr.mono (by decide)) (by rfl) g_law_catalan k_law_catalan b_law_catalan .nil pass0 (pa_cons (pv 1) pa_nil)) po_none (po_some (pv 1))) pa_nil)))
      (pss_cons (ps_set (i := 3) sc_law_rank.nd rfl (Or.inl rfl) pe_dnewT)
      (pss_cons (ps_set (i := 4) sc_law_rank.nd rfl (Or.inl rfl) pe_int)
      (pss_cons (ps_for PassesOwn.never rfl (pi_str (pv 0)) (pg_name (i := 5) sc_law_rank.nd rfl (Or.inl rfl)) (pss_one (ps_if (pt_cmpR op_eq (pv 5) pe_str (nomark _)) (pss_cons (ps_set (i := 2) sc_law_rank.nd rfl (Or.inl rfl) (pe_op op_add (pv 2) (pe_call G_law_ends (hr.mono (by decide)) (by rfl) g_law_ends k_law_ends b_law_ends .nil pass0 (pa_cons (pv 1) (pa_cons (pe_op op_sub (pv 4) pe_int) (pa_cons (pv 3) pa_nil))))))
      (pss_cons (ps_set (i := 4) sc_law_rank.nd rfl (Or.inl rfl) (pe_op op_add (pv 4) pe_int))
      (pss_one (ps_set (i := 1) sc_law_rank.nd rfl (Or.inl rfl) (pe_op op_sub (pv 1) pe_int))))) (pss_one (ps_set (i := 4) sc_law_rank.nd rfl (Or.inl rfl) (pe_op op_sub (pv 4) pe_int))))))
      (pss_one (ps_ret (pv 2)))))))), ?_⟩
    have e1 : Txt.count (stS l) (Str.ofString "1") = ((l.count 49 : Nat) : Int) := by
      rw [show (Str.ofString "1") = (⟨#[49]⟩ : Str) by decide +kernel, count_one]
      rfl
    refine ⟨_, rfl, rfl, _, _, rfl, rfl, ?_⟩
    rw [e1]
    generalize hp : l.count 49 = p at *
    refine ⟨_, rfl, p, rfl, by omega, fun L H1 s1 hL => ?_⟩
    refine ⟨_, rfl, _, rfl, _, _, rfl, SqL.of hL, fun M nM => ?_⟩
    have eM : cutV (catL (p + 1)) none (some (p : Int)) = ((List.range p).map fun q => ((bal q 1 : Nat) : Int)).map V.int := by
      rw [cutV_to, catL_s, List.take_left' (catL_len p)]
      unfold catL
      rw [List.map_map]
      rfl
    refine ⟨M, (List.range p).map fun q => ((bal q 1 : Nat) : Int), rfl, SqL.of (upd_same.trans (by rw [eM])), ?_⟩
    rw [bse_sum]
    refine fun C nC => ?_
    have s2 : Same H (upd H1 M (.lst (cutV (catL (p + 1)) none (some (p : Int))))) := s1.trans (Same.upd nM)
    have hC0 : ∀ r ∈ [C], H r = none := fun r hr => by
      rw [List.mem_singleton.mp hr]
      cases z : H C with
      | none => rfl
      | some o =>
        rw [s2 _ _ z] at nC
        cases nC
    have s3 := s2.trans (Same.upd (o := .dT []) nC)
    have hC : CntAt (upd (upd H1 M (.lst (cutV (catL (p + 1)) none (some (p : Int))))) C (.dT [])) C := ⟨[], upd_same, .nil⟩
    generalize upd (upd H1 M (.lst (cutV (catL (p + 1)) none (some (p : Int))))) C (.dT []) = H2 at s3 hC ⊢
    have hr0 : rankL l = bse p + rk 1 p l := by
      unfold rankL
      rw [hp]
    refine ⟨_, rfl, _, rfl, for_str (x := stS l) (fun a r σ H' => ∃ (w m b : Nat) (v : Option V), σ = [some (.str (stS l)), some (.int m), some (.int b), some (.ref C), some (.int w), v] ∧ ButL [C] H2 H' ∧ CntAt H' C ∧ scan 1 a = some w ∧ scan w r = some 0 ∧ a.count 49 + m = p ∧ r.count 49 = m ∧ b + rk w m r = rankL l) ⟨1, p, bse p, none, rfl, .refl _ _, hC, rfl, hs, Nat.zero_add p, hp, hr0.symm⟩ ?_ ?_⟩
    · rintro a c r σ H3 hl ⟨w, m, b, v, rfl, b3, c3, h1, h2, h3, h4, h5⟩
      have hw := scan_len a 1 w h1
      have hcl : a.count 49 ≤ a.length := List.count_le_length
      obtain ⟨u, rfl, ⟨rfl, h6⟩ | ⟨rfl, h6⟩⟩ := scan_cons h2
      · rw [cnt_0] at h4
        rw [rk_0] at h5
        refine ⟨_, rfl, rfl, _, rfl, iteNo (by rw [show (Str.ofString "1") = stS [49] by decide +kernel]; exact fun z => nomatch stS_inj (V.str.inj z)) ?_⟩
        refine ⟨_, rfl, _, _, rfl, rfl, ?_⟩
        refine ⟨u, m, b, some (.str (stS [48])), ?_, b3, c3, ?_, h6, ?_, h4, h5⟩
        · show [_, _, _, _, some (V.int (((u + 1 : Nat) : Int) - 1)), _] = _
          rw [show (((u + 1 : Nat) : Int) - 1) = (u : Int) by omega]
        · rw [scan_app a [48] 1 _ h1, scan_0]
          rfl
        · rw [List.count_append]
          exact h3
      · rw [cnt_1] at h4
        rw [rk_1] at h5
        refine ⟨_, rfl, rfl, _, rfl, iteS (by rw [show (Str.ofString "1") = stS [49] by decide +kernel]) ?_⟩
        refine ⟨_, rfl, _, rfl, _, rfl, _, _, rfl, rfl, _, rfl, m, u, C, ?_, by omega, by omega, by omega, c3, fun H4 b4 c4 => ?_⟩
        · show [_, V.int (((u + 1 : Nat) : Int) - 1), _] = _
          rw [show (((u + 1 : Nat) : Int) - 1) = (u : Int) by omega]
        refine ⟨_, _, rfl, rfl, _, rfl, _, _, rfl, rfl, _, rfl, _, _, rfl, rfl, ?_⟩
        refine ⟨u + 2, m - 1, b + bal m u, some (.str (stS [49])), ?_, b3.trans b4, c4, ?_, h6, ?_, by omega, ?_⟩
        · show [_, some (V.int ((m : Int) - 1)), some (V.int ((b : Int) + ((bal m u : Nat) : Int))), _, some (V.int (((u + 1 : Nat) : Int) + 1)), _] = _
          rw [show (((u + 1 : Nat) : Int) + 1) = ((u + 2 : Nat) : Int) by omega, show ((m : Int) - 1) = ((m - 1 : Nat) : Int) by omega]
          rfl
        · rw [scan_app a [49] 1 _ h1, scan_1]
          rfl
        · rw [List.count_append]
          show a.count 49 + 1 + (m - 1) = p
          omega
        · have h5' : b + (bal m u + rk (u + 2) (m - 1) r) = rankL l := h5
          omega
    · rintro σ H3 ⟨w, m, b, v, rfl, b3, c3, h1, h2, h3, h4, h5⟩
      refine ⟨_, rfl, ?_⟩
      have h6 := q H3 (ButL.same_new s3 hC0 b3)
      rw [← h5] at h6
      exact h6
abbrev s_unrank : Stmt := topS 7
abbrev nm_unrank : List Str := ["number", "pairs", "before", "signs", "wanted", "with_leaf"]
theorem sc_unrank : FnScope nm_unrank ["number"] (defScope s_unrank) := ⟨rfl, rfl, rfl, by decide +kernel, rfl, by decide +kernel, by decide +kernel⟩
def sp_unrank (K : PySem.W.Frag) (cl : Cn → Addr) : Sp := fun vs H Q _ => ∃ t : Tr, vs = [.int (rankL t.sg : Nat)] ∧ t.pairs ≤ 30 ∧ ∀ H', Same H H' → Q (.str t.str) H'
theorem ok_unrank (T : Txt K mg cl w) (H_count : Has P w K mg base CX0 2 "count" ["pairs"] (sp_count K cl)) (H_count_of_rows : Has P w K mg base CX0 1 "_count_of_rows" ["wanted", "pairs"] (sp_count_of_rows K cl)) {f : Addr} {fd : FuncData} (F : Fun K "unrank" "unrank" s_unrank f fd) : FnOk P w K mg base CX0 3 f fd ["number"] (sp_unrank K cl) := by
  obtain ⟨t_LEAF, m_LEAF⟩ := T.m_LEAF
  obtain ⟨f_count, d_count, G_count, g_count, k_count, b_count⟩ := H_count.ex
  obtain ⟨f_count_of_rows, d_count_of_rows, G_count_of_rows, g_count_of_rows, k_count_of_rows, b_count_of_rows⟩ := H_count_of_rows.ex
  refine F.ok sc_unrank (fun vs H Q E h => ?_) (fun cdv A outer s H vs Q E hr h => ?_)
  · obtain ⟨t, rfl, _⟩ := h
    rfl
  · obtain ⟨t, rfl, hp, q⟩ := h
    have hz : sizeLine = 16777216 := rfl
    refine ⟨_, (pss_cons (ps_set (i := 1) sc_unrank.nd rfl (Or.inl rfl) pe_int)
      (pss_cons (ps_set (i := 2) sc_unrank.nd rfl (Or.inl rfl) (pv 0))
      (pss_cons (ps_while PassesOwn.never (pt_cmpR op_ge (pv 2) (pe_call G_count (hr.mono (by decide)) (by rfl) g_count k_count b_count .nil pass0 (pa_cons (pv 1) pa_nil)) (nomark _)) (pss_cons (ps_aug (i := 2) sc_unrank.nd rfl (Or.inl rfl) (pe_call G_count (hr.mono (by decide)) (by rfl) g_count k_count b_count .nil pass0 (pa_cons (pv 1) pa_nil)) ip_sub)
      (pss_one (ps_aug (i := 1) sc_unrank.nd rfl (Or.inl rfl) pe_int ip_add))))
      (pss_cons (ps_set (i := 3) sc_unrank.nd rfl (Or.inl rfl) (pe_lst pa_nil))
      (pss_cons (ps_set (i := 4) sc_unrank.nd rfl (Or.inl rfl) pe_int)
      (pss_cons (ps_while PassesOwn.never (pt_cmpR op_gt (pv 1) pe_int (nomark _)) (pss_cons (ps_set (i := 5) sc_unrank.nd rfl (Or.inl rfl) (pe_call G_count_of_rows (hr.mono (by decide)) (by rfl) g_count_of_rows k_count_of_rows b_count_of_rows .nil pass0 (pa_cons (pe_op op_sub (pv 4) pe_int) (pa_cons (pv 1) pa_nil))))
      (pss_one (ps_if (pt_cmpR op_lt (pv 2) (pv 5) (nomark _)) (pss_cons (ps_expr (pe_bm PySem.F.plainAttrs_list PySem.F.slot_list_append PySem.F.type_list_append mt_append (pv 3) (pa_cons pe_str pa_nil)))
      (pss_one (ps_aug (i := 4) sc_unrank.nd rfl (Or.inl rfl) pe_int ip_sub))) (pss_cons (ps_aug (i := 2) sc_unrank.nd rfl (Or.inl rfl) (pv 5) ip_sub)
      (pss_cons (ps_expr (pe_bm PySem.F.plainAttrs_list PySem.F.slot_list_append PySem.F.type_list_append mt_append (pv 3) (pa_cons pe_str pa_nil)))
      (pss_cons (ps_aug (i := 1) sc_unrank.nd rfl (Or.inl rfl) pe_int ip_sub)
      (pss_one (ps_aug (i := 4) sc_unrank.nd rfl (Or.inl rfl) pe_int ip_add)))))))))
      (pss_one (ps_ret (pe_op op_add_str (pe_join pe_str (pv 3)) (pe_op op_mulS (pe_glob (v := .str "0") (by rfl) m_LEAF ⟨_, rfl⟩) (pv 4))))))))))), ?_⟩
    have hc0 := t.count_1
    have hs0 := scan_sg t
    generalize hn : rankL t.sg = n at *
    have hlt : n < bse 31 := by
      rw [← hn]
      exact rank_lt_bse hs0 (by omega)
    refine ⟨_, rfl, ?_⟩
    refine ⟨fun m σ H' => ∃ (p b : Nat), σ = [some (.int n), some (.int p), some (.int b), none, none, none] ∧ H' = H ∧ bse p + b = n ∧ p ≤ 30 ∧ m = 31 - p, ⟨_, 0, n, rfl, rfl, Nat.zero_add n, by omega, rfl⟩, ?_⟩
    rintro m σ H1 ⟨p, b, rfl, rfl, hb, hp31, rfl⟩
    refine ⟨_, rfl, _, rfl, p, rfl, by omega, _, _, rfl, rfl, _, rfl, ?_⟩
    by_cases c : bal p 1 ≤ b
    · have hp1 : p < 30 := by
        rcases Nat.lt_or_ge p 30 with z | z
        · exact z
        · have h1 := bse_mono (show 31 ≤ p + 1 by omega)
          rw [bse_s p] at h1
          omega
      refine iteS (by omega) ⟨_, fun σ' H' h => h, ?_⟩
      refine ⟨_, rfl, _, rfl, p, rfl, by omega, _, _, rfl, rfl, _, rfl, _, _, rfl, rfl, ?_⟩
      refine ⟨_, ?_, p + 1, b - bal p 1, ?_, rfl, by rw [bse_s]; omega, by omega, rfl⟩
      · omega
      · show [_, some (V.int ((p : Int) + 1)), some (V.int ((b : Int) - ((bal p 1 : Nat) : Int))), _, _, _] = _
        rw [show ((b : Int) - ((bal p 1 : Nat) : Int)) = ((b - bal p 1 : Nat) : Int) by omega]
        rfl
    · refine iteNo (by omega) ?_
      obtain ⟨hcp, hrk⟩ := size_of hs0 (by rw [hn]; exact hb.symm) (by omega)
      refine ⟨(by show 0 ≤ sizeLine; omega), fun L nL => ?_⟩
      have tl := t.sg_len
      refine ⟨fun m σ H' => ∃ (a r : List Nat) (w q b : Nat) (v : Option V), σ = [some (.int n), some (.int q), some (.int b), some (.ref L), some (.int w), v] ∧ Same H1 H' ∧ H' L = some (.lst (sgV a)) ∧ t.sg = a ++ r ∧ scan w r = some 0 ∧ r.count 49 = q ∧ rk w q r = b ∧ w + q ≤ 32 ∧ m = r.length, ⟨_, [], t.sg, 1, p, b, none, rfl, Same.upd nL, upd_same, rfl, hs0, hcp, hrk, by omega, rfl⟩, ?_⟩
      rintro m σ H2 ⟨a, r, w, q1, b1, v, rfl, s2, hL, hsp, h1, h2, h3, h4, rfl⟩
      have hal : a.length + r.length ≤ 61 := by
        have := congrArg List.length hsp
        rw [List.length_append] at this
        omega
      have put : ∀ (x : Nat) (H3 : Hp), H3 = upd H2 L (.lst (sgV (a ++ [x]))) → Same H1 H3 ∧ H3 L = some (.lst (sgV (a ++ [x]))) := fun x H3 e => by
        subst e
        refine ⟨fun b o h => ?_, upd_same⟩
        rw [upd_ne (ne_of_none h nL)]
        exact s2 b o h
      refine ⟨_, rfl, _, _, rfl, rfl, _, rfl, ?_⟩
      by_cases hq : q1 = 0
      · subst hq
        refine iteNo (by omega) ?_
        have hr := scan_no h1 h2
        have hw : w = r.length := by
          rw [hr, List.length_replicate]
        refine ⟨⟨_, rfl⟩, _, rfl, _, L, _, rfl, rfl, .inl (SqL.of hL), (by show _ + _ * 0 ≤ _; rw [sgV_sum]; omega), ?_⟩
        rw [sgV_join]
        refine ⟨_, rfl, _, _, rfl, rfl, (by omega), (by omega), (by show 1 * _ ≤ _; omega), _, _, rfl, rfl, (by rw [stS_len, len0]; omega), ?_⟩
        have e : stS a ++ stS (repL (w : Int).toNat (Str.ofString "0").cps.toList) = t.str := by
          rw [show (w : Int).toNat = w by omega, s0, show (stS [48]).cps.toList = [48] from rfl, repL_one, stS_app, ← hr, ← hsp]
          rfl
        rw [e]
        exact q H2 s2
      cases r with
      | nil => exact absurd h2.symm hq
      | cons c r =>
        obtain ⟨u, rfl, hh⟩ := scan_cons h1
        rw [List.length_cons] at hal
        refine iteS (by omega) ⟨_, fun σ' H' h => h, ?_⟩
        refine ⟨_, rfl, _, _, rfl, rfl, _, rfl, u, q1, ?_, by omega, by omega, ?_⟩
        · show [V.int (((u + 1 : Nat) : Int) - 1), _] = _
          rw [show (((u + 1 : Nat) : Int) - 1) = (u : Int) by omega]
        refine ⟨_, rfl, _, rfl, _, _, rfl, rfl, _, rfl, ?_⟩
        rcases hh with ⟨rfl, h5⟩ | ⟨rfl, h5⟩
        · rw [cnt_0] at h2
          rw [rk_0] at h3
          have h6 := rk_lt r u q1 h5 h2
          have h3 : rk u q1 r = b1 := h3
          refine iteS (by omega) ?_
          refine ⟨_, rfl, .inl ⟨rfl, _, SqL.of hL⟩, _, _, _, rfl, rfl, hL, (by rw [sgV_len]; omega), ?_⟩
          rw [s0, sgV_app]
          obtain ⟨p1, p2⟩ := put 48 _ rfl
          generalize upd H2 L (.lst (sgV (a ++ [48]))) = H3 at p1 p2 ⊢
          refine ⟨_, rfl, _, _, rfl, rfl, ?_⟩
          refine ⟨_, ?_, a ++ [48], r, u, q1, b1, some (.int (bal q1 u : Nat)), ?_, p1, p2, by rw [hsp, List.append_assoc]; rfl, h5, h2, h3, by omega, rfl⟩
          · exact Nat.lt_succ_self _
          · show [_, _, _, _, some (V.int (((u + 1 : Nat) : Int) - 1)), _] = _
            rw [show (((u + 1 : Nat) : Int) - 1) = (u : Int) by omega]
        · rw [cnt_1] at h2
          rw [rk_1] at h3
          have h3 : bal q1 u + rk (u + 2) (q1 - 1) r = b1 := h3
          refine iteNo (by omega) ?_
          refine ⟨_, rfl, _, rfl, _, _, rfl, rfl, ?_⟩
          refine ⟨_, rfl, .inl ⟨rfl, _, SqL.of hL⟩, _, _, _, rfl, rfl, hL, (by rw [sgV_len]; omega), ?_⟩
          rw [s1, sgV_app]
          obtain ⟨p1, p2⟩ := put 49 _ rfl
          generalize upd H2 L (.lst (sgV (a ++ [49]))) = H3 at p1 p2 ⊢
          refine ⟨_, rfl, _, _, rfl, rfl, _, rfl, _, _, rfl, rfl, ?_⟩
          refine ⟨_, ?_, a ++ [49], r, u + 2, q1 - 1, b1 - bal q1 u, some (.int (bal q1 u : Nat)), ?_, p1, p2, by rw [hsp, List.append_assoc]; rfl, h5, by omega, by omega, by omega, rfl⟩
          · exact Nat.lt_succ_self _
          · show [_, some (V.int ((q1 : Int) - 1)), some (V.int ((b1 : Int) - ((bal q1 u : Nat) : Int))), _, some (V.int (((u + 1 : Nat) : Int) + 1)), _] = _
            rw [show (((u + 1 : Nat) : Int) + 1) = ((u + 2 : Nat) : Int) by omega, show ((q1 : Int) - 1) = ((q1 - 1 : Nat) : Int) by omega, show ((b1 : Int) - ((bal q1 u : Nat) : Int)) = ((b1 - bal q1 u : Nat) : Int) by omega]
abbrev s_law_sizes : Stmt := topS 13
abbrev nm_law_sizes : List Str := ["tree"]
theorem sc_law_sizes : FnScope nm_law_sizes ["tree"] (defScope s_law_sizes) := ⟨rfl, rfl, rfl, by decide +kernel, rfl, by decide +kernel, by decide +kernel⟩
def sp_law_sizes (K : PySem.W.Frag) (cl : Cn → Addr) : Sp := fun vs H Q _ => ∃ x : Str, vs = [.str x] ∧ x.length ≤ 1000 ∧ ∀ p H', Same H H' → H' p = some (.lst [.int x.length, .str x]) → Q (.ref p) H'
theorem ok_law_sizes (T : Txt K mg cl w) {f : Addr} {fd : FuncData} (F : Fun K "_law_sizes" "_law_sizes" s_law_sizes f fd) : FnOk P w K mg base CX0 1 f fd ["tree"] (sp_law_sizes K cl) := by
  have m_len := T.m_len
  refine F.ok sc_law_sizes (fun vs H Q E h => ?_) (fun cdv A outer s H vs Q E hr h => ?_)
  · obtain ⟨x, rfl, _⟩ := h
    rfl
  · obtain ⟨x, rfl, hx, q⟩ := h
    have hz : sizeLine = 16777216 := rfl
    refine ⟨_, (pss_one (ps_ret (pe_lst (pa_cons (pe_callB call_len_str (by rfl) m_len (by decide +kernel) (pa_cons (pv 0) pa_nil)) (pa_cons (pv 0) pa_nil))))), ?_⟩
    exact ⟨_, rfl, _, rfl, by omega, _, rfl, (by show 2 ≤ sizeLine; omega), fun p np => q p _ (Same.upd np) upd_same⟩
abbrev s_law : Stmt := topS 17
abbrev nm_law : List Str := ["script", "stream", "pairs", "one", "two", "first", "second", "small"]
theorem sc_law : FnScope nm_law ["script"] (defScope s_law) := ⟨rfl, rfl, rfl, by decide +kernel, rfl, by decide +kernel, by decide +kernel⟩
def sp_law (K : PySem.W.Frag) (cl : Cn → Addr) : Sp := fun vs H Q _ => ∃ (a : Addr) (ns : List Int), vs = [.ref a] ∧ SqL K H a (ns.map V.int) ∧ ns.length ≤ 63 ∧ ∀ H', Q (.bl true) H'
theorem k41_lt {l m : List Nat} (h1 : scan 1 l = some 0) (h2 : scan 1 m = some 0) : decide (((rankL l : Nat) : Int) < ((rankL m : Nat) : Int)) = ltNS ((stS l).length : Int) ((stS m).length : Int) (stS l) (stS m) := by
  have e1 := scan_len l 1 0 h1
  have e2 := scan_len m 1 0 h2
  unfold ltNS
  rw [stS_len, stS_len]
  by_cases c : l.length = m.length
  · have c2 : l.count 49 = m.count 49 := by omega
    rw [if_pos (by omega)]
    show _ = decide (l < m)
    rw [decide_eq_decide, ← ltL_iff]
    constructor
    · intro z
      rcases ltL_tri l m with d | d | d
      · exact d
      · rw [d] at z
        omega
      · have := rankL_lt h2 h1 (.inr ⟨c2.symm, d⟩)
        omega
    · intro z
      have := rankL_lt h1 h2 (.inr ⟨c2, z⟩)
      omega
  · rw [if_neg (by omega), decide_eq_decide]
    constructor
    · intro z
      rcases Nat.lt_trichotomy (l.count 49) (m.count 49) with d | d | d
      · omega
      · omega
      · have := rankL_lt h2 h1 (.inl d)
        omega
    · intro z
      have := rankL_lt h1 h2 (.inl (by omega))
      omega
theorem k41_eq {l m : List Nat} (h1 : scan 1 l = some 0) (h2 : scan 1 m = some 0) : decide (V.int ((rankL l : Nat) : Int) = V.int ((rankL m : Nat) : Int)) = decide (V.str (stS l) = V.str (stS m)) := by
  rw [decide_eq_decide]
  constructor
  · intro z
    have := V.int.inj z
    rw [rankL_inj h1 h2 (by omega)]
  · intro z
    rw [stS_inj (V.str.inj z)]
theorem ok_law (T : Txt K mg cl w) (H_law_stream : Has P w K mg base CX0 1 "_law_stream" ["script"] (sp_law_stream K cl)) (H_law_draw : Has P w K mg base CX0 1 "_law_draw" ["stream", "many"] (sp_law_draw K cl)) (H_law_tree : Has P w K mg base CX0 42 "_law_tree" ["stream", "pairs"] (sp_law_tree K cl)) (H_rank : Has P w K mg base CX0 3 "rank" ["tree"] (sp_rank K cl)) (H_count : Has P w K mg base CX0 2 "count" ["pairs"] (sp_count K cl)) (H_law_is_number : Has P w K mg base CX0 1 "_law_is_number" ["value"] (sp_law_is_number K cl)) (H_law_rank : Has P w K mg base CX0 72 "_law_rank" ["tree"] (sp_law_rank K cl)) (H_unrank : Has P w K mg base CX0 3 "unrank" ["number"] (sp_unrank K cl)) (H_law_catalan : Has P w K mg base CX0 1 "_law_catalan" ["most"] (sp_law_catalan K cl)) (H_law_sizes : Has P w K mg base CX0 1 "_law_sizes" ["tree"] (sp_law_sizes K cl)) {f : Addr} {fd : FuncData} (F : Fun K "law" "law" s_law f fd) : FnOk P w K mg base CX0 73 f fd ["script"] (sp_law K cl) := by
  obtain ⟨t_MOST_PAIRS, m_MOST_PAIRS⟩ := T.m_MOST_PAIRS
  have m_int := T.m_int
  obtain ⟨f_law_stream, d_law_stream, G_law_stream, g_law_stream, k_law_stream, b_law_stream⟩ := H_law_stream.ex
  obtain ⟨f_law_draw, d_law_draw, G_law_draw, g_law_draw, k_law_draw, b_law_draw⟩ := H_law_draw.ex
  obtain ⟨f_law_tree, d_law_tree, G_law_tree, g_law_tree, k_law_tree, b_law_tree⟩ := H_law_tree.ex
  obtain ⟨f_rank, d_rank, G_rank, g_rank, k_rank, b_rank⟩ := H_rank.ex
  obtain ⟨f_count, d_count, G_count, g_count, k_count, b_count⟩ := H_count.ex
  obtain ⟨f_law_is_number, d_law_is_number, G_law_is_number, g_law_is_number, k_law_is_number, b_law_is_number⟩ := H_law_is_number.ex
  obtain ⟨f_law_rank, d_law_rank, G_law_rank, g_law_rank, k_law_rank, b_law_rank⟩ := H_law_rank.ex
  obtain ⟨f_unrank, d_unrank, G_unrank, g_unrank, k_unrank, b_unrank⟩ := H_unrank.ex
  obtain ⟨f_law_catalan, d_law_catalan, G_law_catalan, g_law_catalan, k_law_catalan, b_law_catalan⟩ := H_law_catalan.ex
  obtain ⟨f_law_sizes, d_law_sizes, G_law_sizes, g_law_sizes, k_law_sizes, b_law_sizes⟩ := H_law_sizes.ex
  refine F.ok sc_law (fun vs H Q E h => ?_) (fun cdv A outer s H vs Q E hr h => ?_)
  · obtain ⟨x, i, rfl, _⟩ := h
    rfl
  · obtain ⟨a, ns, rfl, hS, hlen, q⟩ := h
    have hz : sizeLine = 16777216 := rfl
    refine ⟨_, (pss_cons (ps_set (i := 1) sc_law.nd rfl (Or.inl rfl) (pe_call G_law_stream (hr.mono (by decide)) (by rfl) g_law_stream k_law_stream b_law_stream .nil pass0 (pa_cons (pv 0) pa_nil)))
      (pss_cons (ps_set (i := 2) sc_law.nd rfl (Or.inl rfl) (pe_call G_law_draw (hr.mono (by decide)) (by rfl) g_law_draw k_law_draw b_law_draw .nil pass0 (pa_cons (pv 1) (pa_cons pe_int pa_nil))))
      (pss_cons (ps_if (PW.pt (pw_or (pt_cmpR op_ne (pe_glob (v := .int 30) (by rfl) m_MOST_PAIRS ⟨_, rfl⟩) pe_int (nomark _)) (pw_or (pt_cmpR op_ne (pe_call G_count (hr.mono (by decide)) (by rfl) g_count k_count b_count .nil pass0 (pa_cons (pv 2) pa_nil)) (pe_ix (ix_list : IxR _ (rIxL K)) (pe_call G_law_catalan (hr.mono (by decide)) (by rfl) g_law_catalan k_law_catalan b_law_catalan .nil pass0 (pa_cons (pv 2) pa_nil)) (pv 2) (fun _ _ => rfl)) (nomark _)) (pw_or1 (pt_not (pt_val (pe_call G_law_is_number (hr.mono (by decide)) (by rfl) g_law_is_number k_law_is_number b_law_is_number .nil pass0 (pa_cons (pe_call G_count (hr.mono (by decide)) (by rfl) g_count k_count b_count .nil pass0 (pa_cons (pv 2) pa_nil)) pa_nil)))))))) (pss_one (ps_ret pe_bl)) pss_nil)
      (pss_cons (ps_set (i := 3) sc_law.nd rfl (Or.inl rfl) (pe_call G_law_tree (hr.mono (by decide)) (by rfl) g_law_tree k_law_tree b_law_tree .nil pass0 (pa_cons (pv 1) (pa_cons (pv 2) pa_nil))))
      (pss_cons (ps_set (i := 4) sc_law.nd rfl (Or.inl rfl) (pe_call G_law_tree (hr.mono (by decide)) (by rfl) g_law_tree k_law_tree b_law_tree .nil pass0 (pa_cons (pv 1) (pa_cons (pe_ix (ix_list : IxR _ (rIxL K)) (pe_lst (pa_cons (pv 2) (pa_cons (pe_call G_law_draw (hr.mono (by decide)) (by rfl) g_law_draw k_law_draw b_law_draw .nil pass0 (pa_cons (pv 1) (pa_cons pe_int pa_nil))) pa_nil))) (pe_callTy call_int1 (by rfl) m_int (by decide +kernel) (pa_cons (pe_cmpR op_eq (pe_call G_law_draw (hr.mono (by decide)) (by rfl) g_law_draw k_law_draw b_law_draw .nil pass0 (pa_cons (pv 1) (pa_cons pe_int pa_nil))) pe_int (nomark _)) pa_nil)) (fun _ _ => rfl)) pa_nil))))
      (pss_cons (ps_set (i := 5) sc_law.nd rfl (Or.inl rfl) (pe_call G_rank (hr.mono (by decide)) (by rfl) g_rank k_rank b_rank .nil pass0 (pa_cons (pv 3) pa_nil)))
      (pss_cons (ps_set (i := 6) sc_law.nd rfl (Or.inl rfl) (pe_call G_rank (hr.mono (by decide)) (by rfl) g_rank k_rank b_rank .nil pass0 (pa_cons (pv 4) pa_nil)))
      (pss_cons (ps_if (PW.pt (pw_or (pt_not (pt_val (pe_call G_law_is_number (hr.mono (by decide)) (by rfl) g_law_is_number k_law_is_number b_law_is_number .nil pass0 (pa_cons (pv 5) pa_nil)))) (pw_or (pt_cmpR op_ne (pv 5) (pe_call G_law_rank (hr.mono (by decide)) (by rfl) g_law_rank k_law_rank b_law_rank .nil pass0 (pa_cons (pv 3) pa_nil)) (nomark _)) (pw_or (pt_cmpR op_ne (pe_call G_unrank (hr.mono (by decide)) (by rfl) g_unrank k_unrank b_unrank .nil pass0 (pa_cons (pv 5) pa_nil)) (pv 3) (nomark _)) (pw_or1 (pt_cmpR op_ne (pe_call G_unrank (hr.mono (by decide)) (by rfl) g_unrank k_unrank b_unrank .nil pass0 (pa_cons (pv 6) pa_nil)) (pv 4) (nomark _))))))) (pss_one (ps_ret pe_bl)) pss_nil)
      (pss_cons (ps_if (PW.pt (pw_or (pt_cmpR op_ne (pe_cmpR op_lt (pv 5) (pv 6) (nomark _)) (pe_cmpR (op_ltNS hr.units : OpR _ _ (rLtNS K)) (pe_call G_law_sizes (hr.mono (by decide)) (by rfl) g_law_sizes k_law_sizes b_law_sizes .nil pass0 (pa_cons (pv 3) pa_nil)) (pe_call G_law_sizes (hr.mono (by decide)) (by rfl) g_law_sizes k_law_sizes b_law_sizes .nil pass0 (pa_cons (pv 4) pa_nil)) (nomark _)) (nomark _)) (pw_or1 (pt_cmpR op_ne (pe_cmpR op_eq (pv 5) (pv 6) (nomark _)) (pe_cmpR op_eq (pv 3) (pv 4) (nomark _)) (nomark _))))) (pss_one (ps_ret pe_bl)) pss_nil)
      (pss_cons (ps_set (i := 7) sc_law.nd rfl (Or.inl rfl) (pe_call G_law_draw (hr.mono (by decide)) (by rfl) g_law_draw k_law_draw b_law_draw .nil pass0 (pa_cons (pv 1) (pa_cons pe_int pa_nil))))
      (pss_one (ps_ret (pe_and (pe_cmpR op_eq (pe_call G_rank (hr.mono (by decide)) (by rfl) g_rank k_rank b_rank .nil pass0 (pa_cons (pe_call G_unrank (hr.mono (by decide)) (by rfl) g_unrank k_unrank b_unrank .nil pass0 (pa_cons (pv 7) pa_nil)) pa_nil)) (pv 7) (nomark _)) (pe_one (pe_cmpR op_eq (pe_call G_unrank (hr.mono (by decide)) (by rfl) g_unrank k_unrank b_unrank .nil pass0 (pa_cons pe_int pa_nil)) pe_str (nomark _)))))))))))))))), ?_⟩
    refine ⟨_, rfl, a, ns, rfl, hS, hlen, fun st H1 sm n0 st1 => ?_⟩
    refine ⟨_, rfl, st, _, rfl, by decide, by decide, st1, fun p H2 hp ex2 st2 => ?_⟩
    refine ⟨rfl, _, rfl, iteNS rfl ?_⟩
    refine ⟨_, rfl, p, rfl, by omega, _, rfl, p, rfl, by omega, fun L H3 s3 hL => ?_⟩
    refine ⟨_, rfl, _, _, _, _, rfl, rfl, SqL.of hL, atI_nat (catL_at (by omega)), rfl, _, rfl, iteNS rfl ?_⟩
    refine ⟨_, rfl, p, rfl, by omega, _, rfl, _, rfl, ?_⟩
    refine iteF ?_
    have st3 := s3.strm st2
    refine ⟨_, rfl, _, rfl, st, p, rfl, by omega, by omega, st3, fun t1 H4 ht1 ex4 st4 => ?_⟩
    refine ⟨_, rfl, _, rfl, _, rfl, st, _, rfl, by decide, by decide, st4, fun d5 H5 hd5 ex5 st5 => ?_⟩
    refine ⟨(by show 2 ≤ sizeLine; omega), fun D nD => ?_⟩
    have nD2 : D ≠ st := st5.ne nD
    have sD := Same.upd (o := .lst [.int (p : Int), .int (d5 : Int)]) nD
    have hD : upd H5 D (.lst [.int (p : Int), .int (d5 : Int)]) D = some (.lst [.int (p : Int), .int (d5 : Int)]) := upd_same
    have st6 := sD.strm st5
    generalize upd H5 D (.lst [V.int (p : Int), V.int (d5 : Int)]) = H6 at sD hD st6 ⊢
    refine ⟨_, rfl, st, _, rfl, by decide, by decide, st6, fun d7 H7 hd7 ex7 st7 => ?_⟩
    have hD7 := ex7.k _ _ nD2 hD
    obtain ⟨g, hg, hg30⟩ : ∃ g : Nat, atI [V.int (p : Int), V.int (d5 : Int)] (if decide (V.int (d7 : Int) = V.int 0) = true then 1 else 0) = some (.int (g : Int)) ∧ g ≤ 30 := by
      by_cases c : decide (V.int (d7 : Int) = V.int 0) = true
      · rw [if_pos c]
        exact ⟨d5, atI_nat (j := 1) rfl, by omega⟩
      · rw [if_neg c]
        exact ⟨p, atI_nat (j := 0) rfl, by omega⟩
    refine ⟨rfl, .inr ⟨_, rfl, _, _, _, _, rfl, rfl, SqL.of hD7, hg, st, g, rfl, by omega, by omega, st7, fun t2 H8 ht2 ex8 st8 => ?_⟩⟩
    have c1 := t1.count_1
    have c2 := t2.count_1
    have z1 := scan_sg t1
    have z2 := scan_sg t2
    have l1 := t1.sg_len
    have l2 := t2.sg_len
    refine ⟨_, rfl, t1.sg, rfl, z1, by omega, fun H9 s9 => ?_⟩
    refine ⟨_, rfl, t2.sg, rfl, z2, by omega, fun H10 s10 => ?_⟩
    refine ⟨_, rfl, _, rfl, _, rfl, iteF ?_⟩
    refine ⟨_, rfl, _, rfl, t1.sg, rfl, z1, by omega, fun H11 s11 => ?_⟩
    refine ⟨rfl, _, rfl, iteNS rfl ?_⟩
    refine ⟨_, rfl, t1, rfl, by omega, fun H12 s12 => ?_⟩
    refine ⟨_, rfl, rfl, _, rfl, iteNS rfl ?_⟩
    refine ⟨_, rfl, t2, rfl, by omega, fun H13 s13 => ?_⟩
    refine ⟨_, rfl, rfl, _, rfl, iteNS rfl ?_⟩
    refine ⟨_, rfl, _, rfl, _, _, rfl, rfl, _, rfl, stS t1.sg, rfl, (by rw [stS_len]; omega), fun p1 H14 s14 h14 => ?_⟩
    refine ⟨_, rfl, stS t2.sg, rfl, (by rw [stS_len]; omega), fun p2 H15 s15 h15 => ?_⟩
    refine ⟨_, _, _, _, _, _, rfl, rfl, SqL.of (s15 _ _ h14), SqL.of h15, rfl, _, rfl, ?_⟩
    refine iteFb ((bl_ne _ _).trans (by rw [k41_lt z1 z2]; exact Bool.xor_self _)) ?_
    refine ⟨_, rfl, _, rfl, rfl, _, rfl, _, rfl, rfl, rfl, _, rfl, ?_⟩
    refine iteFb (by rw [k41_eq z1 z2]; exact (bl_ne _ _).trans (Bool.xor_self _)) ?_
    refine ⟨_, rfl, st, _, rfl, by decide, by decide, ((((((((s9.trans s10).trans s11).trans s12).trans s13).trans s14).trans s15)).strm st8), fun k H16 hk ex16 st16 => ?_⟩
    obtain ⟨t3, hp3, hr3⟩ := rank_onto (n := k) (q := 10) (by rw [bse_10]; omega)
    have c3 := t3.count_1
    refine ⟨_, rfl, t3, (by rw [hr3]; rfl), by omega, fun H17 s17 => ?_⟩
    refine ⟨t3.sg, rfl, scan_sg t3, by omega, fun H18 s18 => ?_⟩
    rw [hr3]
    refine ⟨_, rfl, rfl, _, rfl, ?_⟩
    rw [decide_eq_true rfl]
    refine iteT ?_
    have e0 : rankL Tr.leaf.sg = 0 := by
      show bse 0 + rk 1 0 [48] = 0
      rw [rk_0]
      rfl
    refine ⟨.leaf, (by rw [e0]; rfl), (by decide), fun H19 s19 => ?_⟩
    refine ⟨rfl, ?_⟩
    rw [decide_eq_true (congrArg V.str sleaf.symm)]
    exact q _
end
theorem all_mk {l : PySem.W.OpenLaw} {w : World} {K : PySem.W.Frag} {h : Heap} {mg : Str → Option Value} {fa f0 f1 f2 f3 f4 f5 f6 f7 f8 f9 f10 f11 f12  : Addr} (X : K.In h) (G : h.Ns mainGlobals mg) (hfa : mg "law" = some (.ref fa))
    {od0 an0 od1 an1 od2 an2 od3 an3 od4 an4 od5 an5 od6 an6 od7 an7 od8 an8 od9 an9 od10 an10 od11 an11 od12 an12 : Option Addr} {sl0 sl1 sl2 sl3 sl4 sl5 sl6 sl7 sl8 sl9 sl10 sl11 sl12 : Array (Option Value)} {oc0 kV0 dc0 pm0 cd0 ct0 oc1 kV1 dc1 pm1 cd1 ct1 oc2 kV2 dc2 pm2 cd2 ct2 oc3 kV3 dc3 pm3 cd3 ct3 oc4 kV4 dc4 pm4 cd4 ct4 oc5 kV5 dc5 pm5 cd5 ct5 oc6 kV6 dc6 pm6 cd6 ct6 oc7 kV7 dc7 pm7 cd7 ct7 oc8 kV8 dc8 pm8 cd8 ct8 oc9 kV9 dc9 pm9 cd9 ct9 oc10 kV10 dc10 pm10 cd10 ct10 oc11 kV11 dc11 pm11 cd11 ct11 oc12 kV12 dc12 pm12 cd12 ct12 : Value} {tk_LEAF tk_MOST_PAIRS : Tok}
    (a0 : PySem.W.nsIn K mainGlobals "_law_stream" = some (some (.ref f0))) (l0 : K.lookup f0 = some ⟨oc0, od0, .func (PySem.W.fnOf "_law_stream" "_law_stream" (defArgs s_law_stream) (defBody s_law_stream) (defScope s_law_stream) .none kV0 dc0 pm0 an0 cd0 ct0), sl0⟩) (c0 : PySem.W.codeIn K cd0 "_law_stream" = true) (k0 : PySem.W.keepIn K (.ref f0) = true)
    (a1 : PySem.W.nsIn K mainGlobals "_law_draw" = some (some (.ref f1))) (l1 : K.lookup f1 = some ⟨oc1, od1, .func (PySem.W.fnOf "_law_draw" "_law_draw" (defArgs s_law_draw) (defBody s_law_draw) (defScope s_law_draw) .none kV1 dc1 pm1 an1 cd1 ct1), sl1⟩) (c1 : PySem.W.codeIn K cd1 "_law_draw" = true) (k1 : PySem.W.keepIn K (.ref f1) = true)
    (a2 : PySem.W.nsIn K mainGlobals "_law_tree" = some (some (.ref f2))) (l2 : K.lookup f2 = some ⟨oc2, od2, .func (PySem.W.fnOf "_law_tree" "_law_tree" (defArgs s_law_tree) (defBody s_law_tree) (defScope s_law_tree) .none kV2 dc2 pm2 an2 cd2 ct2), sl2⟩) (c2 : PySem.W.codeIn K cd2 "_law_tree" = true) (k2 : PySem.W.keepIn K (.ref f2) = true)
    (a3 : PySem.W.nsIn K mainGlobals "_count_of_rows" = some (some (.ref f3))) (l3 : K.lookup f3 = some ⟨oc3, od3, .func (PySem.W.fnOf "_count_of_rows" "_count_of_rows" (defArgs s_count_of_rows) (defBody s_count_of_rows) (defScope s_count_of_rows) .none kV3 dc3 pm3 an3 cd3 ct3), sl3⟩) (c3 : PySem.W.codeIn K cd3 "_count_of_rows" = true) (k3 : PySem.W.keepIn K (.ref f3) = true)
    (a4 : PySem.W.nsIn K mainGlobals "count" = some (some (.ref f4))) (l4 : K.lookup f4 = some ⟨oc4, od4, .func (PySem.W.fnOf "count" "count" (defArgs s_count) (defBody s_count) (defScope s_count) .none kV4 dc4 pm4 an4 cd4 ct4), sl4⟩) (c4 : PySem.W.codeIn K cd4 "count" = true) (k4 : PySem.W.keepIn K (.ref f4) = true)
    (a5 : PySem.W.nsIn K mainGlobals "rank" = some (some (.ref f5))) (l5 : K.lookup f5 = some ⟨oc5, od5, .func (PySem.W.fnOf "rank" "rank" (defArgs s_rank) (defBody s_rank) (defScope s_rank) .none kV5 dc5 pm5 an5 cd5 ct5), sl5⟩) (c5 : PySem.W.codeIn K cd5 "rank" = true) (k5 : PySem.W.keepIn K (.ref f5) = true)
    (a6 : PySem.W.nsIn K mainGlobals "_law_is_number" = some (some (.ref f6))) (l6 : K.lookup f6 = some ⟨oc6, od6, .func (PySem.W.fnOf "_law_is_number" "_law_is_number" (defArgs s_law_is_number) (defBody s_law_is_number) (defScope s_law_is_number) .none kV6 dc6 pm6 an6 cd6 ct6), sl6⟩) (c6 : PySem.W.codeIn K cd6 "_law_is_number" = true) (k6 : PySem.W.keepIn K (.ref f6) = true)
    (a7 : PySem.W.nsIn K mainGlobals "_law_catalan" = some (some (.ref f7))) (l7 : K.lookup f7 = some ⟨oc7, od7, .func (PySem.W.fnOf "_law_catalan" "_law_catalan" (defArgs s_law_catalan) (defBody s_law_catalan) (defScope s_law_catalan) .none kV7 dc7 pm7 an7 cd7 ct7), sl7⟩) (c7 : PySem.W.codeIn K cd7 "_law_catalan" = true) (k7 : PySem.W.keepIn K (.ref f7) = true)
    (a8 : PySem.W.nsIn K mainGlobals "_law_ends" = some (some (.ref f8))) (l8 : K.lookup f8 = some ⟨oc8, od8, .func (PySem.W.fnOf "_law_ends" "_law_ends" (defArgs s_law_ends) (defBody s_law_ends) (defScope s_law_ends) .none kV8 dc8 pm8 an8 cd8 ct8), sl8⟩) (c8 : PySem.W.codeIn K cd8 "_law_ends" = true) (k8 : PySem.W.keepIn K (.ref f8) = true)
    (a9 : PySem.W.nsIn K mainGlobals "_law_rank" = some (some (.ref f9))) (l9 : K.lookup f9 = some ⟨oc9, od9, .func (PySem.W.fnOf "_law_rank" "_law_rank" (defArgs s_law_rank) (defBody s_law_rank) (defScope s_law_rank) .none kV9 dc9 pm9 an9 cd9 ct9), sl9⟩) (c9 : PySem.W.codeIn K cd9 "_law_rank" = true) (k9 : PySem.W.keepIn K (.ref f9) = true)
    (a10 : PySem.W.nsIn K mainGlobals "unrank" = some (some (.ref f10))) (l10 : K.lookup f10 = some ⟨oc10, od10, .func (PySem.W.fnOf "unrank" "unrank" (defArgs s_unrank) (defBody s_unrank) (defScope s_unrank) .none kV10 dc10 pm10 an10 cd10 ct10), sl10⟩) (c10 : PySem.W.codeIn K cd10 "unrank" = true) (k10 : PySem.W.keepIn K (.ref f10) = true)
    (a11 : PySem.W.nsIn K mainGlobals "_law_sizes" = some (some (.ref f11))) (l11 : K.lookup f11 = some ⟨oc11, od11, .func (PySem.W.fnOf "_law_sizes" "_law_sizes" (defArgs s_law_sizes) (defBody s_law_sizes) (defScope s_law_sizes) .none kV11 dc11 pm11 an11 cd11 ct11), sl11⟩) (c11 : PySem.W.codeIn K cd11 "_law_sizes" = true) (k11 : PySem.W.keepIn K (.ref f11) = true)
    (a12 : PySem.W.nsIn K mainGlobals "law" = some (some (.ref f12))) (l12 : K.lookup f12 = some ⟨oc12, od12, .func (PySem.W.fnOf "law" "law" (defArgs s_law) (defBody s_law) (defScope s_law) .none kV12 dc12 pm12 an12 cd12 ct12), sl12⟩) (c12 : PySem.W.codeIn K cd12 "law" = true) (k12 : PySem.W.keepIn K (.ref f12) = true)
    (z_list : PySem.W.nsIn K mainGlobals "list" = some none)
    (z_int : PySem.W.nsIn K mainGlobals "int" = some none)
    (z_abs : PySem.W.nsIn K mainGlobals "abs" = some none)
    (z_len : PySem.W.nsIn K mainGlobals "len" = some none)
    (z_sum : PySem.W.nsIn K mainGlobals "sum" = some none)
    (z_range : PySem.W.nsIn K mainGlobals "range" = some none)
    (z_isinstance : PySem.W.nsIn K mainGlobals "isinstance" = some none)
    (z_bool : PySem.W.nsIn K mainGlobals "bool" = some none)
    (z_comb : PySem.W.nsIn K mainGlobals "comb" = some (some (.builtin "math.comb")))
    (z_LEAF : PySem.W.nsIn K mainGlobals "LEAF" = some (some (.str "0" tk_LEAF)))
    (z_MOST_PAIRS : PySem.W.nsIn K mainGlobals "MOST_PAIRS" = some (some (.int 30 tk_MOST_PAIRS)))
    : ∃ fd : FuncData, (∀ (s : Shared) (v : Value), BindsTo s fd ⟨[v], []⟩ [("script", v)]) ∧ ∀ base : Heap, K.In base → base.Ns mainGlobals mg → FnOk l.prog w K mg base CX0 73 fa fd ["script"] (sp_law K (fun _ => 0)) := by
  have e := hfa.symm.trans (PySem.W.mg_of X G a12)
  cases e
  let cl : Cn → Addr := fun n => match n with | .NarcissusError => 0 | .TooLarge => 0 | .BadText => 0 | .NoCode => 0 | .Ended => 0 | .OutOfSteps => 0 | .TooWide => 0 | .BadClaim => 0 | .Machine => 0 | .SHAPES => 0 | .WORDS => 0 | .CODE_OF_FIRST => 0 | .JOINING => 0 | .FORMS => 0 | .ITEMS => 0 | .CHECKS => 0
  have T : Txt K mg cl w := ⟨PySem.W.mg_none_of X G z_list, PySem.W.mg_none_of X G z_int, PySem.W.mg_none_of X G z_abs, PySem.W.mg_none_of X G z_len, PySem.W.mg_none_of X G z_sum, PySem.W.mg_none_of X G z_range, PySem.W.mg_none_of X G z_isinstance, PySem.W.mg_none_of X G z_bool, PySem.W.mg_of X G z_comb, ⟨_, PySem.W.mg_of X G z_LEAF⟩, ⟨_, PySem.W.mg_of X G z_MOST_PAIRS⟩⟩
  refine ⟨PySem.W.fnOf "law" "law" (defArgs s_law) (defBody s_law) (defScope s_law) .none kV12 dc12 pm12 an12 cd12 ct12, fun s v => .of_eq rfl, fun base _ _ => ?_⟩
  have F0 := fun_mk (st := s_law_stream) l0 c0 k0
  have B0 := F0.binds (ps := ["script"]) fun _ _ _ _ _ _ us hl => match us, hl with | [_], _ => rfl
  have H_law_stream : Has l.prog w K mg base CX0 1 "_law_stream" ["script"] (sp_law_stream K cl) := ⟨⟨_, _, ok_law_stream T F0, PySem.W.mg_of X G a0, F0.kp, B0⟩⟩
  have F1 := fun_mk (st := s_law_draw) l1 c1 k1
  have B1 := F1.binds (ps := ["stream", "many"]) fun _ _ _ _ _ _ us hl => match us, hl with | [_, _], _ => rfl
  have H_law_draw : Has l.prog w K mg base CX0 1 "_law_draw" ["stream", "many"] (sp_law_draw K cl) := ⟨⟨_, _, ok_law_draw T F1, PySem.W.mg_of X G a1, F1.kp, B1⟩⟩
  have F2 := fun_mk (st := s_law_tree) l2 c2 k2
  have B2 := F2.binds (ps := ["stream", "pairs"]) fun _ _ _ _ _ _ us hl => match us, hl with | [_, _], _ => rfl
  have H_law_tree : Has l.prog w K mg base CX0 42 "_law_tree" ["stream", "pairs"] (sp_law_tree K cl) := ⟨⟨_, _, ok_law_tree T H_law_draw F2 (PySem.W.mg_of X G a2) B2 40, PySem.W.mg_of X G a2, F2.kp, B2⟩⟩
  have F3 := fun_mk (st := s_count_of_rows) l3 c3 k3
  have B3 := F3.binds (ps := ["wanted", "pairs"]) fun _ _ _ _ _ _ us hl => match us, hl with | [_, _], _ => rfl
  have H_count_of_rows : Has l.prog w K mg base CX0 1 "_count_of_rows" ["wanted", "pairs"] (sp_count_of_rows K cl) := ⟨⟨_, _, ok_count_of_rows T F3, PySem.W.mg_of X G a3, F3.kp, B3⟩⟩
  have F4 := fun_mk (st := s_count) l4 c4 k4
  have B4 := F4.binds (ps := ["pairs"]) fun _ _ _ _ _ _ us hl => match us, hl with | [_], _ => rfl
  have H_count : Has l.prog w K mg base CX0 2 "count" ["pairs"] (sp_count K cl) := ⟨⟨_, _, ok_count T H_count_of_rows F4, PySem.W.mg_of X G a4, F4.kp, B4⟩⟩
  have F5 := fun_mk (st := s_rank) l5 c5 k5
  have B5 := F5.binds (ps := ["tree"]) fun _ _ _ _ _ _ us hl => match us, hl with | [_], _ => rfl
  have H_rank : Has l.prog w K mg base CX0 3 "rank" ["tree"] (sp_rank K cl) := ⟨⟨_, _, ok_rank T H_count H_count_of_rows F5, PySem.W.mg_of X G a5, F5.kp, B5⟩⟩
  have F6 := fun_mk (st := s_law_is_number) l6 c6 k6
  have B6 := F6.binds (ps := ["value"]) fun _ _ _ _ _ _ us hl => match us, hl with | [_], _ => rfl
  have H_law_is_number : Has l.prog w K mg base CX0 1 "_law_is_number" ["value"] (sp_law_is_number K cl) := ⟨⟨_, _, ok_law_is_number T F6, PySem.W.mg_of X G a6, F6.kp, B6⟩⟩
  have F7 := fun_mk (st := s_law_catalan) l7 c7 k7
  have B7 := F7.binds (ps := ["most"]) fun _ _ _ _ _ _ us hl => match us, hl with | [_], _ => rfl
  have H_law_catalan : Has l.prog w K mg base CX0 1 "_law_catalan" ["most"] (sp_law_catalan K cl) := ⟨⟨_, _, ok_law_catalan T F7, PySem.W.mg_of X G a7, F7.kp, B7⟩⟩
  have F8 := fun_mk (st := s_law_ends) l8 c8 k8
  have B8 := F8.binds (ps := ["pairs", "missing", "counts"]) fun _ _ _ _ _ _ us hl => match us, hl with | [_, _, _], _ => rfl
  have H_law_ends : Has l.prog w K mg base CX0 71 "_law_ends" ["pairs", "missing", "counts"] (sp_law_ends K cl) := ⟨⟨_, _, ok_law_ends T F8 (PySem.W.mg_of X G a8) B8 70, PySem.W.mg_of X G a8, F8.kp, B8⟩⟩
  have F9 := fun_mk (st := s_law_rank) l9 c9 k9
  have B9 := F9.binds (ps := ["tree"]) fun _ _ _ _ _ _ us hl => match us, hl with | [_], _ => rfl
  have H_law_rank : Has l.prog w K mg base CX0 72 "_law_rank" ["tree"] (sp_law_rank K cl) := ⟨⟨_, _, ok_law_rank T H_law_catalan H_law_ends F9, PySem.W.mg_of X G a9, F9.kp, B9⟩⟩
  have F10 := fun_mk (st := s_unrank) l10 c10 k10
  have B10 := F10.binds (ps := ["number"]) fun _ _ _ _ _ _ us hl => match us, hl with | [_], _ => rfl
  have H_unrank : Has l.prog w K mg base CX0 3 "unrank" ["number"] (sp_unrank K cl) := ⟨⟨_, _, ok_unrank T H_count H_count_of_rows F10, PySem.W.mg_of X G a10, F10.kp, B10⟩⟩
  have F11 := fun_mk (st := s_law_sizes) l11 c11 k11
  have B11 := F11.binds (ps := ["tree"]) fun _ _ _ _ _ _ us hl => match us, hl with | [_], _ => rfl
  have H_law_sizes : Has l.prog w K mg base CX0 1 "_law_sizes" ["tree"] (sp_law_sizes K cl) := ⟨⟨_, _, ok_law_sizes T F11, PySem.W.mg_of X G a11, F11.kp, B11⟩⟩
  have F12 := fun_mk (st := s_law) l12 c12 k12
  exact ok_law T H_law_stream H_law_draw H_law_tree H_rank H_count H_law_is_number H_law_rank H_unrank H_law_catalan H_law_sizes F12
end Nx
open PySem PySem.W PyProof.Rows
set_option maxRecDepth 100000 in
set_option maxHeartbeats 0 in
theorem PySem.Challenge.cw_narcissus_k41_counts_and_ranks_holds : PySem.Challenge.rw_narcissus_k41_counts_and_ranks.Holds := by
  w_on; o_law; k_head; (case hw => w_witness2)
  k_fill
  refine L2.walk_of (l := PySem.Challenge.rw_narcissus_k41_counts_and_ranks) (n := 63) (k := 73) (x := "script") (CX := fun _ => L2.CX0) (sp := fun w => Nx.sp_law _ (fun _ => 0)) rfl (by decide) rfl ⟨rfl, by decide, by decide⟩ (fun w h Y => PySem.W.kIn_of Y) ?F (fun _ _ a ns hl _ hS => ⟨a, ns, rfl, hS, hl, fun _ => rfl⟩) (fun _ _ _ _ _ h => h)
  case F =>
    intro w mg fa h KX G hmg
    refine' Nx.all_mk KX G hmg ?a0 ?l0 ?c0 ?k0 ?a1 ?l1 ?c1 ?k1 ?a2 ?l2 ?c2 ?k2 ?a3 ?l3 ?c3 ?k3 ?a4 ?l4 ?c4 ?k4 ?a5 ?l5 ?c5 ?k5 ?a6 ?l6 ?c6 ?k6 ?a7 ?l7 ?c7 ?k7 ?a8 ?l8 ?c8 ?k8 ?a9 ?l9 ?c9 ?k9 ?a10 ?l10 ?c10 ?k10 ?a11 ?l11 ?c11 ?k11 ?a12 ?l12 ?c12 ?k12 ?z_list ?z_int ?z_abs ?z_len ?z_sum ?z_range ?z_isinstance ?z_bool ?z_comb ?z_LEAF ?z_MOST_PAIRS
    (case a0 => first | rfl | k_is)
    (case l0 => first | rfl | k_is)
    (case c0 => first | rfl | k_is)
    (case k0 => first | rfl | k_is)
    (case a1 => first | rfl | k_is)
    (case l1 => first | rfl | k_is)
    (case c1 => first | rfl | k_is)
    (case k1 => first | rfl | k_is)
    (case a2 => first | rfl | k_is)
    (case l2 => first | rfl | k_is)
    (case c2 => first | rfl | k_is)
    (case k2 => first | rfl | k_is)
    (case a3 => first | rfl | k_is)
    (case l3 => first | rfl | k_is)
    (case c3 => first | rfl | k_is)
    (case k3 => first | rfl | k_is)
    (case a4 => first | rfl | k_is)
    (case l4 => first | rfl | k_is)
    (case c4 => first | rfl | k_is)
    (case k4 => first | rfl | k_is)
    (case a5 => first | rfl | k_is)
    (case l5 => first | rfl | k_is)
    (case c5 => first | rfl | k_is)
    (case k5 => first | rfl | k_is)
    (case a6 => first | rfl | k_is)
    (case l6 => first | rfl | k_is)
    (case c6 => first | rfl | k_is)
    (case k6 => first | rfl | k_is)
    (case a7 => first | rfl | k_is)
    (case l7 => first | rfl | k_is)
    (case c7 => first | rfl | k_is)
    (case k7 => first | rfl | k_is)
    (case a8 => first | rfl | k_is)
    (case l8 => first | rfl | k_is)
    (case c8 => first | rfl | k_is)
    (case k8 => first | rfl | k_is)
    (case a9 => first | rfl | k_is)
    (case l9 => first | rfl | k_is)
    (case c9 => first | rfl | k_is)
    (case k9 => first | rfl | k_is)
    (case a10 => first | rfl | k_is)
    (case l10 => first | rfl | k_is)
    (case c10 => first | rfl | k_is)
    (case k10 => first | rfl | k_is)
    (case a11 => first | rfl | k_is)
    (case l11 => first | rfl | k_is)
    (case c11 => first | rfl | k_is)
    (case k11 => first | rfl | k_is)
    (case a12 => first | rfl | k_is)
    (case l12 => first | rfl | k_is)
    (case c12 => first | rfl | k_is)
    (case k12 => first | rfl | k_is)
    (case z_list => first | rfl | k_is)
    (case z_int => first | rfl | k_is)
    (case z_abs => first | rfl | k_is)
    (case z_len => first | rfl | k_is)
    (case z_sum => first | rfl | k_is)
    (case z_range => first | rfl | k_is)
    (case z_isinstance => first | rfl | k_is)
    (case z_bool => first | rfl | k_is)
    (case z_comb => first | rfl | k_is)
    (case z_LEAF => first | rfl | k_is)
    (case z_MOST_PAIRS => first | rfl | k_is)
