import PyProof.Rows.All
import Wide.All
import OpenK.AllK
import Wide.FinOn
import HandS.ForMost
import HandS.StrMore
import HandS.IsInst
import HandS.TupLe
import HandS.Evl
import HandS.Zip
import HandS.More
import HandS.Strs
import KE.GoesMore
import KE.GoesZip
import KE.GoesEnum
import HandS.Text
import HandS.ExcIs
import HandS.TryOnly
import HandS.ExcOwn
import HandS.WordsExc
import HandS.TupAny
import HandS.Deep
import HandS.Exc
import HandS.Walk
import KE.KIndexOf
import HandS.TupMul
import HandS.Rev
import HandS.TryMany
import PyProof.FactsAll.subtypes_3
import PyProof.FactsAll.str_2
import KE.DataMinMax
import PyProof.Rows.CallKwBuiltin
import HandS.Star
import HandS.Dict
import HandS.Words
import HandS.Flt
import KE.KDictKeyed
import KE.KeyNested
import HandS.RaiseMore
import KE.KIntText
import PyProof.Rows.StrAscii
import HandS.List
import HandS.CallLocal
import KE.KUnpackStar
import PySem.Challenge.RW_narcissus_k48_whole_claims_agree
set_option Elab.async false
set_option linter.all false
set_option maxRecDepth 100000
set_option maxHeartbeats 4000000
/-! Trees as signs. -/
namespace Nx
open PySem
inductive Tr where
  | leaf
  | node (l r : Tr)
  deriving DecidableEq
def Tr.sg : Tr → List Nat
  | .leaf => [48]
  | .node l r => 49 :: (l.sg ++ r.sg)
def Tr.pairs : Tr → Nat
  | .leaf => 0
  | .node l r => l.pairs + r.pairs + 1
def Tr.hd : Tr → Tr
  | .leaf => .leaf
  | .node l _ => l
def Tr.tl : Tr → Tr
  | .leaf => .leaf
  | .node _ r => r
def stS (l : List Nat) : Str := ⟨l.toArray⟩
def Tr.str (t : Tr) : Str := stS t.sg
theorem stS_list (l : List Nat) : (stS l).cps.toList = l := rfl
theorem stS_len (l : List Nat) : (stS l).length = l.length := by
  show l.toArray.size = l.length
  simp
theorem stS_of (x : Str) : stS x.cps.toList = x := by
  cases x
  rfl
theorem stS_inj {a b : List Nat} (h : stS a = stS b) : a = b := by
  have := congrArg (fun x : Str => x.cps.toList) h
  exact this
theorem stS_app (a b : List Nat) : stS a ++ stS b = stS (a ++ b) := by
  show (⟨a.toArray ++ b.toArray⟩ : Str) = ⟨(a ++ b).toArray⟩
  simp
theorem Tr.sg_len (t : Tr) : t.sg.length = 2 * t.pairs + 1 := by
  induction t with
  | leaf => rfl
  | node l r h1 h2 =>
    show (l.sg ++ r.sg).length + 1 = 2 * (l.pairs + r.pairs + 1) + 1
    rw [List.length_append, h1, h2]
    omega
def all01 (l : List Nat) : Prop := ∀ c ∈ l, c = 48 ∨ c = 49
theorem all01_append {a b : List Nat} : all01 (a ++ b) ↔ all01 a ∧ all01 b := by
  unfold all01
  constructor
  · intro h
    exact ⟨fun c hc => h c (List.mem_append.mpr (.inl hc)), fun c hc => h c (List.mem_append.mpr (.inr hc))⟩
  · rintro ⟨h1, h2⟩ c hc
    rcases List.mem_append.mp hc with h | h
    · exact h1 c h
    · exact h2 c h
theorem Tr.sg_01 (t : Tr) : all01 t.sg := by
  induction t with
  | leaf =>
    intro c hc
    simp [Tr.sg] at hc
    exact .inl hc
  | node l r h1 h2 =>
    intro c hc
    rcases List.mem_cons.mp hc with h | h
    · exact .inr h
    · exact (all01_append.mpr ⟨h1, h2⟩) c h
/-- how many signs the first w trees of a row take; beyond it one for each tree that lacks -/
def fin : Nat → List Nat → Nat
  | 0, _ => 0
  | w + 1, [] => w + 1
  | w + 1, c :: r => 1 + fin (if c = 49 then w + 2 else w) r
theorem fin_zero (l : List Nat) : fin 0 l = 0 := by
  cases l <;> rfl
theorem fin_nil (w : Nat) : fin w [] = w := by
  cases w <;> rfl
theorem fin_app : ∀ (a b : List Nat) (w : Nat), a.length ≤ w → fin w (a ++ b) = a.length + fin (w - a.length + 2 * a.count 49) b
  | [], b, w, _ => by simp
  | c :: a, b, 0, h => by simp at h
  | c :: a, b, w + 1, h => by
    have h1 : a.length ≤ w := by simpa using h
    show 1 + fin (if c = 49 then w + 2 else w) (a ++ b) = _
    by_cases e : c = 49
    · subst e
      rw [if_pos rfl, fin_app a b (w + 2) (by omega), List.count_cons_self, List.length_cons]
      rw [show w + 2 - a.length + 2 * a.count 49 = w + 1 - (a.length + 1) + 2 * (a.count 49 + 1) by omega]
      omega
    · rw [if_neg e, fin_app a b w h1, List.count_cons_of_ne (fun q => e q), List.length_cons]
      rw [show w - a.length + 2 * a.count 49 = w + 1 - (a.length + 1) + 2 * a.count 49 by omega]
      omega
theorem fin_short {a : List Nat} {w : Nat} (h : a.length ≤ w) : fin w a = w + 2 * a.count 49 := by
  have e := fin_app a [] w h
  rw [List.append_nil, fin_nil] at e
  omega
theorem fin_tree : ∀ (t : Tr) (r : List Nat) (w : Nat), fin (w + 1) (t.sg ++ r) = t.sg.length + fin w r
  | .leaf, r, w => by
    show 1 + fin (if 48 = 49 then w + 2 else w) r = 1 + fin w r
    rfl
  | .node a b, r, w => by
    show 1 + fin (if 49 = 49 then w + 2 else w) ((a.sg ++ b.sg) ++ r) = ((a.sg ++ b.sg).length + 1) + fin w r
    rw [if_pos rfl, List.append_assoc, fin_tree a _ (w + 1), fin_tree b r w, List.length_append]
    omega
theorem fin_one (t : Tr) (r : List Nat) : fin 1 (t.sg ++ r) = t.sg.length := by
  rw [fin_tree t r 0, fin_zero, Nat.add_zero]
theorem fin_pos {w : Nat} (h : 0 < w) : ∀ l : List Nat, 0 < fin w l := fun l => by
  cases w with
  | zero => omega
  | succ w =>
    cases l with
    | nil =>
      rw [fin_nil]
      omega
    | cons c r =>
      show 0 < 1 + _
      omega
theorem parse_of : ∀ (n : Nat) (l : List Nat) (w : Nat), l.length ≤ n → all01 l → fin (w + 1) l ≤ l.length → ∃ (t : Tr) (r : List Nat), l = t.sg ++ r
  | n, [], w, _, _, h => by
    rw [fin_nil] at h
    simp at h
  | 0, c :: l, w, hn, _, _ => by simp at hn
  | n + 1, c :: l, w, hn, ha, h => by
    have hl : l.length ≤ n := by simpa using hn
    have ha' : all01 l := fun d hd => ha d (List.mem_cons_of_mem _ hd)
    rcases ha c (List.mem_cons_self ..) with e | e
    · subst e
      exact ⟨.leaf, l, rfl⟩
    · subst e
      have h' : 1 + fin (w + 1 + 1) l ≤ l.length + 1 := h
      obtain ⟨t1, r1, e1⟩ := parse_of n l (w + 1) hl ha' (by omega)
      rw [e1, fin_tree t1 r1 (w + 1)] at h'
      have z : l.length = t1.sg.length + r1.length := by rw [e1, List.length_append]
      have h2 : fin (w + 1) r1 ≤ r1.length := by
        rw [List.length_append] at h'
        omega
      have h3 : all01 r1 := (all01_append.mp (e1 ▸ ha')).2
      obtain ⟨t2, r2, e2⟩ := parse_of n r1 w (by omega) h3 h2
      refine ⟨.node t1 t2, r2, ?_⟩
      show 49 :: l = 49 :: ((t1.sg ++ t2.sg) ++ r2)
      rw [e1, e2, List.append_assoc]
theorem isT_iff (l : List Nat) : (all01 l ∧ fin 1 l = l.length) ↔ ∃ t : Tr, l = t.sg := by
  constructor
  · rintro ⟨ha, h⟩
    obtain ⟨t, r, e⟩ := parse_of l.length l 0 (Nat.le_refl _) ha (by show fin 1 l ≤ l.length; omega)
    have e2 : fin 1 l = t.sg.length := by rw [e, fin_one]
    have e3 : l.length = t.sg.length + r.length := by rw [e, List.length_append]
    have e4 : r = [] := List.length_eq_zero_iff.mp (by omega)
    exact ⟨t, by rw [e, e4, List.append_nil]⟩
  · rintro ⟨t, rfl⟩
    refine ⟨t.sg_01, ?_⟩
    have := fin_one t []
    rw [List.append_nil] at this
    exact this
theorem Tr.count_1 (t : Tr) : t.sg.count 49 = t.pairs := by
  induction t with
  | leaf => rfl
  | node l r h1 h2 =>
    show (49 :: (l.sg ++ r.sg)).count 49 = l.pairs + r.pairs + 1
    rw [List.count_cons_self, List.count_append, h1, h2]
/-- l is a beginning of a tree in which m trees are still wanted -/
def Opn (l : List Nat) (m : Nat) : Prop := all01 l ∧ (∀ r, fin 1 (l ++ r) = l.length + fin m r) ∧ l.length + m = 2 * l.count 49 + 1
theorem Opn.nil : Opn [] 1 := ⟨fun _ h => (by cases h), fun r => (by show fin 1 r = 0 + fin 1 r; omega), rfl⟩
theorem Opn.one {l : List Nat} {m : Nat} (h : Opn l (m + 1)) : Opn (l ++ [49]) (m + 2) := by
  obtain ⟨h1, h2, h3⟩ := h
  refine ⟨all01_append.mpr ⟨h1, fun c hc => by simp at hc; exact .inr hc⟩, fun r => ?_, ?_⟩
  · rw [List.append_assoc, h2, List.length_append]
    show l.length + (1 + fin (if 49 = 49 then m + 2 else m) r) = l.length + 1 + fin (m + 2) r
    rw [if_pos rfl]
    omega
  · rw [List.length_append, List.count_append]
    show l.length + 1 + (m + 2) = 2 * (l.count 49 + 1) + 1
    omega
theorem Opn.zero {l : List Nat} {m : Nat} (h : Opn l (m + 1)) : Opn (l ++ [48]) m := by
  obtain ⟨h1, h2, h3⟩ := h
  refine ⟨all01_append.mpr ⟨h1, fun c hc => by simp at hc; exact .inl hc⟩, fun r => ?_, ?_⟩
  · rw [List.append_assoc, h2, List.length_append]
    show l.length + (1 + fin (if 48 = 49 then m + 2 else m) r) = l.length + 1 + fin m r
    rw [if_neg (by decide)]
    omega
  · rw [List.length_append, List.count_append]
    show l.length + 1 + m = 2 * (l.count 49 + 0) + 1
    omega
theorem Opn.done {l : List Nat} (h : Opn l 0) : ∃ t : Tr, l = t.sg := by
  obtain ⟨h1, h2, h3⟩ := h
  refine (isT_iff l).mp ⟨h1, ?_⟩
  have := h2 []
  rw [List.append_nil, fin_zero] at this
  exact this
def repL (n : Nat) (l : List Nat) : List Nat := (List.replicate n l).flatten
theorem repL_len (n : Nat) (l : List Nat) : (repL n l).length = n * l.length := by
  unfold repL
  induction n with
  | zero => simp
  | succ n ih =>
    rw [List.replicate_succ, List.flatten_cons, List.length_append, ih, Nat.succ_mul]
    omega
theorem leaf_or {t : Tr} : (t = .leaf ∧ t.hd = .leaf ∧ t.tl = .leaf) ∨ ∃ a b, t = .node a b := by
  cases t with
  | leaf => exact .inl ⟨rfl, rfl, rfl⟩
  | node a b => exact .inr ⟨a, b, rfl⟩
theorem node_hd (a b : Tr) : ((Tr.node a b).sg.drop 1).take (1 + fin 1 ((Tr.node a b).sg.drop 1) - 1) = a.sg := by
  show (a.sg ++ b.sg).take (1 + fin 1 (a.sg ++ b.sg) - 1) = a.sg
  rw [fin_one, Nat.add_sub_cancel_left, List.take_left']
  rfl
theorem node_tl (a b : Tr) : (Tr.node a b).sg.drop (1 + fin 1 ((Tr.node a b).sg.drop 1)) = b.sg := by
  show (49 :: (a.sg ++ b.sg)).drop (1 + fin 1 (a.sg ++ b.sg)) = b.sg
  rw [fin_one, Nat.add_comm, List.drop_succ_cons, List.drop_left']
  rfl
theorem node_fin (a b : Tr) : fin 1 ((Tr.node a b).sg.drop 1) ≤ ((Tr.node a b).sg.drop 1).length := by
  show fin 1 (a.sg ++ b.sg) ≤ (a.sg ++ b.sg).length
  rw [fin_one, List.length_append]
  omega
theorem node_ne (a b : Tr) : (Tr.node a b).str ≠ stS [48] := fun h => by
  have := (List.cons.inj (stS_inj h)).1
  omega
/-- the number n as a tree -/
def numT : Nat → Tr
  | 0 => .leaf
  | n + 1 => .node .leaf (numT n)
theorem numT_sg (n : Nat) : (numT n).sg = repL n [49, 48] ++ [48] := by
  induction n with
  | zero => rfl
  | succ n ih =>
    show 49 :: ([48] ++ (numT n).sg) = _
    unfold repL at ih ⊢
    rw [ih, List.replicate_succ, List.flatten_cons]
    rfl
theorem numT_len (n : Nat) : (numT n).sg.length = 2 * n + 1 := by
  rw [numT_sg, List.length_append, repL_len]
  show n * 2 + 1 = 2 * n + 1
  omega
/-- n pairs with the leaf as their heads, and t behind them -/
def numOn : Nat → Tr → Tr
  | 0, t => t
  | n + 1, t => .node .leaf (numOn n t)
theorem numOn_sg (n : Nat) (t : Tr) : (numOn n t).sg = repL n [49, 48] ++ t.sg := by
  induction n with
  | zero => rfl
  | succ n ih =>
    show 49 :: ([48] ++ (numOn n t).sg) = _
    unfold repL at ih ⊢
    rw [ih, List.replicate_succ, List.flatten_cons]
    rfl
theorem numOn_ne : ∀ (n k : Nat) (a b c : Tr), numOn n (.node (.node a b) c) ≠ numT k
  | 0, 0, _, _, _, h => by cases h
  | 0, k + 1, a, b, c, h => by
    have := (Tr.node.inj h).1
    cases this
  | n + 1, 0, _, _, _, h => by cases h
  | n + 1, k + 1, a, b, c, h => numOn_ne n k a b c (Tr.node.inj h).2
theorem numT_inj {a b : Nat} (h : numT a = numT b) : a = b := by
  have := congrArg (fun t : Tr => t.sg.length) h
  simp only [numT_len] at this
  omega
/-- the list of some trees -/
def lstT : List Tr → Tr
  | [] => .leaf
  | t :: r => .node t (lstT r)
def Tr.items : Tr → List Tr
  | .leaf => []
  | .node a b => a :: b.items
theorem items_lstT (ts : List Tr) : (lstT ts).items = ts := by
  induction ts with
  | nil => rfl
  | cons t r ih =>
    show t :: (lstT r).items = t :: r
    rw [ih]
theorem lstT_items (t : Tr) : lstT t.items = t := by
  induction t with
  | leaf => rfl
  | node a b _ ih =>
    show Tr.node a (lstT b.items) = .node a b
    rw [ih]
theorem lstT_sg (ts : List Tr) : (lstT ts).sg = (ts.map fun t => 49 :: t.sg).flatten ++ [48] := by
  induction ts with
  | nil => rfl
  | cons t r ih =>
    show 49 :: (t.sg ++ (lstT r).sg) = _
    rw [ih, List.map_cons, List.flatten_cons, List.append_assoc]
    rfl
theorem lstT_len (ts : List Tr) : (lstT ts).sg.length = ts.length + (ts.map fun t => t.sg.length).sum + 1 := by
  induction ts with
  | nil => rfl
  | cons t r ih =>
    show (t.sg ++ (lstT r).sg).length + 1 = _
    rw [List.length_append, ih, List.map_cons, List.sum_cons, List.length_cons]
    omega
theorem items_le (t : Tr) : t.items.length ≤ t.pairs := by
  induction t with
  | leaf => exact Nat.le_refl _
  | node a b _ ih =>
    show b.items.length + 1 ≤ a.pairs + b.pairs + 1
    omega
/-- nested in the heads -/
def chT : Nat → Tr
  | 0 => .leaf
  | n + 1 => .node (chT n) .leaf
theorem chT_sg (n : Nat) : (chT n).sg = List.replicate n 49 ++ List.replicate (n + 1) 48 := by
  induction n with
  | zero => rfl
  | succ n ih =>
    show 49 :: ((chT n).sg ++ [48]) = _
    rw [ih, List.replicate_succ, List.append_assoc, List.replicate_succ' (n := n + 1)]
    rfl
theorem repL_one (n c : Nat) : repL n [c] = List.replicate n c := by
  unfold repL
  induction n with
  | zero => rfl
  | succ n ih =>
    rw [List.replicate_succ, List.flatten_cons, ih, List.replicate_succ]
    rfl
/-- reading sign by sign: how many trees are wanted behind l, none where it can't go on -/
def scan : Nat → List Nat → Option Nat
  | m, [] => some m
  | m, c :: r => if m = 0 ∨ ¬ (c = 48 ∨ c = 49) then none else scan (if c = 48 then m - 1 else m + 1) r
theorem scan_iff : ∀ (l : List Nat) (m : Nat), scan m l = some 0 ↔ (all01 l ∧ fin m l = l.length)
  | [], m => by
    show some m = some 0 ↔ _
    rw [fin_nil]
    constructor
    · intro h
      exact ⟨fun c hc => (by cases hc), Option.some.inj h⟩
    · intro h
      rw [h.2]
      rfl
  | c :: r, m => by
    show (if m = 0 ∨ ¬ (c = 48 ∨ c = 49) then none else scan (if c = 48 then m - 1 else m + 1) r) = some 0 ↔ _
    by_cases hm : m = 0
    · rw [if_pos (.inl hm), hm, fin_zero]
      constructor
      · intro h
        cases h
      · intro h
        have := h.2
        simp at this
    · by_cases hc : c = 48 ∨ c = 49
      · rw [if_neg (by rintro (h | h); exact hm h; exact h hc), scan_iff r]
        obtain ⟨k, rfl⟩ : ∃ k, m = k + 1 := ⟨m - 1, by omega⟩
        have ha : all01 (c :: r) ↔ all01 r := by
          constructor
          · intro h d hd
            exact h d (List.mem_cons_of_mem _ hd)
          · intro h d hd
            rcases List.mem_cons.mp hd with e | e
            · rw [e]
              exact hc
            · exact h d e
        rw [ha]
        show _ ↔ all01 r ∧ 1 + fin (if c = 49 then k + 2 else k) r = r.length + 1
        rcases hc with e | e
        · subst e
          rw [if_pos rfl, if_neg (by decide), Nat.add_sub_cancel]
          constructor
          · intro h
            exact ⟨h.1, by omega⟩
          · intro h
            exact ⟨h.1, by omega⟩
        · subst e
          rw [if_neg (by decide), if_pos rfl]
          constructor
          · intro h
            exact ⟨h.1, by have := h.2; show 1 + fin (k + 1 + 1) r = r.length + 1; omega⟩
          · intro h
            exact ⟨h.1, by have : 1 + fin (k + 1 + 1) r = r.length + 1 := h.2; omega⟩
      · rw [if_pos (.inr hc)]
        constructor
        · intro h
          cases h
        · intro h
          exact absurd (h.1 c (List.mem_cons_self ..)) hc
theorem count_01 : ∀ l : List Nat, l.count 48 + l.count 49 = l.length ↔ all01 l
  | [] => by
    constructor
    · intro _ c hc
      cases hc
    · intro _
      rfl
  | c :: r => by
    have ih := count_01 r
    have h1 : r.count 48 + r.count 49 ≤ r.length := count_le r
    by_cases e : c = 48
    · subst e
      rw [List.count_cons_self, List.count_cons_of_ne (by decide), List.length_cons]
      constructor
      · intro h d hd
        rcases List.mem_cons.mp hd with z | z
        · exact .inl z
        · exact ih.mp (by omega) d z
      · intro h
        have := ih.mpr fun d hd => h d (List.mem_cons_of_mem _ hd)
        omega
    · by_cases e2 : c = 49
      · subst e2
        rw [List.count_cons_self, List.count_cons_of_ne (by decide), List.length_cons]
        constructor
        · intro h d hd
          rcases List.mem_cons.mp hd with z | z
          · exact .inr z
          · exact ih.mp (by omega) d z
        · intro h
          have := ih.mpr fun d hd => h d (List.mem_cons_of_mem _ hd)
          omega
      · rw [List.count_cons_of_ne (fun z => e z), List.count_cons_of_ne (fun z => e2 z), List.length_cons]
        constructor
        · intro h
          omega
        · intro h
          rcases h c (List.mem_cons_self ..) with z | z
          · exact absurd z e
          · exact absurd z e2
where
  count_le : ∀ r : List Nat, r.count 48 + r.count 49 ≤ r.length
    | [] => Nat.le_refl _
    | c :: r => by
      have := count_le r
      by_cases e : c = 48
      · subst e
        rw [List.count_cons_self, List.count_cons_of_ne (by decide), List.length_cons]
        omega
      · by_cases e2 : c = 49
        · subst e2
          rw [List.count_cons_self, List.count_cons_of_ne (by decide), List.length_cons]
          omega
        · rw [List.count_cons_of_ne (fun z => e z), List.count_cons_of_ne (fun z => e2 z), List.length_cons]
          omega
/-- whether signs are those of a tree -/
def isT (l : List Nat) : Bool := (l.all fun c => c == 48 || c == 49) && (fin 1 l == l.length)
theorem all01_iff (l : List Nat) : (l.all fun c => c == 48 || c == 49) = true ↔ all01 l := by
  rw [List.all_eq_true]
  unfold all01
  constructor
  · intro h c hc
    have := h c hc
    simpa using this
  · intro h c hc
    have := h c hc
    simpa using this
theorem isT_true (l : List Nat) : isT l = true ↔ ∃ t : Tr, l = t.sg := by
  rw [← isT_iff]
  unfold isT
  rw [Bool.and_eq_true, all01_iff, beq_iff_eq]
theorem isT_scan (l : List Nat) : isT l = decide (scan 1 l = some 0) := by
  rw [Bool.eq_iff_iff, isT_true, decide_eq_true_eq, scan_iff, isT_iff]
theorem isT_sg (t : Tr) : isT t.sg = true := (isT_true _).mpr ⟨t, rfl⟩
theorem scan_none : ∀ (a b : List Nat) (m : Nat), scan m a = none → scan m (a ++ b) = none
  | [], b, m, h => by cases h
  | c :: a, b, m, h => by
    show (if m = 0 ∨ ¬ (c = 48 ∨ c = 49) then none else scan (if c = 48 then m - 1 else m + 1) (a ++ b)) = none
    have h' : (if m = 0 ∨ ¬ (c = 48 ∨ c = 49) then none else scan (if c = 48 then m - 1 else m + 1) a) = none := h
    by_cases hc : m = 0 ∨ ¬ (c = 48 ∨ c = 49)
    · rw [if_pos hc]
    · rw [if_neg hc] at h' ⊢
      exact scan_none a b _ h'
theorem scan_app : ∀ (a b : List Nat) (m k : Nat), scan m a = some k → scan m (a ++ b) = scan k b
  | [], b, m, k, h => by
    have : m = k := Option.some.inj h
    rw [this]
    rfl
  | c :: a, b, m, k, h => by
    show (if m = 0 ∨ ¬ (c = 48 ∨ c = 49) then none else scan (if c = 48 then m - 1 else m + 1) (a ++ b)) = _
    have h' : (if m = 0 ∨ ¬ (c = 48 ∨ c = 49) then none else scan (if c = 48 then m - 1 else m + 1) a) = some k := h
    by_cases hc : m = 0 ∨ ¬ (c = 48 ∨ c = 49)
    · rw [if_pos hc] at h'
      cases h'
    · rw [if_neg hc] at h' ⊢
      exact scan_app a b _ k h'
theorem sg_inj : ∀ {t u : Tr} {r s : List Nat}, t.sg ++ r = u.sg ++ s → t = u ∧ r = s
  | .leaf, .leaf, r, s, h => ⟨rfl, (List.cons.inj h).2⟩
  | .leaf, .node a b, r, s, h => by
    have := (List.cons.inj h).1
    omega
  | .node a b, .leaf, r, s, h => by
    have := (List.cons.inj h).1
    omega
  | .node a b, .node c d, r, s, h => by
    have h1 : (a.sg ++ b.sg) ++ r = (c.sg ++ d.sg) ++ s := (List.cons.inj h).2
    rw [List.append_assoc, List.append_assoc] at h1
    obtain ⟨e1, h2⟩ := sg_inj h1
    obtain ⟨e2, h3⟩ := sg_inj h2
    rw [e1, e2]
    exact ⟨rfl, h3⟩
theorem Tr.sg_inj {t u : Tr} (h : t.sg = u.sg) : t = u := by
  have := Nx.sg_inj (t := t) (u := u) (r := []) (s := []) (by rw [List.append_nil, List.append_nil]; exact h)
  exact this.1
theorem Tr.str_inj {t u : Tr} (h : t.str = u.str) : t = u := Tr.sg_inj (stS_inj h)
theorem Tr.str_len (t : Tr) : t.str.length = t.sg.length := stS_len _
end Nx

/-! Further rules, and what they say of signs. -/
namespace Nx
open PySem PySem.Spec PyProof.Rows L2 TL
theorem foldl_app {α : Type} : ∀ (ls : List (Array α)) (a : Array α), (ls.foldl (· ++ ·) a).toList = a.toList ++ (ls.map (·.toList)).flatten
  | [], a => by simp
  | x :: r, a => by
    rw [List.foldl_cons, foldl_app r (a ++ x)]
    simp
theorem mul_rep (x : Str) (n : Int) : Txt.mul x n = stS (repL n.toNat x.cps.toList) := by
  unfold Txt.mul repL
  by_cases h1 : n < 1
  · rw [if_pos h1, show n.toNat = 0 by omega]
    rfl
  · rw [if_neg h1]
    by_cases h2 : (n == 1 || x.length == 0) = true
    · rw [if_pos h2]
      have h3 : n = 1 ∨ x.length = 0 := by simpa using h2
      rcases h3 with h3 | h3
      · subst h3
        show x = stS (List.replicate 1 x.cps.toList).flatten
        rw [List.replicate_one, List.flatten_singleton, stS_of]
      · have h4 : x.cps.toList = [] := by
          have : x.cps.size = 0 := h3
          exact List.length_eq_zero_iff.mp (by rw [Array.length_toList]; exact this)
        rw [h4]
        have h5 : (List.replicate n.toNat ([] : List Nat)).flatten = [] := by simp
        rw [h5]
        have := stS_of x
        rw [h4] at this
        exact this.symm
    · rw [if_neg h2]
      have e : (⟨(List.replicate n.toNat x.cps).foldl (· ++ ·) #[]⟩ : Str) = stS ((List.replicate n.toNat x.cps).foldl (· ++ ·) #[]).toList := (stS_of _).symm
      rw [e, foldl_app, List.map_replicate]
      rfl
/-- a def that stands at a name and keeps a promise -/
structure Has (P : Program) (w : World) (K : PySem.W.Frag) (mg : Str → Option Value) (base : Heap) (CX : CXT) (k : Nat) (x : Str) (ps : List Str) (sp : Sp) : Prop where
  ex : ∃ f fd, FnOk P w K mg base CX k f fd ps sp ∧ mg x = some (.ref f) ∧ PySem.W.keepIn K (.ref f) = true ∧ Binds K fd ps []
/-- a method of a class, an __init__ -/
structure HasM (P : Program) (w : World) (K : PySem.W.Frag) (C : Addr) (mg : Str → Option Value) (base : Heap) (CX : CXT) (k : Nat) (m : Str) (ps : List Str) (sp : Sp) : Prop where
  ex : ∃ f fd, FnOk P w K mg base CX k f fd ps sp ∧ Meth K C m f ∧ Binds K fd ps []
structure HasI (P : Program) (w : World) (K : PySem.W.Frag) (C : Addr) (mg : Str → Option Value) (base : Heap) (CX : CXT) (k : Nat) (ps : List Str) (sp : Sp) : Prop where
  ex : ∃ f fd, FnOk P w K mg base CX k f fd ps sp ∧ Mk K C f ∧ Binds K fd ps []
section
variable {X : Cx}
def rLenS (K : PySem.W.Frag) : List V → Hp → VK → Prop := fun xs H Q => ∃ p ys, xs = [.ref p] ∧ (SqL K H p ys ∨ SqT K H p ys) ∧ Q (.int ys.length) H
def rListOf (K : PySem.W.Frag) : List V → Hp → VK → Prop := fun xs H Q => ∃ p ys, xs = [.ref p] ∧ (SqL K H p ys ∨ SqT K H p ys) ∧ ∀ l, H l = none → Q (.ref l) (upd H l (.lst ys))
theorem call_listOf : CallR X (.type "list") (rListOf X.K) := call_list_of
def rTupOf (K : PySem.W.Frag) : List V → Hp → VK → Prop := fun xs H Q => ∃ p ys, xs = [.ref p] ∧ ((SqL K H p ys ∧ ∀ l, H l = none → Q (.ref l) (upd H l (.tup ys))) ∨ (SqT K H p ys ∧ Q (.ref p) H))
theorem call_tupleOf : CallR X (.type "tuple") (rTupOf X.K) := call_tuple_of
theorem call_lenS : CallR X (.builtin "len") (rLenS X.K) := call_len_seq
/-- a test, an expression, with a word behind it: what follows is shown once, from the word -/
def tMid (t : TT) : TT := fun σ H Q => ∃ M : Bool → Hp → Prop, t σ H M ∧ ∀ b H', M b H' → Q b H'
def eMid (t : TE) : TE := fun σ H Q => ∃ M : V → Hp → Prop, t σ H M ∧ ∀ v H', M v H' → Q v H'
theorem pt_mid {e : Expr} {t : TT} (h : PT X e t) : PT X e (tMid t) := ⟨fun pins s σ H Q I ⟨M, hm, k⟩ => thn (h.run pins s σ H M I hm) fun b s1 ⟨H1, I1, q⟩ => ⟨H1, I1, k b H1 q⟩⟩
theorem pe_mid {e : Expr} {t : TE} (h : PE X e t) : PE X e (eMid t) := ⟨fun pins s σ H Q I ⟨M, hm, k⟩ => thn (h.run pins s σ H M I hm) fun u s1 ⟨v, H1, I1, r, q⟩ => ⟨v, H1, I1, r, k v H1 q⟩⟩
theorem op_mulS : OpR X (binaryOp .Mult) (fun x y H Q => ∃ (z : Str) (n : Int), x = .str z ∧ y = .int n ∧ -(2 ^ 62) ≤ n ∧ n < 2 ^ 62 ∧ z.length * n.toNat ≤ sizeLine ∧ Q (.str (stS (repL n.toNat z.cps.toList))) H) := by
  intro pins s σ H x y v u Q I rx ry h
  obtain ⟨z, n, rfl, rfl, h1, h2, hz, q⟩ := h
  obtain ⟨t, rfl⟩ := rx
  obtain ⟨t', rfl⟩ := ry
  rw [← mul_rep] at q
  refine PySem.SB.mul ⟨?_, ?_, ?_⟩ fun t' k => ⟨.str (Txt.mul z n), H, I.tok _, ⟨_, rfl⟩, q⟩
  · rw [decide_eq_false (by omega), decide_eq_false (by omega)]
    rfl
  · intro n1 n2 n3
    have h3 : 1 ≤ n := by omega
    have h4 : (n.toNat : Int) = n := by omega
    have h5 : ((z.length * n.toNat : Nat) : Int) ≤ (sizeLine : Int) := by exact_mod_cast hz
    rw [Int.natCast_mul, h4] at h5
    have h6 : (sizeLine : Int) ≤ 2 ^ 62 := by decide
    have h7 : (z.length : Int) * n ≤ 2 ^ 63 - 1 := by omega
    have h8 : (z.length : Int) ≤ (2 ^ 63 - 1) / n := (Int.le_ediv_iff_mul_le (by omega)).mpr h7
    omega
  · intro _ _
    show decide (z.length * n.toNat > sizeLine) = false
    exact decide_eq_false (by omega)
end
/-- a loop over a text's signs: what is done, what is left -/
theorem for_str {x : Str} {g : TG} {tb : TS} {D : Ends} {σ : L2.St} {H : Hp} (Pv : List Nat → List Nat → L2.St → Hp → Prop) (h0 : Pv [] x.cps.toList σ H)
    (hs : ∀ a c r σ H, a ++ c :: r = x.cps.toList → Pv a (c :: r) σ H → g (.str (stS [c])) σ H fun σ2 H2 => tb { D with nx := Pv (a ++ [c]) r, ct := Pv (a ++ [c]) r, bk := D.nx } σ2 H2)
    (hd : ∀ σ H, Pv x.cps.toList [] σ H → D.nx σ H) :
    ∃ W : Nat → Nat → L2.St → Hp → Prop, (∃ m, W 0 m σ H) ∧ ∀ i m σ H, W i m σ H →
      ((Its x).stop i H ∧ D.nx σ H) ∨ ((Its x).go i H ∧ ∃ N : L2.St → Hp → Prop, (∀ σ' H', N σ' H' → ∃ m', m' < m ∧ W (i + 1) m' σ' H') ∧ ∀ v H', (Its x).yld i H v H' → g v σ H' fun σ2 H2 => tb { D with nx := N, ct := N, bk := D.nx } σ2 H2) := by
  have hz : x.cps.toList.length = x.cps.size := Array.length_toList
  refine ⟨fun i m σ H => m = x.cps.size - i ∧ i ≤ x.cps.size ∧ Pv (x.cps.toList.take i) (x.cps.toList.drop i) σ H, ⟨_, rfl, Nat.zero_le _, h0⟩, ?_⟩
  rintro i m σ H ⟨rfl, hi, p⟩
  by_cases hlt : i < x.cps.size
  · have hl : i < x.cps.toList.length := by omega
    have e1 := List.drop_eq_getElem_cons hl
    have e2 : x.cps.toList.take i ++ [x.cps.toList[i]] = x.cps.toList.take (i + 1) := by
      rw [List.take_add_one, List.getElem?_eq_getElem hl]
      rfl
    refine .inr ⟨hlt, Pv (x.cps.toList.take (i + 1)) (x.cps.toList.drop (i + 1)), fun σ' H' p' => ⟨x.cps.size - (i + 1), by omega, rfl, hlt, p'⟩, fun v H' y => ?_⟩
    obtain ⟨e, c, hc, y⟩ := y
    have ec : c = x.cps.toList[i] := by
      have : x.cps[i]? = some x.cps.toList[i] := by
        rw [← Array.getElem?_toList]
        exact List.getElem?_eq_getElem hl
      rw [hc] at this
      exact Option.some.inj this
    subst e y
    rw [ec]
    rw [e1] at p
    have := hs (x.cps.toList.take i) x.cps.toList[i] (x.cps.toList.drop (i + 1)) σ _ (by rw [← e1, List.take_append_drop]) p
    rw [e2] at this
    exact this
  · have e : i = x.cps.size := by omega
    subst e
    rw [← hz, List.take_length, List.drop_length] at p
    exact .inl ⟨Nat.le_refl _, hd σ H p⟩
/-! ### joined texts -/
theorem joinL_nil : ∀ ls : List (List Nat), joinL [] ls = ls.flatten
  | [] => rfl
  | [p] => by
    show p = p ++ []
    rw [List.append_nil]
  | p :: q :: r => by
    show p ++ ([] ++ joinL [] (q :: r)) = p ++ (q :: r).flatten
    rw [joinL_nil (q :: r), List.nil_append]
theorem join_none (xs : List Str) : Txt.join (Str.ofString "") xs = stS (xs.map fun x : Str => x.cps.toList).flatten := by
  rw [join_eq]
  have h := tl_join (Str.ofString "") xs
  rw [show tl (Str.ofString "") = [] by decide +kernel, joinL_nil] at h
  have e : Str.join (Str.ofString "") xs = stS (tl (Str.join (Str.ofString "") xs)) := (stS_of _).symm
  rw [e, h]
/-! ### comprehensions over a list whose elements change nothing known -/
theorem lc_map {K : PySem.W.Frag} {a : Addr} {xs : List V} {te : TE} {vs : List Nat} {j : Nat} {σ : L2.St} {H1 : Hp} {D : Addr} {Qd : Hp → Prop} (f : V → V) (hD : H1 D = none) (hs : SqL K H1 a xs) (hz : xs.length < sizeLine)
    (hw : ∀ x, wipe ((wipe σ vs).set j (some x)) vs = wipe σ vs) (he : ∀ x H', x ∈ xs → Same H1 H' → ∀ Q : VK, (∀ H2, Same H' H2 → Q (f x) H2) → te ((wipe σ vs).set j (some x)) H' Q)
    (hd : ∀ H', Same H1 H' → H' D = some (.lst (xs.map f)) → Qd H') :
    ∃ W : Nat → Nat → Hp → Prop, (∃ m, W 0 m (upd H1 D (.lst []))) ∧ ∀ i m H, W i m H →
      ((Itl K a).stop i H ∧ Qd H) ∨ ((Itl K a).go i H ∧ ∃ Nx : Hp → Prop, (∀ H', Nx H' → ∃ m', m' < m ∧ W (i + 1) m' H') ∧ ∀ x H', (Itl K a).yld i H x H' → (gName j) x (wipe σ vs) H' fun σ2 H2 => wipe σ2 vs = wipe σ vs ∧ tYes σ2 H2 fun b H3 =>
        if b = true then te σ2 H3 fun y H4 => ∃ acc, H4 D = some (.lst acc) ∧ acc.length < sizeLine ∧ Nx (upd H4 D (.lst (acc ++ [y]))) else Nx H3) := by
  have hu : ∀ {H' : Hp} {o : HO}, Same H1 H' → Same H1 (upd H' D o) := fun {H' o} e b x q => by
    rw [upd_ne (ne_of_none q hD)]
    exact e b x q
  refine lc_list (xs := xs) (fun i H' => Same H1 H' ∧ H' D = some (.lst ((xs.take i).map f))) ⟨hu (.refl _), upd_same⟩ (fun i H' _ p => p.1.seq hs) (fun i x H' hi p => ?_) (fun H' p => ?_)
  · refine ⟨hw x, ?_⟩
    simp only [tYes, ↓reduceIte]
    refine he x H' (List.mem_of_getElem? hi) p.1 _ fun H2 e2 => ⟨_, e2 _ _ p.2, ?_, hu (p.1.trans e2), ?_⟩
    · rw [List.length_map, List.length_take]
      omega
    · rw [upd_same, List.take_add_one, hi, List.map_append]
      rfl
  · have e := p.2
    rw [List.take_length] at e
    exact hd H' p.1 e
theorem lc_mapT {K : PySem.W.Frag} {a : Addr} {xs : List V} {te : TE} {vs : List Nat} {j : Nat} {σ : L2.St} {H1 : Hp} {D : Addr} {Qd : Hp → Prop} (f : V → V) (hD : H1 D = none) (hs : SqT K H1 a xs) (hst : ∀ H', Same H1 H' → SqT K H' a xs) (hz : xs.length < sizeLine)
    (hw : ∀ x, wipe ((wipe σ vs).set j (some x)) vs = wipe σ vs) (he : ∀ x H', x ∈ xs → Same H1 H' → ∀ Q : VK, (∀ H2, Same H' H2 → Q (f x) H2) → te ((wipe σ vs).set j (some x)) H' Q)
    (hd : ∀ H', Same H1 H' → H' D = some (.lst (xs.map f)) → Qd H') :
    ∃ W : Nat → Nat → Hp → Prop, (∃ m, W 0 m (upd H1 D (.lst []))) ∧ ∀ i m H, W i m H →
      ((Itt K a).stop i H ∧ Qd H) ∨ ((Itt K a).go i H ∧ ∃ Nx : Hp → Prop, (∀ H', Nx H' → ∃ m', m' < m ∧ W (i + 1) m' H') ∧ ∀ x H', (Itt K a).yld i H x H' → (gName j) x (wipe σ vs) H' fun σ2 H2 => wipe σ2 vs = wipe σ vs ∧ tYes σ2 H2 fun b H3 =>
        if b = true then te σ2 H3 fun y H4 => ∃ acc, H4 D = some (.lst acc) ∧ acc.length < sizeLine ∧ Nx (upd H4 D (.lst (acc ++ [y]))) else Nx H3) := by
  have hu : ∀ {H' : Hp} {o : HO}, Same H1 H' → Same H1 (upd H' D o) := fun {H' o} e b x q => by
    rw [upd_ne (ne_of_none q hD)]
    exact e b x q
  refine lc_tup (xs := xs) (fun i H' => Same H1 H' ∧ H' D = some (.lst ((xs.take i).map f))) ⟨hu (.refl _), upd_same⟩ (fun i H' _ p => hst _ p.1) (fun i x H' hi p => ?_) (fun H' p => ?_)
  · refine ⟨hw x, ?_⟩
    simp only [tYes, ↓reduceIte]
    refine he x H' (List.mem_of_getElem? hi) p.1 _ fun H2 e2 => ⟨_, e2 _ _ p.2, ?_, hu (p.1.trans e2), ?_⟩
    · rw [List.length_map, List.length_take]
      omega
    · rw [upd_same, List.take_add_one, hi, List.map_append]
      rfl
  · have e := p.2
    rw [List.take_length] at e
    exact hd H' p.1 e
/-! ### cuts -/
theorem cut_both (l : List Nat) (i j : Nat) : cutS (stS l) (some (i : Int)) (some (j : Int)) = stS ((l.drop i).take (j - i)) := by
  show stS ((l.drop (HT.sIx (stS l).length 0 (some (i : Int)))).take (HT.sIx (stS l).length (stS l).length (some (j : Int)) - HT.sIx (stS l).length 0 (some (i : Int)))) = _
  rw [HT.sIx_nat, HT.sIx_nat, stS_len]
  congr 1
  by_cases h1 : i ≤ l.length
  · rw [Nat.min_eq_left h1]
    by_cases h2 : j ≤ l.length
    · rw [Nat.min_eq_left h2]
    · rw [Nat.min_eq_right (by omega), List.take_of_length_le (by rw [List.length_drop]; omega), List.take_of_length_le (by rw [List.length_drop]; omega)]
  · rw [show min i l.length = l.length by omega, List.drop_eq_nil_of_le (Nat.le_refl _), List.drop_eq_nil_of_le (by omega), List.take_nil, List.take_nil]
theorem cut_to (l : List Nat) (j : Nat) : cutS (stS l) none (some (j : Int)) = stS (l.take j) := by
  show stS ((l.drop 0).take (HT.sIx (stS l).length (stS l).length (some (j : Int)) - 0)) = _
  rw [HT.sIx_nat, stS_len, List.drop_zero, Nat.sub_zero]
  congr 1
  by_cases h2 : j ≤ l.length
  · rw [Nat.min_eq_left h2]
  · rw [Nat.min_eq_right (by omega), List.take_of_length_le (Nat.le_refl _), List.take_of_length_le (by omega)]
theorem cut_from (l : List Nat) (i : Nat) : cutS (stS l) (some (i : Int)) none = stS (l.drop i) := by
  show stS ((l.drop (HT.sIx (stS l).length 0 (some (i : Int)))).take ((stS l).length - HT.sIx (stS l).length 0 (some (i : Int)))) = _
  rw [HT.sIx_nat, stS_len]
  congr 1
  by_cases h1 : i ≤ l.length
  · rw [Nat.min_eq_left h1, List.take_of_length_le (by rw [List.length_drop]; omega)]
  · rw [show min i l.length = l.length by omega, List.drop_eq_nil_of_le (Nat.le_refl _), List.drop_eq_nil_of_le (by omega), List.take_nil]
/-! ### signs counted -/
theorem occ_one (x : Str) (c hi lim : Nat) (hh : hi ≤ x.length) : ∀ (n a : Nat) (st : Array Nat × Nat), st.2 ≤ a → st.1.size + n ≤ lim → a + n = hi + 1 →
    (forIn (List.range' a n) st (StrLaws.occBody x ⟨#[c]⟩ hi lim)).run.fst.size = st.1.size + ((x.cps.toList.drop a).take (hi - a)).count c
  | 0, a, st, _, _, e => by
    have : hi - a = 0 := by omega
    rw [this]
    simp
  | n + 1, a, st, h1, h2, e => by
    rw [List.range'_succ, List.forIn_cons]
    unfold StrLaws.occBody
    by_cases ha : a < hi
    · have hx : a < x.cps.toList.length := by
        rw [Array.length_toList]
        show a < x.length
        omega
      have ed : (x.cps.toList.drop a).take (hi - a) = x.cps.toList[a] :: (x.cps.toList.drop (a + 1)).take (hi - (a + 1)) := by
        rw [List.drop_eq_getElem_cons hx, show hi - a = (hi - (a + 1)) + 1 by omega, List.take_succ_cons]
      have key := StrLaws.subAt_one x c a
      by_cases hc : x.cps.toList[a] = c
      · have h3 : (st.1.size < lim ∧ st.2 ≤ a) ∧ a + (⟨#[c]⟩ : Str).length ≤ hi := ⟨⟨by omega, h1⟩, by show a + 1 ≤ hi; omega⟩
        have h4 := (key.mpr (by rw [List.getElem?_eq_getElem hx, hc])).2
        rw [if_pos ⟨h3, h4⟩]
        have ih := occ_one x c hi lim hh n (a + 1) (st.1.push a, a + (⟨#[c]⟩ : Str).length) (Nat.le_refl _) (by rw [Array.size_push]; omega) (by omega)
        unfold StrLaws.occBody at ih
        refine Eq.trans ih ?_
        rw [Array.size_push, ed, hc, List.count_cons_self]
        omega
      · have h4 : ¬ (((st.1.size < lim ∧ st.2 ≤ a) ∧ a + (⟨#[c]⟩ : Str).length ≤ hi) ∧ Builtin.Str.subAt x ⟨#[c]⟩ a = true) := by
          rintro ⟨⟨_, z1⟩, z2⟩
          have := key.mp ⟨by omega, z2⟩
          rw [List.getElem?_eq_getElem hx] at this
          exact hc (Option.some.inj this)
        rw [if_neg h4]
        have ih := occ_one x c hi lim hh n (a + 1) (st.1, st.2) (by show st.2 ≤ a + 1; omega) (by show st.1.size + n ≤ lim; omega) (by omega)
        unfold StrLaws.occBody at ih
        refine Eq.trans ih ?_
        rw [ed, List.count_cons_of_ne (fun q => hc q)]
    · have h4 : ¬ (((st.1.size < lim ∧ st.2 ≤ a) ∧ a + (⟨#[c]⟩ : Str).length ≤ hi) ∧ Builtin.Str.subAt x ⟨#[c]⟩ a = true) := by
        rintro ⟨⟨_, z1⟩, _⟩
        have : a + 1 ≤ hi := z1
        omega
      rw [if_neg h4]
      have ih := occ_one x c hi lim hh n (a + 1) (st.1, st.2) (by show st.2 ≤ a + 1; omega) (by show st.1.size + n ≤ lim; omega) (by omega)
      unfold StrLaws.occBody at ih
      refine Eq.trans ih ?_
      rw [show hi - (a + 1) = 0 by omega, show hi - a = 0 by omega]
      simp
theorem count_one (x : Str) (c : Nat) : Txt.count x ⟨#[c]⟩ = (x.cps.toList.count c : Nat) := by
  show (((Builtin.Str.occurrences x ⟨#[c]⟩ 0 x.length (x.length + 1)).length : Nat) : Int) = _
  rw [StrLaws.occ_eq, Array.length_toList, occ_one x c x.length (x.length + 1) (Nat.le_refl _) (x.length + 1 - 0) 0 (#[], 0) (Nat.le_refl _) (by show 0 + (x.length + 1 - 0) ≤ _; omega) (by omega)]
  have : ((x.cps.toList.drop 0).take (x.length - 0)) = x.cps.toList := by
    rw [List.drop_zero]
    exact List.take_of_length_le (by rw [Array.length_toList]; exact Nat.le_refl _)
  rw [this]
  show ((0 + _ : Nat) : Int) = _
  rw [Nat.zero_add]
theorem count_in (x : Str) (c : Nat) (i j : Nat) (h : i ≤ j) : Txt.countIn x ⟨#[c]⟩ (i : Int) (j : Int) = (((x.cps.toList.drop i).take (j - i)).count c : Nat) := by
  show (((Builtin.Str.occurrences x ⟨#[c]⟩ (fromIndex x.length (i : Int)) (toIndexW x.length (j : Int)) (x.length + 1)).length : Nat) : Int) = _
  have e2 : toIndexW x.length (j : Int) = min j x.length := by
    unfold toIndexW
    rw [if_neg (by omega)]
    congr 1
  have e1 : fromIndex x.length (i : Int) = i := by
    unfold fromIndex
    rw [if_neg (by omega)]
    omega
  rw [e1, e2, StrLaws.occ_eq, Array.length_toList]
  have hl : x.cps.toList.length = x.length := Array.length_toList
  by_cases hi : i ≤ x.length
  · by_cases hj : i ≤ min j x.length
    · rw [occ_one x c (min j x.length) (x.length + 1) (Nat.min_le_right _ _) (min j x.length + 1 - i) i (#[], i) (Nat.le_refl _) (by show 0 + _ ≤ _; omega) (by omega)]
      have : (x.cps.toList.drop i).take (min j x.length - i) = (x.cps.toList.drop i).take (j - i) := by
        by_cases hjx : j ≤ x.length
        · rw [Nat.min_eq_left hjx]
        · rw [List.take_of_length_le (by rw [List.length_drop]; omega), List.take_of_length_le (by rw [List.length_drop]; omega)]
      rw [this]
      show ((0 + _ : Nat) : Int) = _
      rw [Nat.zero_add]
    · omega
  · have h0 : min j x.length + 1 - i = 0 := by omega
    rw [h0, List.drop_eq_nil_of_le (by omega)]
    simp
end Nx

/-! What the laws' own helpers leave: the row of drawn numbers at one address. -/
namespace Nx
open PySem PySem.Spec PyProof.Rows L2
section
variable {X : Cx}
theorem _root_.L2.Room.units2 {k : Nat} {A : Around} (r : Room k A) : A.units + 65 < cLine := by have := r.un; omega
/-- a block that is only asked where p holds -/
theorem pss_guard {p : Prop} {b : List Stmt} {t : TS} (h : p → PSs X b t) : PSs X b (fun D σ H => p ∧ t D σ H) := ⟨fun pins s σ H D I q => (h q.1).run pins s σ H D I q.2⟩
def rInDT (K : PySem.W.Frag) : R2 := fun x y H Q => ∃ d ds, Dp K H x d ∧ Dp K H y (.tuple ds) ∧ SeqAt.shaped d = true ∧ SeqAt.shaped (.tuple ds) = true ∧ Q (.bl (ds.any fun z => PyData.eqv z d)) H
theorem op_inDT (hu : X.A.units + 65 < cLine) : OpR X (compareOp .In) (rInDT X.K) := by
  intro pins s σ H x y v u Q I rx ry h
  obtain ⟨d, ds, hd, he, sd, se, q⟩ := h
  obtain ⟨as, r1⟩ := Dp.reads I d x v hd rx
  obtain ⟨bs, r2⟩ := Dp.reads I (.tuple ds) y u he ry
  exact SeqAt.in_tuple_reads r2 r1 (SeqAt.canLay_of_shaped se) (SeqAt.canLay_of_shaped sd) (room_in_shaped sd hu) ⟨.bl _, H, I, rfl, q⟩
end
/-- the program's own classes -/
inductive Cn where
  | NarcissusError | TooLarge | BadText | NoCode | Ended | OutOfSteps | TooWide | BadClaim | Machine | SHAPES | WORDS | CODE_OF_FIRST | JOINING | FORMS | ITEMS | CHECKS
/-- what the top says of an error's class -/
structure ExcK (K : PySem.W.Frag) (C : Addr) : Prop where
  x : PySem.W.excIn K C [.type "ValueError", .type "Exception", .type "BaseException", .type "object"] "ValueError.__new__" = true
  k : PySem.W.keepIn K (.ref C) = true
  b : PySem.W.subIn K (.ref C) (.type "BaseException") = some true
  t : PySem.W.typeIn K (.ref C) = some (.type "type")
  c : ExcC K C
/-- at st stands a row from which numbers are drawn -/
def Strm (H : Hp) (st : Addr) : Prop := ∃ (l : Addr) (ns : List Int) (c i m : Int), H st = some (.lst [.ref l, .int c, .int i, .int m]) ∧ H l = some (.lst (ns.map V.int)) ∧ 0 ≤ c ∧ 0 ≤ i ∧ 0 ≤ m ∧ m < 2147483647
/-- all that was tracked but what stands at st is as it was; st's first item too -/
structure ExS (st : Addr) (H H' : Hp) : Prop where
  k : ∀ a o, a ≠ st → H a = some o → H' a = some o
  hd : ∀ l r, H st = some (.lst (.ref l :: r)) → ∃ r', H' st = some (.lst (.ref l :: r'))
instance {st : Addr} {H H' : Hp} : CoeFun (ExS st H H') (fun _ => ∀ a o, a ≠ st → H a = some o → H' a = some o) := ⟨ExS.k⟩
theorem ExS.refl {st : Addr} {H : Hp} : ExS st H H := ⟨fun _ _ _ h => h, fun _ r h => ⟨r, h⟩⟩
theorem ExS.trans {st : Addr} {H H1 H2 : Hp} (a : ExS st H H1) (b : ExS st H1 H2) : ExS st H H2 := ⟨fun c o n h => b c o n (a c o n h), fun l r h => by
  obtain ⟨r', h'⟩ := a.hd l r h
  exact b.hd l r' h'⟩
theorem ExS.put {st l : Addr} {H : Hp} {r r' : List V} (hst : H st = some (.lst (.ref l :: r))) : ExS st H (upd H st (.lst (.ref l :: r'))) := ⟨fun a u n h => by
  rw [upd_ne n]
  exact h, fun l2 r2 h => by
  rw [hst] at h
  have : l = l2 := V.ref.inj (List.cons.inj (HO.lst.inj (Option.some.inj h))).1
  rw [← this]
  exact ⟨r', upd_same⟩⟩
theorem _root_.L2.Same.exs {st : Addr} {H H' : Hp} (h : Same H H') : ExS st H H' := ⟨fun a o _ e => h a o e, fun l r e => ⟨r, h _ _ e⟩⟩
theorem _root_.L2.Same.upd {H : Hp} {p : Addr} {o : HO} (h : H p = none) : Same H (upd H p o) := fun b x e => by
  rw [upd_ne (ne_of_none e h)]
  exact e
theorem _root_.L2.Same.strm {H H' : Hp} {st : Addr} (e : Same H H') (h : Strm H st) : Strm H' st := by
  obtain ⟨l, ns, c, i, m, h1, h2, h3⟩ := h
  exact ⟨l, ns, c, i, m, e _ _ h1, e _ _ h2, h3⟩
theorem _root_.L2.Same.seqT {K : PySem.W.Frag} {H H' : Hp} {a : Addr} {xs : List V} (e : Same H H') (h : SqT K H a xs) : SqT K H' a xs := by
  rcases h with (h | ⟨o, h⟩) | h
  · exact .inl (.inl (e _ _ h))
  · exact .inl (.inr ⟨o, e _ _ h⟩)
  · exact .inr h
theorem Strm.has {H : Hp} {st : Addr} (h : Strm H st) : H st ≠ none := by
  obtain ⟨l, ns, c, i, m, h1, _⟩ := h
  rw [h1]
  intro z
  cases z
theorem Strm.ne {H : Hp} {st p : Addr} (h : Strm H st) (hp : H p = none) : p ≠ st := fun z => h.has (by rw [← z]; exact hp)
theorem map_int {ns : List Int} {j : Nat} {v : V} (h : (ns.map V.int)[j]? = some v) : ∃ n, ns[j]? = some n ∧ v = .int n := by
  rw [List.getElem?_map] at h
  cases e : ns[j]? with
  | none =>
    rw [e] at h
    cases h
  | some n =>
    rw [e] at h
    exact ⟨n, rfl, (Option.some.inj h).symm⟩
def treeV : V → Bool
  | .str s => decide (s.length ≤ 200000) && isT s.cps.toList
  | _ => false
/-- a value that is a text, or surely is none -/
def StrOr (K : PySem.W.Frag) (H : Hp) (x : V) : Prop := (∃ s, x = .str s ∧ s.length ≤ sizeLine) ∨ ∃ t, TyX K H x t ∧ PySem.W.kitOne K t (.type "str") = some false ∧ ∀ s, x ≠ .str s
theorem treeV_no {x : V} (h : ∀ s, x ≠ .str s) : treeV x = false := by
  cases x with
  | str s => exact absurd rfl (h s)
  | _ => rfl
theorem treeV_sg (t : Tr) (h : t.sg.length ≤ 200000) : treeV (.str t.str) = true := by
  show (decide (t.str.length ≤ 200000) && isT t.sg) = true
  rw [t.str_len, decide_eq_true h, isT_sg]
  rfl
theorem _root_.L2.TyX.same {K : PySem.W.Frag} {H H' : Hp} {x : V} {t : Value} (h : TyX K H x t) (e : Same H H') : TyX K H' x t := by
  cases h with
  | base b =>
    cases b with
    | non => exact .base .non
    | bl y => exact .base (.bl y)
    | int i => exact .base (.int i)
    | str y => exact .base (.str y)
    | flt y => exact .base (.flt y)
    | lst ea => exact .base (.lst (e _ _ ea))
    | frz ea => exact .base (.frz (e _ _ ea))
    | tup ea => exact .base (.tup (e _ _ ea))
    | dK ea => exact .base (.dK (e _ _ ea))
    | dT ea => exact .base (.dT (e _ _ ea))
    | ins ea cl ha hn htk hm => exact .base (.ins (e _ _ ea) cl ha hn htk hm)
  | byt b => exact .byt b
  | set ea => exact .set (e _ _ ea)
  | kList ea c => exact .kList ea c
  | kTuple ea c => exact .kTuple ea c
  | kDict ea c => exact .kDict ea c
  | fTuple ea => exact .fTuple (e _ _ ea)
  | fDict ea => exact .fDict (e _ _ ea)
theorem StrOr.same {K : PySem.W.Frag} {H H' : Hp} {x : V} (h : StrOr K H x) (e : Same H H') : StrOr K H' x := by
  rcases h with h | ⟨t, h1, h2⟩
  · exact .inl h
  · exact .inr ⟨t, h1.same e, h2⟩
def notTold (d : PyData) : Prop := SeqAt.shaped (.tuple [d]) = true ∧ PyData.eqv (.str "refused") d = false ∧ PyData.eqv (.str "large") d = false ∧ PyData.eqv (.str "wide") d = false
mutual
theorem Dp.same {K : PySem.W.Frag} {H H' : Hp} (e : Same H H') : ∀ {v : V} {d : PyData}, Dp K H v d → Dp K H' v d
  | _, _, .non => .non
  | _, _, .bl b => .bl b
  | _, _, .int i => .int i
  | _, _, .str x => .str x
  | _, _, .lst hs ha => .lst (e.seq hs) (DpAll.same e ha)
  | _, _, .tup hs ha => .tup (Same.seqT e hs) (DpAll.same e ha)
theorem DpAll.same {K : PySem.W.Frag} {H H' : Hp} (e : Same H H') : ∀ {vs : List V} {ds : List PyData}, DpAll K H vs ds → DpAll K H' vs ds
  | _, _, .nil => .nil
  | _, _, .cons h r => .cons (Dp.same e h) (DpAll.same e r)
end
theorem _root_.L2.Dp.same {K : PySem.W.Frag} {H H' : Hp} {v : V} {d : PyData} (h : Dp K H v d) (e : Same H H') : Dp K H' v d := Nx.Dp.same e h
theorem _root_.L2.DpAll.same {K : PySem.W.Frag} {H H' : Hp} {v : List V} {d : List PyData} (h : DpAll K H v d) (e : Same H H') : DpAll K H' v d := Nx.DpAll.same e h
/-- values that are texts of at most n signs -/
def strsB (n : Nat) (xs : List V) : Bool := xs.all fun v => match v with | .str z => decide (z.length ≤ n) | _ => false
theorem atI_some {α : Type} {xs : List α} {d : Nat} (h : d < xs.length) : ∃ v, atI xs (d : Int) = some v ∧ v ∈ xs := ⟨xs[d], atI_nat (List.getElem?_eq_getElem h), List.getElem_mem h⟩
/-- an item of a written list at an open place -/
theorem ixL_any {K : PySem.W.Frag} {H : Hp} {p : Addr} {xs : List V} {d : Nat} {Q : VK} (hp : H p = some (.lst xs)) (hd : d < xs.length) (q : ∀ v ∈ xs, Q v H) : rIxL K (.ref p) (.int d) H Q := by
  obtain ⟨v, h1, h2⟩ := atI_some hd
  exact ⟨p, xs, d, v, rfl, rfl, SqL.of hp, h1, q v h2⟩
theorem ixL_menu {K : PySem.W.Frag} {H : Hp} {p : Addr} {xs : List V} {d : Nat} {Q : VK} (n : Nat) (hp : H p = some (.lst xs)) (hs : strsB n xs = true) (hd : d < xs.length) (q : ∀ z : Str, z.length ≤ n → Q (.str z) H) : rIxL K (.ref p) (.int d) H Q := by
  refine ixL_any hp hd fun v hv => ?_
  have := List.all_eq_true.mp hs v hv
  cases v with
  | str z => exact q z (of_decide_eq_true this)
  | _ => cases this
theorem ixS_any {H : Hp} {z : Str} {d : Nat} {Q : VK} (n : Nat) (hz : z.length = n) (hn : n ≤ sizeLine) (hd : d < n) (q : ∀ c : Nat, Q (.str (stS [c])) H) : rIxS (.str z) (.int d) H Q := by
  have hl : z.cps.toList.length = z.length := Array.length_toList
  obtain ⟨c, h1, _⟩ := atI_some (xs := z.cps.toList) (d := d) (by omega)
  exact ⟨z, d, c, rfl, rfl, by omega, h1, q c⟩
theorem iteFb {b : Bool} {A B : Prop} (h : b = false) (g : B) : if b = true then A else B := by
  rw [h]
  exact iteF g
theorem iteTb {b : Bool} {A B : Prop} (h : b = true) (g : A) : if b = true then A else B := by
  rw [h]
  exact iteT g
theorem iteS {c A B : Prop} [Decidable c] (hc : c) (h : A) : if decide c = true then A else B := by
  rw [decide_eq_true hc]
  exact iteT h
theorem iteNo {c A B : Prop} [Decidable c] (hc : ¬ c) (h : B) : if decide c = true then A else B := by
  rw [decide_eq_false hc]
  exact iteF h
/-- the integer whose number a text is, or None -/
def valV (x : Str) : V := if x = (numT (x.length / 2)).str then .int ((x.length / 2 : Nat) : Int) else .non
theorem valV_num (n : Nat) : valV (numT n).str = .int n := by
  have h : (numT n).str.length / 2 = n := by
    rw [Tr.str_len, numT_len]
    omega
  unfold valV
  rw [h, if_pos rfl]
theorem valV_no {t : Tr} (h : ∀ k, t ≠ numT k) : valV t.str = .non := by
  unfold valV
  rw [if_neg fun z => h _ (Tr.str_inj z)]
theorem valV_or (t : Tr) : (∃ k, t = numT k ∧ valV t.str = .int k) ∨ ((∀ k, t ≠ numT k) ∧ valV t.str = .non) := by
  by_cases h : ∃ k, t = numT k
  · obtain ⟨k, rfl⟩ := h
    exact .inl ⟨k, rfl, valV_num k⟩
  · have h' : ∀ k, t ≠ numT k := fun k e => h ⟨k, e⟩
    exact .inr ⟨h', valV_no h'⟩
theorem s0 : (Str.ofString "0") = stS [48] := by decide +kernel
theorem s1 : (Str.ofString "1") = stS [49] := by decide +kernel
theorem strOk_01 {l : List Nat} (h : all01 l) : PyData.strOk (stS l) = true := by
  unfold PyData.strOk
  rw [Array.all_eq_true']
  intro c hc
  have hc' : c ∈ l := List.mem_toArray.mp hc
  rcases h c hc' with e | e
  · rw [e]
    decide
  · rw [e]
    decide
theorem shaped_01 {l : List Nat} (h : all01 l) : SeqAt.shaped (.str (stS l)) = true := by
  show (PyData.strOk (stS l) && decide (0 ≤ 64)) = true
  rw [strOk_01 h]
  rfl
theorem eqv_str (x : Str) : PyData.eqv (.str x) (.str x) = true := by
  show (x == x) = true
  exact beq_self_eq_true x
theorem cons_str (a b : Tr) : stS (49 :: (a.str.cps.toList ++ b.str.cps.toList)) = (Tr.node a b).str := rfl
theorem str_cons (a b : Tr) : Str.ofString "1" ++ a.str ++ b.str = (Tr.node a b).str := by
  rw [s1]
  show stS [49] ++ stS a.sg ++ stS b.sg = stS (49 :: (a.sg ++ b.sg))
  rw [stS_app, stS_app]
  rfl
/-- the text of a number as the laws write it -/
theorem num_str (n : Nat) : stS (repL n (Str.ofString "10").cps.toList) ++ Str.ofString "0" = (numT n).str := by
  rw [s0, stS_app, show (Str.ofString "10").cps.toList = [49, 48] by decide +kernel]
  show _ = stS _
  rw [numT_sg]
theorem len10 (n : Nat) : (stS (repL n (Str.ofString "10").cps.toList)).length = 2 * n := by
  rw [stS_len, repL_len, show (Str.ofString "10").cps.toList.length = 2 by decide +kernel]
  omega
theorem len1 (n : Nat) : (stS (repL n (Str.ofString "1").cps.toList)).length = n := by
  rw [stS_len, repL_len, show (Str.ofString "1").cps.toList.length = 1 by decide +kernel]
  omega
theorem len0 (n : Nat) : (stS (repL n (Str.ofString "0").cps.toList)).length = n := by
  rw [stS_len, repL_len, show (Str.ofString "0").cps.toList.length = 1 by decide +kernel]
  omega
theorem ch_str (n : Nat) : stS (repL n (Str.ofString "1").cps.toList) ++ stS (repL (n + 1) (Str.ofString "0").cps.toList) = (chT n).str := by
  rw [s0, s1, stS_app]
  show stS (repL n [49] ++ repL (n + 1) [48]) = stS _
  rw [chT_sg, repL_one, repL_one]
theorem chT_len (n : Nat) : (chT n).sg.length = 2 * n + 1 := by
  rw [chT_sg, List.length_append, List.length_replicate, List.length_replicate]
  omega
theorem in01 (c : Nat) : inV (.str (stS [c])) [.str "0", .str "1"] = decide (c = 48 ∨ c = 49) := by
  have h : ∀ d : Nat, eqV (.str (stS [d])) (.str (stS [c])) = decide (c = d) := fun d => by
    show (stS [d] == stS [c]) = _
    rw [Bool.eq_iff_iff, beq_iff_eq, decide_eq_true_eq]
    constructor
    · intro z
      exact (List.cons.inj (stS_inj z)).1.symm
    · intro z
      rw [z]
  show (eqV (.str "0") (.str (stS [c])) || (eqV (.str "1") (.str (stS [c])) || false)) = _
  rw [s0, s1, h, h, Bool.or_false, Bool.decide_or]
theorem sig01 (c : Nat) : decide (V.str (stS [c]) = V.str "0") = decide (c = 48) := by
  rw [s0, Bool.eq_iff_iff, decide_eq_true_eq, decide_eq_true_eq]
  constructor
  · intro z
    have := stS_inj (V.str.inj z)
    exact (List.cons.inj this).1
  · intro z
    rw [z]
/-- trees as values -/
def trV (ts : List Tr) : List V := ts.map fun t => V.str t.str
theorem trV_len (ts : List Tr) : (trV ts).length = ts.length := List.length_map _
theorem mem_trV {ts : List Tr} {x : V} (h : x ∈ trV ts) : ∃ t ∈ ts, x = .str t.str := by
  obtain ⟨t, h1, h2⟩ := List.mem_map.mp h
  exact ⟨t, h1, h2.symm⟩
theorem trV_of {P : Tr → Prop} : ∀ {ys : List V}, (∀ y ∈ ys, ∃ t : Tr, y = .str t.str ∧ P t) → ∃ ts : List Tr, ys = trV ts ∧ ∀ t ∈ ts, P t
  | [], _ => ⟨[], rfl, fun _ h => (by cases h)⟩
  | y :: ys, h => by
    obtain ⟨t, e, p⟩ := h y (List.mem_cons_self ..)
    obtain ⟨ts, e2, p2⟩ := trV_of (ys := ys) fun z hz => h z (List.mem_cons_of_mem _ hz)
    refine ⟨t :: ts, by rw [e, e2]; rfl, fun u hu => ?_⟩
    rcases List.mem_cons.mp hu with r | r
    · rw [r]
      exact p
    · exact p2 u r
theorem trV_inj : ∀ {a b : List Tr}, trV a = trV b → a = b
  | [], [], _ => rfl
  | [], y :: b, h => by cases h
  | x :: a, [], h => by cases h
  | x :: a, y :: b, h => by
    obtain ⟨h1, h2⟩ := List.cons.inj h
    rw [Tr.str_inj (V.str.inj h1), trV_inj h2]
/-- the same as data -/
def trD (ts : List Tr) : PyData := .list (ts.map fun t => .str t.str)
theorem trD_all {K : PySem.W.Frag} {H : Hp} : ∀ ts : List Tr, DpAll K H (trV ts) (ts.map fun t => .str t.str)
  | [] => .nil
  | t :: r => .cons (.str _) (trD_all r)
theorem trD_dp {K : PySem.W.Frag} {H : Hp} {a : Addr} {ts : List Tr} (h : SqL K H a (trV ts)) : Dp K H (.ref a) (trD ts) := .lst h (trD_all ts)
theorem trD_lay : ∀ ts : List Tr, PyData.canLayAll0 (ts.map fun t => PyData.str t.str) = true
  | [] => rfl
  | t :: r => by
    show (PyData.strOk t.str && PyData.canLayAll0 (r.map fun t => PyData.str t.str)) = true
    rw [show PyData.strOk t.str = true from strOk_01 t.sg_01, trD_lay r]
    rfl
theorem trD_deep : ∀ ts : List Tr, PyData.depthAll (ts.map fun t => PyData.str t.str) = 0
  | [] => rfl
  | t :: r => by
    show max 0 (PyData.depthAll (r.map fun t => PyData.str t.str)) = 0
    rw [trD_deep r]
    rfl
theorem trD_shaped (ts : List Tr) : SeqAt.shaped (trD ts) = true := by
  show (PyData.canLayAll0 (ts.map fun t => PyData.str t.str) && decide (PyData.depthAll (ts.map fun t => PyData.str t.str) + 1 ≤ 64)) = true
  rw [trD_lay, trD_deep]
  rfl
theorem eqv_same {d : PyData} (h : SeqAt.shaped d = true) : PyData.eqv d d = true := by
  unfold SeqAt.shaped at h
  rw [Bool.and_eq_true] at h
  exact SeqAt.eqv_refl d h.1
/-! ### the texts of lists of trees -/
def lenV : V → V
  | .str x => .int x.length
  | _ => .non
def oneV : V → V
  | .str x => .str (stS (49 :: x.cps.toList))
  | _ => .non
theorem oneV_map (ts : List Tr) : (trV ts).map oneV = (ts.map fun t => stS (49 :: t.sg)).map V.str := by
  unfold trV
  rw [List.map_map, List.map_map]
  rfl
theorem one_sum (ts : List Tr) : ((ts.map fun t => stS (49 :: t.sg)).map fun x : Str => x.length).sum + 1 = (lstT ts).sg.length := by
  rw [lstT_len, List.map_map]
  induction ts with
  | nil => rfl
  | cons t r ih =>
    rw [List.map_cons, List.sum_cons, List.map_cons, List.sum_cons, List.length_cons]
    have e : ((fun x : Str => x.length) ∘ fun t : Tr => stS (49 :: t.sg)) t = t.sg.length + 1 := by
      show (stS (49 :: t.sg)).length = _
      rw [stS_len]
      rfl
    rw [e]
    omega
theorem join_lst (ts : List Tr) : Txt.join (Str.ofString "") (ts.map fun t => stS (49 :: t.sg)) ++ Str.ofString "0" = (lstT ts).str := by
  rw [join_none]
  have e7 : ((ts.map fun t => stS (49 :: t.sg)).map fun x : Str => x.cps.toList) = ts.map fun t => 49 :: t.sg := by
    rw [List.map_map]
    rfl
  show _ = stS (lstT ts).sg
  rw [e7, lstT_sg, s0, stS_app]
theorem join_len (ts : List Tr) : (Txt.join (Str.ofString "") (ts.map fun t => stS (49 :: t.sg))).length + 1 = (lstT ts).sg.length := by
  have h := congrArg Str.length (join_lst ts)
  rw [Str.length_append, Tr.str_len] at h
  exact h
theorem one_te {σ : L2.St} {j : Nat} {t : Tr} {H : Hp} {Q : VK} (h : σ[j]? = some (some (.str t.str))) (hl : t.sg.length ≤ 1000000) (q : Q (oneV (.str t.str)) H) :
    tOp (fun x y H Q => ∃ i j, x = V.str i ∧ y = V.str j ∧ i.length + j.length ≤ sizeLine ∧ Q (V.str (i ++ j)) H) (tC (.str "1")) (tVar j) σ H Q := by
  have h2 := t.str_len
  have hz : sizeLine = 16777216 := rfl
  refine ⟨_, h, _, _, rfl, rfl, (by show 1 + t.str.length ≤ _; omega), ?_⟩
  rw [s1]
  show Q (V.str (stS [49] ++ stS t.sg)) H
  rw [stS_app]
  exact q
/-! ### a comprehension over a range whose elements draw -/
theorem Strm.off {H1 H' : Hp} {st D : Addr} {o : HO} (s1 : Strm H1 st) (hD : H1 D = none) (e : ExS st H1 H') (s : Strm H' st) : Strm (upd H' D o) st := by
  have nD : D ≠ st := s1.ne hD
  obtain ⟨l1, ns1, c1, i1, m1, g1, g2, g3⟩ := s1
  obtain ⟨l, ns, c, i, m, h1, h2, h3⟩ := s
  obtain ⟨r', hr⟩ := e.hd l1 _ g1
  rw [h1] at hr
  have hl : l = l1 := V.ref.inj (List.cons.inj (HO.lst.inj (Option.some.inj hr))).1
  have hlD : l ≠ D := by
    rw [hl]
    exact ne_of_none g2 hD
  exact ⟨l, ns, c, i, m, by rw [upd_ne nD.symm]; exact h1, by rw [upd_ne hlD]; exact h2, h3⟩
theorem ExS.off {H1 H' : Hp} {st D : Addr} {o : HO} (nD : D ≠ st) (hD : H1 D = none) (e : ExS st H1 H') : ExS st H1 (upd H' D o) := by
  refine ⟨fun b x nb q => ?_, fun l r h => ?_⟩
  · rw [upd_ne (ne_of_none q hD)]
    exact e b x nb q
  · rw [upd_ne nD.symm]
    exact e.hd l r h
theorem lc_draw {n : Nat} {te : TE} {vs : List Nat} {j : Nat} {σ : L2.St} {H1 : Hp} {D : Addr} {Qd : Hp → Prop} {st : Addr} (P : V → Prop) (hD : H1 D = none) (s1 : Strm H1 st) (hn : n < sizeLine)
    (hw : ∀ x, wipe ((wipe σ vs).set j (some x)) vs = wipe σ vs)
    (he : ∀ (i : Nat) H', i < n → ExS st H1 H' → Strm H' st → ∀ Q : VK, (∀ y H2, P y → ExS st H' H2 → Strm H2 st → Q y H2) → te ((wipe σ vs).set j (some (.int i))) H' Q)
    (hd : ∀ ys H', ys.length = n → (∀ y ∈ ys, P y) → ExS st H1 H' → Strm H' st → H' D = some (.lst ys) → Qd H') :
    ∃ W : Nat → Nat → Hp → Prop, (∃ m, W 0 m (upd H1 D (.lst []))) ∧ ∀ i m H, W i m H →
      ((Itr 0 n).stop i H ∧ Qd H) ∨ ((Itr 0 n).go i H ∧ ∃ Nx : Hp → Prop, (∀ H', Nx H' → ∃ m', m' < m ∧ W (i + 1) m' H') ∧ ∀ x H', (Itr 0 n).yld i H x H' → (gName j) x (wipe σ vs) H' fun σ2 H2 => wipe σ2 vs = wipe σ vs ∧ tYes σ2 H2 fun b H3 =>
        if b = true then te σ2 H3 fun y H4 => ∃ acc, H4 D = some (.lst acc) ∧ acc.length < sizeLine ∧ Nx (upd H4 D (.lst (acc ++ [y]))) else Nx H3) := by
  have nD : D ≠ st := s1.ne hD
  refine lc_range (lo := 0) (n := n) (fun i H' => ∃ ys : List V, ys.length = i ∧ (∀ y ∈ ys, P y) ∧ ExS st H1 H' ∧ Strm H' st ∧ H' D = some (.lst ys)) ⟨[], rfl, fun _ h => (by cases h), .off nD hD .refl, s1.off hD .refl s1, upd_same⟩ (fun i H' hi p => ?_) (fun H' p => ?_)
  · obtain ⟨ys, e1, e2, e3, e4, e5⟩ := p
    refine ⟨hw _, ?_⟩
    simp only [tYes, ↓reduceIte]
    have e0 : (0 : Int) + (i : Int) = (i : Int) := Int.zero_add _
    show te ((wipe σ vs).set j (some (.int ((0 : Int) + (i : Int))))) H' _
    rw [e0]
    refine he i H' hi e3 e4 _ fun y H2 hy ex st2 => ⟨ys, ex _ _ nD e5, by omega, ys ++ [y], by rw [List.length_append, e1]; rfl, fun z hz => ?_, .off nD hD (e3.trans ex), s1.off hD (e3.trans ex) st2, upd_same⟩
    rcases List.mem_append.mp hz with q | q
    · exact e2 z q
    · rw [List.mem_singleton.mp q]
      exact hy
  · obtain ⟨ys, e1, e2, e3, e4, e5⟩ := p
    exact hd ys H' e1 e2 e3 e4 e5
end Nx

/-! zip of a text and a tuple. -/
namespace Nx
open PySem PySem.Spec PyProof.Rows L2
/-- the signs of x beside the tuple at b, in new pairs -/
def ItzS (K : PySem.W.Frag) (x : Str) (b : Addr) : It :=
  ⟨fun i H => ∃ (ys : List V) (c : Nat) (y : V), SqT K H b ys ∧ x.cps[i]? = some c ∧ ys[i]? = some y,
    fun i H v H' => ∃ T c y, v = .ref T ∧ H T = none ∧ H' = upd H T (.tup [.str ⟨#[c]⟩, y]) ∧ x.cps[i]? = some c ∧ ∀ ys, SqT K H b ys → ys[i]? = some y,
    fun i H => ∃ ys : List V, SqT K H b ys ∧ i ≤ x.cps.size ∧ i ≤ ys.length ∧ (i = x.cps.size ∨ i = ys.length)⟩
theorem turn_zipS {P : Program} {w : World} {K : PySem.W.Frag} {elts : List Expr} {kk : Nat} {tpos : Pos} {x : Str} {t : Tok} {b z TI TO i1 i2 : Addr} (S : ZipSep2 z TI TO i1 i2 [i1] [i2, b]) (hb2 : b ≠ i2) :
    Turn P w K (.Tuple elts kk tpos) (ItzS K x b) [z, TI, TO, i1, i2] z (fun i h => IsZip h z TI TO .none ∧ IsTupOf2 h TI (.ref i1) (.ref i2) ∧ (∃ x y, IsTupOf2 h TO x y) ∧ h.IsStrIter i1 (strIterType x) x t i ∧ h.IsTupleIter i2 b i) where
  mem := by simp
  obj := fun i h st c hc => by
    obtain ⟨hz, hTI, ⟨x, y, hTO⟩, ⟨o1, e1, _, d1⟩, ⟨o2, e2, _, d2⟩⟩ := st
    have e' : c = z ∨ c = TI ∨ c = TO ∨ c = i1 ∨ c = i2 := by simpa using hc
    rcases e' with q | q | q | q | q
    · rw [q]; exact ⟨_, hz, fun v q => nomatch q⟩
    · rw [q]; exact ⟨_, hTI, fun v q => nomatch q⟩
    · rw [q]; exact ⟨_, hTO, fun v q => nomatch q⟩
    · rw [q]; exact ⟨o1, e1, fun v q => by rw [d1] at q; cases q⟩
    · rw [q]; exact ⟨o2, e2, fun v q => by rw [d2] at q; cases q⟩
  keep := fun i h h' st k => by
    obtain ⟨hz, hTI, ⟨x, y, hTO⟩, ⟨o1, e1, r1⟩, h2⟩ := st
    exact ⟨k z (by simp) _ hz, k TI (by simp) _ hTI, ⟨x, y, k TO (by simp) _ hTO⟩, ⟨o1, k i1 (by simp) o1 e1, r1⟩, h2.at fun o q => k i2 (by simp) o q⟩
  item := by
    intro X hP hw hK hc i pins s σ H E I hf st hg
    subst hP hw hK
    obtain ⟨hz, hTI, ⟨x0, y0, hTO⟩, h1, h2⟩ := st
    obtain ⟨ys, c, y, hqy, hx, hy⟩ := hg
    obtain ⟨its2, rv2, p2, _⟩ := I.tuple hqy
    obtain ⟨u2, hu2, ru2⟩ := rv2.get hy
    have hzl : z < s.heap.objs.size := Heap.lt_size hz
    have hh : X.A.in1.handled = none := I.ok.hd hc
    have hi1 : i < x.cps.size := by
      rcases Nat.lt_or_ge i x.cps.size with q | q
      · exact q
      · rw [Array.getElem?_eq_none q] at hx
        cases hx
    have hi2 : i < its2.toArray.size := by
      have := (List.getElem?_eq_some_iff.mp hu2).1
      simpa using this
    refine wpAny_pyNext_zipD2_item S (Draws.text hh i1 x t) (Draws.tuple hh i2 b hb2 its2.toArray) hz hTI hTO h1 ⟨h2, p2⟩ hi1 hi2 fun v1 v2 h' tk q1 q2 z' TO' h1' h2' hT hsz hk => ?_
    obtain ⟨c', t', hc', e1⟩ := q1
    have ec : c' = c := Option.some.inj (hc'.symm.trans hx)
    subst ec e1
    have e2 : v2 = u2 := by
      have z1 : its2.toArray[i]? = some v2 := q2
      have z2 : its2.toArray[i]? = some u2 := by simpa using hu2
      exact Option.some.inj (z1.symm.trans z2)
    subst e2
    refine ⟨_, rfl, wpAny_letOwnedTupleGo_zip (s := { s with heap := h', toks := tk }) z' fun h'' z'' sb => ?_⟩
    have hT2 : h''.get? s.heap.objs.size = some { cls := .type "tuple", data := .seq #[.str ⟨#[c']⟩ t', v2] } := (sb.2 _ (Nat.ne_of_gt hzl)).trans hT
    have new : ObjOk X.prog X.w (upd H s.heap.objs.size (.tup [.str ⟨#[c']⟩, y])) h'' s.heap.objs.size (.tup [.str ⟨#[c']⟩, y]) :=
      ⟨by show 2 ≤ sizeLine; decide, [.str ⟨#[c']⟩ t', v2], .cons ⟨_, rfl⟩ (.cons ru2 .nil), ⟨_, hT2, rfl, _, rfl⟩⟩
    have I1 : Inv X pins σ (upd H s.heap.objs.size (.tup [.str ⟨#[c']⟩, y])) { s with heap := h'', toks := tk } :=
      I.turnedNew (t' := tk) (ch := [z, TI, TO, i1, i2]) (fun c o hb q => (sb.2 c (fun q' => hb (by simp [q']))).trans (hk c o (fun q' => hb (by simp [q'])) (fun q' => hb (by simp [q'])) (fun q' => hb (by simp [q'])) (fun q' => hb (by simp [q'])) q)) hf (Nat.le_refl _) new
    refine ⟨.ref s.heap.objs.size, _, I1, rfl, ⟨_, c', y, rfl, I.hok.fresh (Nat.le_refl _), rfl, hx, fun l hl => by rw [I.tuple_inj hl hqy]; exact hy⟩, ⟨z'', ?_, ⟨.str ⟨#[c']⟩ t', v2, ?_⟩, ?_, ?_⟩, fun c hcm => ?_⟩
    · exact (sb.2 _ S.TIz).trans (hk _ _ S.TIz S.TITO S.TIi1 S.TIi2 hTI)
    · exact (sb.2 _ S.TOz).trans TO'
    · obtain ⟨o1, g1, r1⟩ := h1'
      exact ⟨o1, (sb.2 _ S.zi1.symm).trans g1, r1⟩
    · exact h2'.1.at fun o q => (sb.2 _ S.zi2.symm).trans q
    · have hlt : c < s.heap.objs.size := by
        have e' : c = z ∨ c = TI ∨ c = TO ∨ c = i1 ∨ c = i2 := by simpa using hcm
        rcases e' with q | q | q | q | q
        · rw [q]; exact hzl
        · rw [q]; exact Heap.lt_size hTI
        · rw [q]; exact Heap.lt_size hTO
        · rw [q]; obtain ⟨_, e1, _⟩ := h1; exact Heap.lt_size e1
        · rw [q]; obtain ⟨_, e2, _⟩ := h2; exact Heap.lt_size e2
      rw [upd_ne (Nat.ne_of_lt hlt)]
      exact (hf c hcm).1
  done := by
    intro X hP hw hK hc i pins s σ H E I hf st hg
    subst hP hw hK
    obtain ⟨hz, hTI, ⟨x0, y0, hTO⟩, h1, h2⟩ := st
    obtain ⟨ys, hqy, le1, le2, hend⟩ := hg
    obtain ⟨its2, rv2, p2, _⟩ := I.tuple hqy
    have l2 := rv2.length
    have hs2 : its2.toArray.size = ys.length := by simp [l2]
    have hh : X.A.in1.handled = none := I.ok.hd hc
    refine wpAny_pyNext_zipD2_end S (Draws.text hh i1 x t) (Draws.tuple hh i2 b hb2 its2.toArray) hz hTI hTO h1 ⟨h2, p2⟩ le1 (by omega) (by omega) fun h' tk hk => ⟨rfl, I.turnedL (t' := tk) (ch := [z, TI, TO, i1, i2]) (fun c o hb q =>
      hk c o (fun q' => hb (by simp [q'])) (fun q' => hb (by simp [q'])) (fun q' => hb (by simp [q'])) (fun q' => hb (by simp [q'])) q) hf⟩
  self := fun A i s Q E st h => wpAny_pyIter_zip st.1 h
def iZipS (K : PySem.W.Frag) (ta : TA) : TI := fun σ H R => ta σ H fun vs H1 => ∃ x b ys, vs = [.str x, .ref b] ∧ SqT K H1 b ys ∧ R (ItzS K x b) H1
theorem pi_zipS {X : Cx} {e e2 : Expr} {ta : TA} {p pos tpos : Pos} {elts : List Expr} {kk : Nat} (hg : Gl X "zip") (hm : X.mg "zip" = none) (ha : PA X [e, e2] ta)
    (hs : starEach [e, e2] X.env = (false, eval e X.env) :: starEach [e2] X.env := by rfl) (hpl : (backTo pos (starEach [e2] X.env)).any (·.1) = false := by rfl) :
    PI X (.Tuple elts kk tpos) (.Call (.Name "zip" p) [e, e2] [] pos) (iZipS X.K ta) := by
  refine ⟨fun pins s σ H R I h => ?_⟩
  refine Call_ (ld_blt I hg hm PyProof.Rows.boot_zip (PyProof.Rows.callWith_type1 (thn (ha.run pos pins s σ H _ I h) fun us s1 ⟨vs, H1, I1, r1, q1⟩ => ?_) hs hpl))
  obtain ⟨x, b, ys, ex, hqy, q⟩ := q1
  subst ex
  cases r1 with
  | cons r rr =>
    cases rr with
    | cons r' rr =>
      cases rr
      obtain ⟨t, rfl⟩ := r
      cases r'
      have fresh5 : ∀ c, c ∈ [s1.heap.objs.size + 4, s1.heap.objs.size + 2, s1.heap.objs.size + 3, s1.heap.objs.size, s1.heap.objs.size + 1] → FpOk X pins H1 c := fun c hcm => by
        have e' : c = s1.heap.objs.size + 4 ∨ c = s1.heap.objs.size + 2 ∨ c = s1.heap.objs.size + 3 ∨ c = s1.heap.objs.size ∨ c = s1.heap.objs.size + 1 := by simpa using hcm
        have hle : s1.heap.objs.size ≤ c := by
          rcases e' with z | z | z | z | z
          · rw [z]; exact Nat.le_add_right _ _
          · rw [z]; exact Nat.le_add_right _ _
          · rw [z]; exact Nat.le_add_right _ _
          · rw [z]; exact Nat.le_refl _
          · rw [z]; exact Nat.le_add_right _ _
        exact I1.fpOk hle (I1.hok.fresh hle)
      obtain ⟨its2, rv2, p2, _⟩ := I1.tuple hqy
      obtain ⟨o2, ho2, _⟩ := id p2
      have hb : b < s1.heap.objs.size := Heap.lt_size ho2
      refine zip_begins2 (begins_text x t) (begins_tuple b its2.toArray) True.intro p2 fun h' hz hTI hTO g1 g2 hsz hk => wpAny_pyIter_zip hz ?_
      have I2 : Inv X pins σ H1 { s1 with heap := h' } := I1.kept (t' := s1.toks) hk
      have S : ZipSep2 (s1.heap.objs.size + 4) (s1.heap.objs.size + 2) (s1.heap.objs.size + 3) s1.heap.objs.size (s1.heap.objs.size + 1) [s1.heap.objs.size] [s1.heap.objs.size + 1, b] :=
        zip_sep2 (fun _ z => (by cases z)) (fun c z => by rw [List.mem_singleton.mp z]; exact hb)
      exact ⟨s1.heap.objs.size + 4, [s1.heap.objs.size + 4, s1.heap.objs.size + 2, s1.heap.objs.size + 3, s1.heap.objs.size, s1.heap.objs.size + 1], _, _, H1, rfl, I2,
        turn_zipS (t := t) S (show b ≠ s1.heap.objs.size + 1 from Nat.ne_of_lt (Nat.lt_succ_of_lt hb)), ⟨hz, hTI, ⟨_, _, hTO⟩, ⟨_, g1, rfl, rfl⟩, ⟨_, g2, rfl, rfl⟩⟩, fresh5, q⟩
/-- a loop over zip of a text and a tuple of the same length -/
theorem for_zipS {K : PySem.W.Frag} {x : Str} {b : Addr} {ys : List V} {g : TG} {tb : TS} {D : Ends} {σ : L2.St} {H : Hp} (hl : x.cps.toList.length = ys.length) (Pv : Nat → L2.St → Hp → Prop) (h0 : Pv 0 σ H) (hq : ∀ i σ H, Pv i σ H → SqT K H b ys)
    (hs : ∀ i c y T σ H, x.cps.toList[i]? = some c → ys[i]? = some y → Pv i σ H → H T = none → g (.ref T) σ (upd H T (.tup [.str ⟨#[c]⟩, y])) fun σ2 H2 => tb { D with nx := Pv (i + 1), ct := Pv (i + 1), bk := D.nx } σ2 H2) (hd : ∀ σ H, Pv ys.length σ H → D.nx σ H) :
    ∃ W : Nat → Nat → L2.St → Hp → Prop, (∃ m, W 0 m σ H) ∧ ∀ i m σ H, W i m σ H →
      ((ItzS K x b).stop i H ∧ D.nx σ H) ∨ ((ItzS K x b).go i H ∧ ∃ N : L2.St → Hp → Prop, (∀ σ' H', N σ' H' → ∃ m', m' < m ∧ W (i + 1) m' σ' H') ∧ ∀ v H', (ItzS K x b).yld i H v H' → g v σ H' fun σ2 H2 => tb { D with nx := N, ct := N, bk := D.nx } σ2 H2) := by
  have hz : x.cps.toList.length = x.cps.size := Array.length_toList
  refine ⟨fun i m σ H => m = ys.length - i ∧ i ≤ ys.length ∧ Pv i σ H, ⟨_, rfl, Nat.zero_le _, h0⟩, ?_⟩
  rintro i m σ H ⟨rfl, hi, p⟩
  have q := hq i σ H p
  by_cases hlt : i < ys.length
  · have hc : x.cps[i]? = some (x.cps.toList[i]'(by omega)) := by
      rw [← Array.getElem?_toList]
      exact List.getElem?_eq_getElem _
    refine .inr ⟨⟨ys, _, ys[i], q, hc, List.getElem?_eq_getElem hlt⟩, Pv (i + 1), fun σ' H' p' => ⟨ys.length - (i + 1), by omega, rfl, hlt, p'⟩, fun v H' y => ?_⟩
    obtain ⟨T, c, y, rfl, hT, rfl, h1, h2⟩ := y
    refine hs i c y T σ H ?_ (h2 ys q) p hT
    rw [Array.getElem?_toList]
    exact h1
  · have e : i = ys.length := by omega
    subst e
    exact .inl ⟨⟨ys, q, by omega, Nat.le_refl _, .inr rfl⟩, hd σ H p⟩
/-- the same in a comprehension -/
theorem lc_zipS {K : PySem.W.Frag} {x : Str} {b : Addr} {ys : List V} {g : TG} {tt : TT} {te : TE} {vs : List Nat} {σ : L2.St} {H1 : Hp} {D : Addr} {Qd : Hp → Prop} (hl : x.cps.toList.length = ys.length) (Pv : Nat → Hp → Prop) (h0 : Pv 0 (upd H1 D (.lst []))) (hq : ∀ i H, Pv i H → SqT K H b ys)
    (hs : ∀ i c y T H, x.cps.toList[i]? = some c → ys[i]? = some y → Pv i H → H T = none → g (.ref T) (wipe σ vs) (upd H T (.tup [.str ⟨#[c]⟩, y])) fun σ2 H2 => wipe σ2 vs = wipe σ vs ∧ tt σ2 H2 fun b H3 =>
      if b = true then te σ2 H3 fun y H4 => ∃ acc, H4 D = some (.lst acc) ∧ acc.length < sizeLine ∧ Pv (i + 1) (upd H4 D (.lst (acc ++ [y]))) else Pv (i + 1) H3) (hd : ∀ H, Pv ys.length H → Qd H) :
    ∃ W : Nat → Nat → Hp → Prop, (∃ m, W 0 m (upd H1 D (.lst []))) ∧ ∀ i m H, W i m H →
      ((ItzS K x b).stop i H ∧ Qd H) ∨ ((ItzS K x b).go i H ∧ ∃ Nx : Hp → Prop, (∀ H', Nx H' → ∃ m', m' < m ∧ W (i + 1) m' H') ∧ ∀ v H', (ItzS K x b).yld i H v H' → g v (wipe σ vs) H' fun σ2 H2 => wipe σ2 vs = wipe σ vs ∧ tt σ2 H2 fun b H3 =>
        if b = true then te σ2 H3 fun y H4 => ∃ acc, H4 D = some (.lst acc) ∧ acc.length < sizeLine ∧ Nx (upd H4 D (.lst (acc ++ [y]))) else Nx H3) := by
  have hz : x.cps.toList.length = x.cps.size := Array.length_toList
  refine ⟨fun i m H => m = ys.length - i ∧ i ≤ ys.length ∧ Pv i H, ⟨_, rfl, Nat.zero_le _, h0⟩, ?_⟩
  rintro i m H ⟨rfl, hi, p⟩
  have q := hq i H p
  by_cases hlt : i < ys.length
  · have hc : x.cps[i]? = some (x.cps.toList[i]'(by omega)) := by
      rw [← Array.getElem?_toList]
      exact List.getElem?_eq_getElem _
    refine .inr ⟨⟨ys, _, ys[i], q, hc, List.getElem?_eq_getElem hlt⟩, Pv (i + 1), fun H' p' => ⟨ys.length - (i + 1), by omega, rfl, hlt, p'⟩, fun v H' y => ?_⟩
    obtain ⟨T, c, y, rfl, hT, rfl, h1, h2⟩ := y
    refine hs i c y T H ?_ (h2 ys q) p hT
    rw [Array.getElem?_toList]
    exact h1
  · have e : i = ys.length := by omega
    subst e
    exact .inl ⟨⟨ys, q, by omega, Nat.le_refl _, .inr rfl⟩, hd H p⟩
end Nx

/-! A comprehension whose element may raise. -/
namespace Nx
open PySem PySem.Spec PyProof.Rows L2
/-- a frame is noted by its own address alone -/
theorem note_eq {e1 e2 : Env} (h : e1.frame = e2.frame) (v : Value) : noteFrame v e1 = noteFrame v e2 := by
  unfold noteFrame PySem.frameOf
  rw [h]
theorem frames_but {h1 h2 B B1 : Heap} {C : Addr} (k : ∀ b, b ≠ C → h2.get? b = h1.get? b) (hC : B.get? C ≠ none) (hB : ∀ b, B.get? b = none → B1.get? b = none) :
    ∀ {l : List Env}, h1.FunFrames B l → h2.FunFrames B1 l
  | [], _ => trivial
  | v :: l, x => by
    obtain ⟨x1, ⟨L, ob, x2, x3, x4, x5⟩, x6⟩ := x
    have nL : L ≠ C := fun z => hC (z ▸ x3)
    exact ⟨x1, ⟨L, ob, x2, hB L x3, (k L nL).trans x4, x5⟩, frames_but k hC hB x6⟩
theorem inv_xe {X : Cx} {pins : List (Addr × Obj)} {σ : L2.St} {H : Hp} {s : Shared} (xe : Value → Shared → Prop) (I : Inv X pins σ H s) : Inv { X with xe := xe } pins σ H s := by
  obtain ⟨⟨a1, a2, a3, a4, a5, a6, a7, a8, a9, a10, a11, a12, a13, a14, a15, a16, a17, a18⟩, b1, b2, b3, b4, b5, b6, b7, b8, b9, b10⟩ := I
  exact ⟨⟨a1, a2, a3, a4, a5, a6, a7, a8, a9, a10, a11, a12, a13, a14, a15, a16, a17, a18⟩, b1, b2, b3, b4, b5, b6, b7, b8, b9, b10⟩
theorem blk_raise {X : Cx} {E : XK} {pins pins0 : List (Addr × Obj)} {σ σ0 : L2.St} {H H3 : Hp} {s s3 s' : Shared} {sc : Scope} {fp : List Addr} {ce : Env} {C : Addr} {xe : Value → Shared → Prop} {u : Value} {E2 : Value → Shared → Prop}
    (hst : X.stack = X.env :: X.outer) (hf : X.env.frame = some X.env.locals) (tk : Takes X fun c d _ H => E c d H) (I3 : Inv X pins0 σ0 H3 s3) (hfp : ∀ b ∈ fp, FpOk X pins0 H3 b) (hC : s3.heap.objs.size ≤ C)
    (hce : ce.frame = X.env.frame) (hcl : ce.locals = C) (Ib : Inv { X.blk s3 H3 sc ce fp with xe := xe } pins σ H s) (c : L2.CX X.prog X.w X.stack H s E u s') :
    wpAny (model X.prog X.w) X.A (noteFrame u ce) (fun _ s2 => ∃ m, s2.heap.Ns C m ∧ ∀ h2, Heap.SameBut C s2.heap h2 → ∀ v : Env, v.frame = X.env.frame →
      wpAny (model X.prog X.w) X.A (passOn "comprehension.variables-let-go" u v : Sem Value) (fun _ _ => False) X.xe { s2 with heap := h2 }) E2 s' := by
  obtain ⟨a, B, H', cls, d, rfl, fl, hok, ub, na, os, ag, hE⟩ := c
  have hfr : X.A.frames = some (X.env :: X.outer) := by rw [I3.ok.frames, hst]
  rw [hst] at fl
  rw [note_eq hce]
  refine HandSPX.looks_onZ Zc.steady hfr hf fl fun h1 hh up1 => ?_
  have hbC : H C = none := hcl ▸ Ib.free
  have hCf : C ∉ frs X.stack := fun z => by
    rcases List.mem_cons.mp (I3.stkSub C z) with z | z
    · rw [z] at hC
      exact absurd (Nat.lt_of_lt_of_le I3.lt hC) (Nat.lt_irrefl _)
    · exact I3.nofs hC z
  obtain ⟨m, ⟨ob, es, ep, ho, hd, hr⟩, _⟩ := Ib.loc
  have ho : s.heap.get? C = some ob := hcl ▸ ho
  have hB : B.get? C = some ob := ub.keep C ob ho hbC hCf
  refine ⟨m, ⟨ob, es, ep, hh.1 C ob hB, hd, hr⟩, fun h2 sb2 v hv => ?_⟩
  have b1 : ∀ b o, (PySem.W.hideAll B [C]).get? b = some o → B.get? b = some o ∧ b ≠ C := fun b o q => ⟨PySem.W.of_hideAll _ q, fun z => by
    rw [z, PySem.W.hideAll_none [C] (List.mem_singleton.mpr rfl)] at q
    cases q⟩
  have b2 : ∀ b o, B.get? b = some o → b ≠ C → (PySem.W.hideAll B [C]).get? b = some o := fun b o q n => PySem.W.hideAll_get _ q (fun z => n (List.mem_singleton.mp z))
  have b3 : ∀ b, B.get? b = none → (PySem.W.hideAll B [C]).get? b = none := fun b q => by
    cases r : (PySem.W.hideAll B [C]).get? b with
    | none => rfl
    | some o =>
      rw [(b1 b o r).1] at q
      cases q
  generalize PySem.W.hideAll B [C] = B1 at b1 b2 b3
  obtain ⟨k1, k2, k3, oe, vs, T, oT, ts, he, hz, hdv, hv1, hnT, hTe, hT, hdT, hfl⟩ := hh
  have nC : ∀ b, B.get? b = none → b ≠ C := fun b q z => by
    rw [z, hB] at q
    cases q
  have he2 : h2.get? a = some oe := (sb2.2 a (nC a k2)).trans he
  have hh2 : HandSPX.HeldZ B1 (X.env :: X.outer) a (Zc cls d) X.env.locals h2 :=
    ⟨fun b o q => (sb2.2 b (b1 b o q).2).trans (k1 b o (b1 b o q).1), b3 a k2, frames_but (fun b n => sb2.2 b n) (by rw [hB]; exact fun z => by cases z) b3 k3, oe, vs, T, oT, ts, he2, hz, hdv, hv1, b3 T hnT, hTe, (sb2.2 T (nC T hnT)).trans hT, hdT, hfl⟩
  unfold PySem.passOn
  refine wpAny_bind (wpAny_field he2 hdv hv1 ?_)
  rw [if_neg (show ¬ ((Value.ref T == Value.none) = true) by simp)]
  rw [hv, hf]
  refine wpAny_bind (HandSPX.setFlight_onZ hh2 fun h3 hh3 up3 => ?_)
  refine wpAny_throw (tk _ _ ?_)
  -- what stands without the block's names
  have hid : ∀ b o, (PySem.W.hideAll s.heap [C]).get? b = some o → s.heap.get? b = some o ∧ b ≠ C := fun b o q => ⟨PySem.W.of_hideAll _ q, fun z => by
    rw [z, PySem.W.hideAll_none [C] (List.mem_singleton.mpr rfl)] at q
    cases q⟩
  have hid2 : ∀ b o, s.heap.get? b = some o → b ≠ C → (PySem.W.hideAll s.heap [C]).get? b = some o := fun b o q n => PySem.W.hideAll_get _ q (fun z => n (List.mem_singleton.mp z))
  have old : ∀ b o, s3.heap.get? b = some o → b ≠ C := fun b o q z => by
    rw [z] at q
    exact absurd (Nat.lt_of_lt_of_le (Heap.lt_size q) hC) (Nat.lt_irrefl _)
  have bu : Un (frs X.stack) fp H3 H s3.heap s.heap := Ib.base
  have Ix : Inv X pins0 σ0 H { s with heap := PySem.W.hideAll s.heap [C] } := by
    refine I3.call' (ch := fp) Ib.os ⟨fun b o e n f x => hid2 b o (bu.keep b o e n f x) (old b o e), fun b o e n f x => ?_, bu.free, fun b o e x => ?_, bu.tups, bu.frzs, bu.tbls⟩ (fun b o q => ?_) Ib.bare fun b hb => ⟨(hfp b hb).2.2.2.1, (hfp b hb).2.1, (hfp b hb).2.2.2.2.1, (hfp b hb).2.2.2.2.2⟩
    · obtain ⟨sl, q⟩ := bu.slot b o e n f x
      exact ⟨sl, hid2 b _ q (old b o e)⟩
    · obtain ⟨o', q⟩ := bu.there b o e x
      exact ⟨o', hid2 b _ q (old b o e)⟩
    · refine (Ib.hok b o q).stay (fun c u hc r => hid2 c u r fun z => ?_) (fun _ r => r) fun _ _ r => r
      rcases hc with hc | hc
      · rw [← hc, z, hbC] at q
        cases q
      · rw [z, hbC] at hc
        cases hc
  obtain ⟨G, g1, g2⟩ := restrict h3 fun b => (B1.get? b).isSome || decide (b ∈ frs X.stack)
  have gB : ∀ b o, B1.get? b = some o → G.get? b = some o := fun b o e => by
    rw [g1 b (by simp [e])]
    exact hh3.1 b o e
  have gF : ∀ b, b ∈ frs X.stack → G.get? b = h3.get? b := fun b hb => g1 b (by simp [hb])
  have og : ∀ b o, G.get? b = some o → h3.get? b = some o ∧ ((B1.get? b).isSome = true ∨ b ∈ frs X.stack) := fun b o e => by
    cases q : ((B1.get? b).isSome || decide (b ∈ frs X.stack)) with
    | false =>
      rw [g2 b q] at e
      cases e
    | true =>
      rw [g1 b q] at e
      exact ⟨e, by simpa [Bool.or_eq_true] using q⟩
  have hC' : H' C = none := ub.free C ob ho hbC
  have fs : ∀ b o, s.heap.get? b = some o → b ≠ C → b ∈ frs X.stack → ∃ sl, G.get? b = some { o with slots := sl } := fun b o e n hb => by
    obtain ⟨sl, q⟩ := ub.slot b o e hb
    have nf : ∀ vs, o.data ≠ .fields vs := by
      obtain ⟨_, o2, q2, z⟩ := Ix.stack.mem hb
      have q2 := (hid b o2 q2).1
      rw [e] at q2
      cases q2
      exact z
    obtain ⟨sl1, q1⟩ := up1 b _ q nf
    obtain ⟨sl3, q3⟩ := up3 b _ ((sb2.2 b n).trans q1) nf
    exact ⟨sl3, by rw [gF b hb]; exact q3⟩
  refine ⟨a, B1, { s with heap := G, gens := s'.gens, drawn := s'.drawn, toks := s'.toks }, pins0, σ0, H', cls, d, rfl, ?_, fun b o e hb => ?_, Heap.UpToSlots.of_keeps fun b o e => (og b o e).1, .inr (.inr (by rw [hst]; exact hh3)), na, os, ag, hE⟩
  · refine L2.Inv.call (s := { s with heap := PySem.W.hideAll s.heap [C] }) (ch := []) Ix ⟨fun b o e n hb _ => gB b o (b2 b o (ub.keep b o (hid b o e).1 n hb) (hid b o e).2), fun b o e n hb _ => fs b o (hid b o e).1 (hid b o e).2 hb, fun b o e n _ => ub.free b o (hid b o e).1 n, fun b o e _ => ?_, ub.tups, ub.frzs, ub.tbls⟩ (fun b o q => ?_) ag (fun _ z => nomatch z)
    · by_cases hb : b ∈ frs X.stack
      · obtain ⟨sl, q⟩ := fs b o (hid b o e).1 (hid b o e).2 hb
        exact ⟨_, q⟩
      · obtain ⟨o', q⟩ := ub.there b o (hid b o e).1 hb
        exact ⟨o', gB b o' (b2 b o' q (hid b o e).2)⟩
    · refine (hok b o q).stay (fun c u hc r => gB c u (b2 c u r fun z => ?_)) (fun _ r => r) fun _ _ r => r
      rcases hc with hc | hc
      · rw [← hc, z, hC'] at q
        cases q
      · rw [z, hC'] at hc
        cases hc
  · obtain ⟨e', h⟩ := og b o e
    rcases h with h | h
    · obtain ⟨o', q⟩ := Option.isSome_iff_exists.mp h
      have z := hh3.1 b o' q
      rw [e'] at z
      cases z
      exact q
    · exact absurd h hb
/-- what stands behind a block: its end, or what it let out -/
def postE (M : Model) (A : Around) (E : Value → Shared → Prop) (use : Option (Value → Sem Unit)) (Q : Value → Shared → Prop) (acc : Value) (ce : Env) (r : Result) (s' : Shared) : Prop :=
  match r with
  | .ok f => compPost M A E use Q acc ce.locals (.ok f) s'
  | .error x => ∃ m, s'.heap.Ns ce.locals m ∧ ∀ h2, Heap.SameBut ce.locals s'.heap h2 → ∀ v : Env, v.frame = ce.frame →
      wpAny M A (passOn "comprehension.variables-let-go" x v : Sem Value) (fun _ _ => False) E { s' with heap := h2 }
theorem comp_freeE {M : Model} {A : Around} {E : Value → Shared → Prop} {s : Shared} {env : Env} {e : Expr} {scope : Scope} {pos : Pos} {newAcc first : Sem Value} {g : Comprehension} {gs : List Comprehension} {cl : List (Str × Addr)}
    {use : Option (Value → Sem Unit)} {Q : Value → Shared → Prop} (c1 : clausesOf e = g :: gs) (c2 : ∀ x, foldedSetIterable g.iter env x = pure x) (c3 : closureFor scope env = pure cl) (c4 : scope.kind = .function)
    (c5 : ∀ x ∈ scope.names, x.2 = .local → scope.names.lookup x.1 = some .local)
    (h : wpAny M A first (fun x t1 => wpAny M A (pyIter x) (fun it t2 => wpAny M A newAcc (fun acc t3 => wpAny M A (newFunctionEnv scope env.globals cl [] env.qual none .none (some env)) (fun ce t4 =>
      codeAny M A (.compStart e 0 it acc { ce with scope := relabel scope env }) (postE M A E use Q acc ce) t4) E t3) E t2) E t1) E s) :
    wpAny M A (comprehension e scope env pos newAcc false first use) Q E s := by
  have keep : ∀ (v : Value) (t : Shared), E v t → E v t := fun _ _ y => y
  unfold comprehension
  rw [c3, c1]
  apply wpAny_bind
  refine wpAny_mono h (fun x t1 h1 => ?_) keep
  apply wpAny_bind
  apply wpAny_standAt
  apply wpAny_bind
  refine wpAny_of_eq (c2 x) ?_
  apply wpAny_bind
  apply wpAny_holding
  refine wpAny_mono h1 (fun it t2 h2 => ?_) keep
  apply wpAny_standIf
  apply wpAny_bind
  refine wpAny_mono h2 (fun acc t3 h3 => ?_) keep
  apply wpAny_bind
  apply wpAny_pure
  apply wpAny_bind
  refine wpAny_mono h3 (fun ce t4 h4 => ?_) keep
  dsimp only
  have own : ∀ x ∈ (scope.names.filter fun x => (x.2 == .local || x.2 == .cell) && x.1 != (".0" : Str)).reverse, x.2 = .local →
      Env.kindOf { ce with scope := relabel scope env } x.1 = some .local := fun x hx hl => by
    have hm := (List.mem_filter.mp (List.mem_reverse.mp hx)).1
    exact lookup_relabel_local (c5 x hm hl)
  apply wpAny_holding
  apply wpAny_bind
  apply wpAny_attempt
  apply wpAny_holding
  refine wpAny_run (codeAny_mono h4 fun r t hr => ?_)
  cases r with
  | ok f =>
    have hr : compPost M A E use Q acc ce.locals (.ok f) t := hr
    cases use with
    | none =>
      obtain ⟨m, hn, hq⟩ := hr
      apply wpAny_bind
      apply wpAny_holding
      refine wpAny_comp_letGo (cenv := { ce with scope := relabel scope env }) c4 _ t m own hn fun h2 m2 _ sb => ?_
      exact wpAny_pure (hq h2 sb)
    | some u =>
      apply wpAny_bind
      apply wpAny_rule
      apply wpAny_bind
      apply wpAny_holding
      refine wpAny_mono hr (fun _ t5 hq => ?_) keep
      obtain ⟨m, hn, hq⟩ := hq
      apply wpAny_bind
      refine wpAny_comp_letGo (cenv := { ce with scope := relabel scope env }) c4 _ t5 m (fun x hx => ?_) hn fun h2 m2 _ sb => wpAny_pure (hq h2 sb)
      refine own x ?_
      rcases List.mem_append.mp hx with z | z
      · exact List.mem_of_mem_drop z
      · exact List.mem_of_mem_take z
  | error x =>
    obtain ⟨m, hn, hq⟩ := hr
    apply wpAny_bind
    apply wpAny_holding
    refine wpAny_comp_letGo (cenv := { ce with scope := relabel scope env }) c4 _ t m own hn fun h2 m2 _ sb => ?_
    exact wpAny_mono (hq h2 sb _ rfl) (fun _ _ z => z.elim) keep
theorem lc_coreE {X : Cx} {E : XK} {pins : List (Addr × Obj)} {s : Shared} {σ : L2.St} {H : Hp} {Q : VK} {elt tg iter : Expr} {ifs : List Expr} {scope : Scope} {own : List (Str × Nat)} {pos pos' : Pos} {wi : TI} {g : TG} {tt : TT} {te : TE}
    {use : Option (Value → Sem Unit)} {Qf : Value → Shared → Prop} (hst : X.stack = X.env :: X.outer) (hf : X.env.frame = some X.env.locals) (tk : Takes X fun c d _ H => E c d H)
    (hc : X.calm = true) (hN : X.N.Nodup) (I : Inv X pins σ H s) (hi : PI X tg iter wi) (ok : BlkOk X.N X.env.scope scope own)
    (hg : ∀ (t : Shared) (H : Hp) (C : Addr) (cl : List (Str × Addr)) (fp : List Addr), PG (X.blk t H scope (compEnvC scope cl C X.env) fp) tg g)
    (ht : ∀ (t : Shared) (H : Hp) (C : Addr) (cl : List (Str × Addr)) (fp : List Addr), PTs (X.blk t H scope (compEnvC scope cl C X.env) fp) ifs tt)
    (he : ∀ (t : Shared) (H : Hp) (C : Addr) (cl : List (Str × Addr)) (fp : List Addr) (xe : Value → Shared → Prop), (∀ σ, PassesAt (L2.CX X.prog X.w) { X.blk t H scope (compEnvC scope cl C X.env) fp with xe := xe } σ E) →
      PE { X.blk t H scope (compEnvC scope cl C X.env) fp with xe := xe } elt te)
    (hs : ∀ x, foldedSetIterable iter X.env x = pure x) (h : tLc wi g tt te (own.map (·.2)) σ H Q)
    (hRR : ∀ D C t m H', Inv X pins σ H' t → Q (.ref D) H' → t.heap.Ns C m → FpOk X pins H' C → compPost (model X.prog X.w) X.A X.xe use Qf (.ref D) C (.ok .next) t) :
    wpAny (model X.prog X.w) X.A (comprehension (.ListComp elt [⟨tg, iter, ifs, 0⟩] scope pos) scope X.env pos' (newList []) false (eval iter X.env) use) Qf X.xe s := by
  have hfree : ∀ y ∈ scope.names, y.2 = .free → ∃ c, X.env.cells.lookup y.1 = some c := fun y hy e => by
    rcases ok.free y hy e with k | k
    · exact I.ok.has _ (.inl k)
    · exact I.ok.has _ (.inr k)
  refine comp_freeE (use := use) rfl hs (closure_ok hfree) ok.kind (fun y hy e => by rw [ok.uniq y hy, e]) ?_
  refine thn (hi.run pins s σ H _ I h) fun xv s1 hx => thn hx fun itv s2 h2 => ?_
  obtain ⟨it, fp, tn, J, H2, rfl, I2, T, st2, f2, q⟩ := h2
  refine wpAny_newObj_type (newEnv_comp ?_) (by show 0 ≤ sizeLine; decide)
  generalize hD : s2.heap.objs.size = D
  have hDn : H2 D = none := I2.hok.fresh (Nat.le_of_eq hD)
  obtain ⟨W, ⟨m0, w0⟩, turn⟩ := q D hDn
  generalize hs3 : ({ s2 with heap := s2.heap.push { cls := .type "list", data := .seq ([] : List Value).toArray } } : Shared) = s3
  have h3 : s3.heap = s2.heap.push { cls := .type "list", data := .seq ([] : List Value).toArray } := by rw [← hs3]
  have I3 : Inv X pins σ (upd H2 D (.lst [])) s3 := by
    rw [← hs3]
    refine I2.laid (t' := s2.toks) (fun b o e => Heap.get?_push_of_some _ e) (Nat.le_of_eq hD) ⟨Nat.zero_le _, [], 0, .nil, ?_⟩
    rw [← hD]
    exact Heap.get?_push_size _ rfl
  have f3 : ∀ b ∈ fp, FpOk X pins (upd H2 D (.lst [])) b ∧ b < s3.heap.objs.size := fun b hb => by
    obtain ⟨o, e, _⟩ := T.obj _ _ st2 b hb
    have hlt := Heap.lt_size e
    refine ⟨⟨?_, (f2 b hb).2⟩, by rw [h3, Heap.size_push]; exact Nat.lt_succ_of_lt hlt⟩
    rw [upd_ne (by rw [← hD]; exact Nat.ne_of_lt hlt)]
    exact (f2 b hb).1
  have st3 : tn 0 s3.heap := T.keep _ _ _ st2 fun b _ o e => by
    rw [h3]
    exact Heap.get?_push_of_some _ e
  have I4 := block_start I3 ok hN f3
  have nfp : ∀ b ∈ fp, (upd H2 D (.lst [])) b = none := fun b hb => (f3 b hb).1.1
  -- the block's names, its context
  obtain ⟨e0, he0⟩ : ∃ e0 : Env, e0 = newEnv scope s3.heap.objs.size X.env.globals (cellsFrom (s3.heap.objs.size + 1) scope.names (cloFrom X.env.cells scope.names [])) X.env.qual none .none (some X.env) X.env.builtins := ⟨_, rfl⟩
  have l0 : e0.locals = s3.heap.objs.size := by
    rw [he0]
    rfl
  have r0 : e0.frame = X.env.frame := by
    rw [he0]
    rfl
  show codeAny _ _ (.compStart (.ListComp elt [⟨tg, iter, ifs, 0⟩] scope pos) 0 (.ref it) (.ref D) (compEnvC scope (cellsFrom (s3.heap.objs.size + 1) scope.names (cloFrom X.env.cells scope.names [])) s3.heap.objs.size X.env))
    (postE (model X.prog X.w) X.A X.xe use Qf (.ref D) (newEnv scope s3.heap.objs.size X.env.globals (cellsFrom (s3.heap.objs.size + 1) scope.names (cloFrom X.env.cells scope.names [])) X.env.qual none .none (some X.env) X.env.builtins)) { s3 with heap := pushCells (s3.heap.push { cls := .type "dict", data := .dict #[] }) scope.names }
  rw [← he0]
  have pg := hg s3 (upd H2 D (.lst [])) s3.heap.objs.size (cellsFrom (s3.heap.objs.size + 1) scope.names (cloFrom X.env.cells scope.names [])) fp
  have pt := ht s3 (upd H2 D (.lst [])) s3.heap.objs.size (cellsFrom (s3.heap.objs.size + 1) scope.names (cloFrom X.env.cells scope.names [])) fp
  have pe := he s3 (upd H2 D (.lst [])) s3.heap.objs.size (cellsFrom (s3.heap.objs.size + 1) scope.names (cloFrom X.env.cells scope.names [])) fp
  generalize hce : compEnvC scope (cellsFrom (s3.heap.objs.size + 1) scope.names (cloFrom X.env.cells scope.names [])) s3.heap.objs.size X.env = ce at I4 pg pt pe ⊢
  have cL : ce.locals = s3.heap.objs.size := by
    subst hce
    rfl
  have cF : ce.frame = X.env.frame := by
    subst hce
    rfl
  generalize hH3 : upd H2 D (.lst []) = H3 at I3 I4 pg pt pe w0 nfp f3
  generalize hs4 : ({ s3 with heap := pushCells (s3.heap.push { cls := .type "dict", data := .dict #[] }) scope.names } : Shared) = s4 at I4 ⊢
  have st4 : tn 0 s4.heap := T.keep _ _ _ st3 fun b _ o e => by
    rw [← hs4]
    exact pushCells_keeps _ _ _ _ (Heap.get?_push_of_some _ e)
  have stat : ∀ {σ' : L2.St} {H' : Hp} {s' : Shared}, Inv (X.blk s3 H3 scope ce fp) [] σ' H' s' → (∀ b ∈ fp, H' b = none) → ∀ b ∈ fp, FpOk (X.blk s3 H3 scope ce fp) [] H' b := fun {σ' H' s'} J hn b hb =>
    ⟨hn b hb, (J.ok.exf b hb).1, J.ok.exfs b hb, .inl hb, fun x c e => (J.ok.exf b hb).2 x c e, fun p hp => absurd (show p ∈ ([] : List (Addr × Obj)) ++ [] from hp) (by simp)⟩
  have pe := pe (notedBy (model X.prog X.w) X.A ce fun e s' => postE (model X.prog X.w) X.A X.xe use Qf (.ref D) e0 (.error e) s') fun τ pins' Hb sb u s' J c => by
    have z := blk_raise (E2 := fun e s' => postE (model X.prog X.w) X.A X.xe use Qf (.ref D) e0 (.error e) s') hst hf tk I3 (fun b hb => (f3 b hb).1) (Nat.le_refl _) cF cL J c
    refine wpAny_mono z (fun _ s5 q5 => ?_) fun _ _ y => y
    obtain ⟨m, hn, q5⟩ := q5
    refine ⟨m, by rw [l0]; exact hn, fun h2 sb2 v hv => q5 h2 (by rw [l0] at sb2; exact sb2) v (hv.trans r0)⟩
  have loop : codeAny (model X.prog X.w) X.A (.compLoop (.ListComp elt [⟨tg, iter, ifs, 0⟩] scope pos) 0 (.ref it) (.ref D) ce) (postE (model X.prog X.w) X.A X.xe use Qf (.ref D) e0) s4 := by
    refine compLoop_any (fun n s' => ∃ i H', Inv (X.blk s3 H3 scope ce fp) [] (wipe σ (own.map (·.2))) H' s' ∧ tn i s'.heap ∧ (∀ b ∈ fp, H' b = none) ∧ W i n H') ?_ m0 ⟨0, H3, I4, st4, nfp, w0⟩
    rintro n s5 ⟨i, H5, I5, st5, n5, w5⟩
    rcases turn i n H5 w5 with ⟨stop, qq⟩ | ⟨go, Nx, hNx, step⟩
    · refine thnF (T.done (X.blk s3 H3 scope ce fp) rfl rfl rfl hc i [] s5 _ H5 (fun _ _ => False) I5 (stat I5 n5) st5 stop) fun r s6 ⟨hr, I6⟩ => ?_
      subst hr
      have I7 : Inv X pins σ H5 s6 := I3.call' (ch := fp) I6.os I6.base I6.hok I6.bare fun b hb =>
        ⟨(f3 b hb).1.2.2.2.1, (f3 b hb).1.2.1, (f3 b hb).1.2.2.2.2.1, (f3 b hb).1.2.2.2.2.2⟩
      have nC : H5 s3.heap.objs.size = none := by
        have z : H5 ce.locals = none := I6.free
        rw [cL] at z
        exact z
      obtain ⟨m, hn, _⟩ := I6.loc
      have hn : s6.heap.Ns ce.locals m := hn
      rw [cL] at hn
      show compPost _ _ _ _ _ _ e0.locals _ _
      rw [l0]
      exact hRR D s3.heap.objs.size s6 m H5 I7 qq hn (I3.fpOk (Nat.le_refl _) nC)
    · refine thnF (T.item (X.blk s3 H3 scope ce fp) rfl rfl rfl hc i [] s5 _ H5 (fun _ _ => False) I5 (stat I5 n5) st5 go) fun r s6 ⟨u, hr, h6⟩ => ?_
      subst hr
      refine thnF h6 fun _ s7 ⟨x, H7, I7, r7, y7, st7, n7⟩ => ?_
      have I7' := I7.pinned (stat I7 n7) (T.obj _ _ st7)
      refine thnF (pg.run _ s7 _ H7 x u _ I7' r7 (step x H7 y7)) fun _ s8 ⟨σ8, H8, I8, hw8, q8⟩ => ?_
      refine thnF (pt.run _ s8 σ8 H8 _ I8 q8) fun b s9 ⟨H9, I9, q9⟩ => ?_
      have fin : ∀ {s' : Shared} {H' : Hp}, Inv (X.blk s3 H3 scope ce fp) ([] ++ pinsAt fp s7.heap) σ8 H' s' → Nx H' →
          ∃ m, m < n ∧ ∃ i H', Inv (X.blk s3 H3 scope ce fp) [] (wipe σ (own.map (·.2))) H' s' ∧ tn i s'.heap ∧ (∀ b ∈ fp, H' b = none) ∧ W i m H' := fun {s' H'} J nx => by
        obtain ⟨m', hm, w'⟩ := hNx H' nx
        have pin' : ∀ b ∈ fp, ∀ o, s7.heap.get? b = some o → s'.heap.get? b = some o ∧ H' b = none := fun b hb o e => by
          have z := J.pin (b, o) (List.mem_append_right _ (List.mem_append_right _ (mem_pinsAt hb e)))
          exact ⟨z.1, z.2.1⟩
        have hl : (wipe σ (own.map (·.2))).length = σ8.length := by rw [← hw8, wipe_length]
        refine ⟨m', hm, i + 1, H', (J.unpinned (pins := [])).weak hl (fun j v e => ?_), T.keep _ _ _ st7 fun b hb o e => (pin' b hb o e).1, fun b hb => ?_, w'⟩
        · rw [← hw8] at e
          exact (wipe_some e).1
        · obtain ⟨o, e, _⟩ := T.obj _ _ st7 b hb
          exact (pin' b hb o e).2
      cases b with
      | false =>
        simp only [Bool.false_eq_true, if_false] at q9 ⊢
        exact fin I9 q9
      | true =>
        simp only [if_true] at q9 ⊢
        refine thn (pe.run _ s9 σ8 H9 _ (inv_xe _ I9) q9) fun z s10 ⟨yv, H10, I10, r10, acc, hD10, hz10, nx⟩ => ?_
        exact app_ok (X := X.blk s3 H3 scope ce fp) (inv_xe (fun _ _ => False) I10) hD10 hz10 r10 fun s11 I11 => fin I11 nx
  exact codeAny_compStart_list loop (T.self X.A 0 _ _ _ st4 loop)
/-- as a value -/
theorem pe_lcE {X : Cx} {E : XK} {elt tg iter : Expr} {ifs : List Expr} {scope : Scope} {own : List (Str × Nat)} {pos : Pos} {wi : TI} {g : TG} {tt : TT} {te : TE}
    (hst : X.stack = X.env :: X.outer) (hf : X.env.frame = some X.env.locals) (tk : Takes X fun c d _ H => E c d H) (hc : X.calm = true) (hN : X.N.Nodup) (hi : PI X tg iter wi) (ok : BlkOk X.N X.env.scope scope own)
    (hg : ∀ (t : Shared) (H : Hp) (C : Addr) (cl : List (Str × Addr)) (fp : List Addr), PG (X.blk t H scope (compEnvC scope cl C X.env) fp) tg g)
    (ht : ∀ (t : Shared) (H : Hp) (C : Addr) (cl : List (Str × Addr)) (fp : List Addr), PTs (X.blk t H scope (compEnvC scope cl C X.env) fp) ifs tt)
    (he : ∀ (t : Shared) (H : Hp) (C : Addr) (cl : List (Str × Addr)) (fp : List Addr) (xe : Value → Shared → Prop), (∀ σ, PassesAt (L2.CX X.prog X.w) { X.blk t H scope (compEnvC scope cl C X.env) fp with xe := xe } σ E) →
      PE { X.blk t H scope (compEnvC scope cl C X.env) fp with xe := xe } elt te)
    (hs : ∀ x, foldedSetIterable iter X.env x = pure x := by intro _; rfl) : PE X (.ListComp elt [⟨tg, iter, ifs, 0⟩] scope pos) (tLc wi g tt te (own.map (·.2))) := by
  refine ⟨fun pins s σ H Q I h => ?_⟩
  rw [eval_ListComp]
  refine lc_coreE hst hf tk hc hN I hi ok hg ht he hs h fun D C t m H' J q hn f => ⟨m, hn, fun h2 sb => ?_⟩
  obtain ⟨f0, f1, f2, f3, f4, f5⟩ := f
  exact ⟨.ref D, H', J.turned (t' := t.toks) (fun b o hb e => (sb.2 b hb).trans e) f0 f1 f3 f4 f5, rfl, q⟩
/-- name = [..] on one line -/
theorem ps_setLcE {X : Cx} {E : XK} {i : Nat} {y : Str} {py : Pos} {elt tg iter : Expr} {ifs : List Expr} {scope : Scope} {own : List (Str × Nat)} {pos spos : Pos} {wi : TI} {g : TG} {tt : TT} {te : TE}
    (hst : X.stack = X.env :: X.outer) (hf : X.env.frame = some X.env.locals) (tk : Takes X fun c d _ H => E c d H) (hc : X.calm = true) (hN : X.N.Nodup) (hy : X.N[i]? = some y) (hyl : X.env.scope.names.lookup y = some .local)
    (hsw : swapsWith (.ListComp elt [⟨tg, iter, ifs, 0⟩] scope pos) (some (.Name y py)) spos.line X.env = pure true) (hi : PI X tg iter wi) (ok : BlkOk X.N X.env.scope scope own)
    (hg : ∀ (t : Shared) (H : Hp) (C : Addr) (cl : List (Str × Addr)) (fp : List Addr), PG (X.blk t H scope (compEnvC scope cl C X.env) fp) tg g)
    (ht : ∀ (t : Shared) (H : Hp) (C : Addr) (cl : List (Str × Addr)) (fp : List Addr), PTs (X.blk t H scope (compEnvC scope cl C X.env) fp) ifs tt)
    (he : ∀ (t : Shared) (H : Hp) (C : Addr) (cl : List (Str × Addr)) (fp : List Addr) (xe : Value → Shared → Prop), (∀ σ, PassesAt (L2.CX X.prog X.w) { X.blk t H scope (compEnvC scope cl C X.env) fp with xe := xe } σ E) →
      PE { X.blk t H scope (compEnvC scope cl C X.env) fp with xe := xe } elt te)
    (hs : ∀ x, foldedSetIterable iter X.env x = pure x := by intro _; rfl) : PS X (.Assign [.Name y py] (.ListComp elt [⟨tg, iter, ifs, 0⟩] scope pos) spos) (tAsg (tLc wi g tt te (own.map (·.2))) (gName i)) := by
  refine ⟨fun pins s σ H D I h => ?_⟩
  rw [exec_Assign_Name_used _ _ _ _ hsw]
  apply wpAny_bind
  apply wpAny_standAt
  apply wpAny_bind
  show wpAny _ X.A (do let _ ← comprehension (.ListComp elt [⟨tg, iter, ifs, 0⟩] scope pos) scope X.env (firstIterPos [⟨tg, iter, ifs, 0⟩] pos) (newList []) false (eval iter X.env) (some (assign (.Name y py) X.env))) _ _ s
  have h : tLc wi g tt te (own.map (·.2)) σ H (fun x H1 => gName i x σ H1 D.nx) := h
  apply wpAny_bind
  refine thn (lc_coreE (Qf := fun _ t => SP X pins D .next t) hst hf tk hc hN I hi ok hg ht he hs h fun L C t m H' J q hn f => ?_) fun _ t hq => wpAny_pure (wpAny_pure hq)
  show wpAny _ _ (assign (.Name y py) X.env (.ref L)) _ _ _
  refine wpAny_assign_Name (store_ok2 (v := V.ref L) J hN hy (.inl hyl) rfl (fun t2 J2 z => ?_) (.inr hyl))
  obtain ⟨a, sb, ha⟩ := z
  obtain ⟨f0, f1, f2, f3, f4, f5⟩ := f
  have haC : C ≠ a := by
    rcases ha with z | z
    · rw [z]
      exact f1
    · exact fun e => f4 y a z e.symm
  refine ⟨m, hn.sameBut sb haC, fun h3 sb3 => ⟨_, H', J2.turned (t' := t2.toks) (fun b o hb e => (sb3.2 b hb).trans e) f0 f1 f3 f4 f5, q⟩⟩
end Nx

/-! Several except clauses, with a name or without. -/
namespace Nx
open PySem PySem.Spec PyProof.Rows L2
/-- a clause: its class, the slot of its name, its suite -/
abbrev Clz := Value × Option Nat × (Addr → Value → Option Addr → TS)
/-- the ends of a suite behind which slot i is forgotten -/
def endsWo (D : Ends) (i : Nat) : Ends := { nx := fun σ H => D.nx (σ.set i none) H, rt := D.rt, bk := fun σ H => D.bk (σ.set i none) H, ct := fun σ H => D.ct (σ.set i none) H }
def clzTS (D : Ends) (z : Clz) (a : Addr) (cls : Value) (d : Option Addr) (σ : L2.St) (H : Hp) : Prop := match z.2.1 with
  | none => z.2.2 a cls d D σ H
  | some i => z.2.2 a cls d (endsWo D i) (σ.set i (some (.ref a))) H
def wClz (K : PySem.W.Frag) (Wout : WX) (D : Ends) : List Clz → WX
  | [] => Wout
  | z :: r => fun cls d σ H => ∃ b, PySem.W.exmOne K cls z.1 = some b ∧ (b = true → ∀ a, H a = none → clzTS D z a cls d σ H) ∧ (b = false → wClz K Wout D r cls d σ H)
inductive Clauses (X : Cx) : List ExceptHandler → List Clz → Prop where
  | nil : Clauses X [] []
  | only {x : Str} {c : Value} {ts : Addr → Value → Option Addr → TS} {b0 : Stmt} {bs : List Stmt} {p1 p2 : Pos} {hs : List ExceptHandler} {l : List Clz} (hc : Names X x c)
      (su : ∀ (a : Addr) (oe : Obj) (cls : Value) (d : Option Addr) (pn : List (Addr × Obj)), Zc cls d oe → (∃ vs, oe.data = .fields vs) → PSs (X.suite a ((a, oe) :: pn)) (b0 :: bs) (ts a cls d)) (r : Clauses X hs l) :
      Clauses X (.ExceptHandler (some (.Name x p1)) none (b0 :: bs) p2 :: hs) ((c, none, ts) :: l)
  | as {x n : Str} {i : Nat} {c : Value} {ts : Addr → Value → Option Addr → TS} {b0 : Stmt} {bs : List Stmt} {p1 p2 : Pos} {hs : List ExceptHandler} {l : List Clz} (hi : X.N[i]? = some n) (hl : X.env.kindOf n = some .local) (hc : Names X x c)
      (su : ∀ (a : Addr) (oe : Obj) (cls : Value) (d : Option Addr) (pn : List (Addr × Obj)), Zc cls d oe → (∃ vs, oe.data = .fields vs) → PSs (X.suite a ((a, oe) :: pn)) (b0 :: bs) (ts a cls d)) (r : Clauses X hs l) :
      Clauses X (.ExceptHandler (some (.Name x p1)) (some n) (b0 :: bs) p2 :: hs) ((c, some i, ts) :: l)
theorem ps_tries {X : Cx} {body : List Stmt} {h0 : ExceptHandler} {hs : List ExceptHandler} {l : List Clz} {pos : Pos} {tb : WX → TS} {Wout : WX}
    (hst : X.stack = X.env :: X.outer) (hf : X.env.frame = some X.env.locals) (hN : X.N.Nodup) (tk : Takes X Wout)
    (hb : ∀ (W : WX) (pn : List (Addr × Obj)) (xe : Value → Shared → Prop), Takes (X.tr pn xe) W → PassesOwn (model X.prog X.w) X.A X.env xe → PSs (X.tr pn xe) body (tb W)) (hh : Clauses X (h0 :: hs) l) :
    PS X (.Try body (h0 :: hs) [] [] pos) (fun D σ H => tb (wClz X.K Wout D l) D σ H) := by
  refine ⟨fun pins s σ H D I h => ?_⟩
  have ok := I.ok
  have hfr : X.A.frames = some (X.env :: X.outer) := by rw [ok.frames, hst]
  refine wpAny_Try_except ?_
  have run := (hb (wClz X.K Wout D l) (X.pn ++ pins) (fun e t1 => wpAny (model X.prog X.w) X.A (noteFrame e X.env) (fun _ t2 => wpAny (model X.prog X.w) X.A (setFlight e none) (fun _ t3 =>
    wpAny (model X.prog X.w) X.A (handleBy e X.env (h0 :: hs)) (SP X pins D) X.xe t3) X.xe t2) X.xe t1) (fun u t' xx => ?_) PassesOwn.looking).run [] s σ H D (I.toTry _) h
  · refine wpAny_mono run (fun f t1 z => ?_) (fun e t1 z => z)
    cases f with
    | next =>
      obtain ⟨σ1, H1, J1, q⟩ := z
      exact wpAny_execs_nil ⟨σ1, H1, J1.ofTry ok, q⟩
    | brk =>
      obtain ⟨σ1, H1, J1, q⟩ := z
      exact ⟨σ1, H1, J1.ofTry ok, q⟩
    | cont =>
      obtain ⟨σ1, H1, J1, q⟩ := z
      exact ⟨σ1, H1, J1.ofTry ok, q⟩
    | ret u =>
      obtain ⟨v, σ1, H1, J1, r, q⟩ := z
      exact ⟨v, σ1, H1, J1.ofTry ok, r, q⟩
  · obtain ⟨a, B, sI, pins1, σ1, H1, cls, d, rfl, J0, nb, up, sky, na, os, ag, w⟩ := xx
    have J : Inv X pins σ1 H1 sI := J0.ofTry ok
    have sky : Sky B (X.env :: X.outer) a (Zc cls d) X.env.locals t'.heap := by
      rw [← hst]
      exact sky
    show wpAny (model X.prog X.w) X.A (noteFrame (.ref a) X.env) _ _ _
    refine Sky.land Zc.steady hfr hf sky fun h3 fl3 up3 => ?_
    have J3 : Inv X pins σ1 H1 { t' with heap := h3 } := J.landed nb fl3.1 (up.trans up3) os ag
    obtain ⟨oe3, vs3, he3, hz3, hd3⟩ := fl3.there
    have nfr : a ∉ frs (X.env :: X.outer) := fun hm => by
      obtain ⟨_, o1, e1, hnf⟩ := fl3.2.2.1.mem hm
      rw [he3] at e1
      cases e1
      exact hnf _ hd3
    have nL : a ≠ X.env.locals := fun z => nfr (List.mem_filterMap.mpr ⟨X.env, List.mem_cons_self, by rw [hf, z]⟩)
    have nF : a ∉ X.fs := fun hm => by
      obtain ⟨e, he, q⟩ := List.mem_filterMap.mp hm
      exact nfr (List.mem_filterMap.mpr ⟨e, List.mem_cons_of_mem _ he, q⟩)
    have S3 := J3.suite he3 hd3 na nL nF
    have LT : PySem.W.Looks (model X.prog X.w) h3 (typeOf (.ref a)) cls := fun A Q E s k q => wpAny_typeOf_ref (k _ _ he3) (by rw [hz3.1]; exact q)
    have test : ∀ {x : Str} {c : Value} {p1 : Pos} (hc : Names X x c) {Q : Value → Shared → Prop} {E : Value → Shared → Prop}, Q c { t' with heap := h3 } →
        wpAny (model X.prog X.w) (X.A.mark (some (.ref a))) (eval (.Name x p1) X.env) Q E { t' with heap := h3 } := fun {x c p1} hc {Q E} q => by
      obtain ⟨hg, hdb, hm | ⟨hm, hv, hn⟩⟩ := hc
      · exact ld_glob (X := X.suite a ((a, oe3) :: (X.pn ++ pins))) S3 hg hm q hdb
      · exact ld_blt (X := X.suite a ((a, oe3) :: (X.pn ++ pins))) S3 hg hm hv q hn hdb
    have go : ∀ {hs1 : List ExceptHandler} {l1 : List Clz}, Clauses X hs1 l1 → wClz X.K Wout D l1 cls d σ1 H1 → wpAny (model X.prog X.w) X.A (handleBy (.ref a) X.env hs1) (SP X pins D) X.xe { t' with heap := h3 } := by
      intro hs1 l1 hk
      induction hk with
      | nil =>
        intro w
        refine wpAny_handleBy_nil ?_
        obtain ⟨_, _, _, oe, vs, T, oT, ts1, he, hz, hd, hv1, hr⟩ := id fl3
        unfold PySem.passOn
        refine wpAny_bind (wpAny_field he hd hv1 ?_)
        rw [if_neg (show ¬ ((Value.ref T == Value.none) = true) by simp)]
        have last : wpAny (model X.prog X.w) X.A (setFlight (.ref a) X.env.frame) (fun _ t4 => wpAny (model X.prog X.w) X.A (throw (.ref a) : Sem Flow) (SP X pins D) X.xe t4) X.xe { t' with heap := h3 } := by
          rw [hf]
          refine HandSPX.setFlight_upZ fl3 fun h4 hh4 up4 => wpAny_throw (tk _ _ ?_)
          refine ⟨a, B, sI, pins, σ1, H1, cls, d, rfl, J, nb, (up.trans up3).trans up4, .inr (.inr ?_), na, os, ag, w⟩
          rw [hst]
          exact hh4
        first
          | exact wpAny_bind (wpAny_pure (wpAny_bind last))
          | exact wpAny_bind last
      | @only x c ts b0 bs p1 p2 hs2 l2 hc su r ih =>
        rintro ⟨b, w1, w2, w3⟩
        refine wpAny_handleBy_cons (codeAny_handlers_test ?_) (by intro q; cases q)
        refine test hc ((PySem.W.exm_one (M := model X.prog X.w) J3.kIn LT w1).here ?_)
        cases b with
        | false => exact ih (w3 rfl)
        | true =>
          refine codeAny_handlers_suite (HandSPX.lands_againZ fl3 fun h4 fl4 up4 => ?_)
          have J4 : Inv X pins σ1 H1 { t' with heap := h4 } := J.landed nb fl4.1 ((up.trans up3).trans up4) os ag
          obtain ⟨oe4, vs4, he4, hz4, hd4⟩ := fl4.there
          have S4 := J4.suite he4 hd4 na nL nF
          refine wpAny_mono ((su a oe4 cls d (X.pn ++ pins) hz4 ⟨_, hd4⟩).run [] _ _ H1 _ S4 (w2 rfl a na)) (fun f t6 z => ?_) (fun _ _ z => z.elim)
          cases f with
          | next =>
            obtain ⟨σ6, H6, S6, q6⟩ := z
            exact ⟨_, _, S6.unsuite ok, q6⟩
          | brk =>
            obtain ⟨σ6, H6, S6, q6⟩ := z
            exact ⟨_, _, S6.unsuite ok, q6⟩
          | cont =>
            obtain ⟨σ6, H6, S6, q6⟩ := z
            exact ⟨_, _, S6.unsuite ok, q6⟩
          | ret u =>
            obtain ⟨v6, σ6, H6, S6, r6, q6⟩ := z
            exact ⟨_, _, _, S6.unsuite ok, r6, q6⟩
      | @as x n i c ts b0 bs p1 p2 hs2 l2 hi hl hc su r ih =>
        rintro ⟨b, w1, w2, w3⟩
        refine wpAny_handleBy_cons (codeAny_handlers_test ?_) (by intro q; cases q)
        refine test hc ((PySem.W.exm_one (M := model X.prog X.w) J3.kIn LT w1).here ?_)
        cases b with
        | false => exact ih (w3 rfl)
        | true =>
          refine codeAny_handlers_suite_as (HandSPX.lands_againZ fl3 fun h4 fl4 up4 => ?_)
          have J4 : Inv X pins σ1 H1 { t' with heap := h4 } := J.landed nb fl4.1 ((up.trans up3).trans up4) os ag
          obtain ⟨oe4, vs4, he4, hz4, hd4⟩ := fl4.there
          have S4 := J4.suite he4 hd4 na nL nF
          have hloc : Loc X.env.scope n := .inl hl
          refine store_ok (X := X.suite a ((a, oe4) :: (X.pn ++ pins))) (v := .ref a) S4 hN hi hloc rfl (fun t5 S5 => ?_) (.inr hl)
          refine wpAny_mono ((su a oe4 cls d (X.pn ++ pins) hz4 ⟨_, hd4⟩).run [] t5 _ H1 _ S5 (w2 rfl a na)) (fun f t6 z => ?_) (fun _ _ z => z.elim)
          have behind : ∀ {σ6 : L2.St} {H6 : Hp} {Q : Shared → Prop}, Inv (X.suite a ((a, oe4) :: (X.pn ++ pins))) [] σ6 H6 t6 → (∀ t7, Inv X pins (σ6.set i none) H6 t7 → Q t7) →
              wpAny (model X.prog X.w) X.A (do bindName X.env n .none; unbindBehindTheSuite X.env n p2) (fun _ t7 => Q t7) X.xe t6 := fun {σ6 H6 Q} S6 hq => gone_ok (S6.unsuite ok) hN hi hl hq
          cases f with
          | next =>
            obtain ⟨σ6, H6, S6, q6⟩ := z
            exact behind S6 fun t7 J7 => ⟨_, _, J7, q6⟩
          | brk =>
            obtain ⟨σ6, H6, S6, q6⟩ := z
            exact behind S6 fun t7 J7 => ⟨_, _, J7, q6⟩
          | cont =>
            obtain ⟨σ6, H6, S6, q6⟩ := z
            exact behind S6 fun t7 J7 => ⟨_, _, J7, q6⟩
          | ret u =>
            obtain ⟨v6, σ6, H6, S6, r6, q6⟩ := z
            exact behind S6 fun t7 J7 => ⟨_, _, _, J7, r6, q6⟩
    exact go hh w
end Nx

/-! Programs as data, and where they stand. -/
namespace Nx
open PySem PySem.Spec PyProof.Rows L2
inductive Ins where
  | set (a : Nat) (t : Tr)
  | move (a b : Nat)
  | cons (a b c : Nat)
  | head (a b : Nat)
  | tail (a b : Nat)
  | jump (a : Nat) (n : Int)
  deriving DecidableEq
def Ins.word : Ins → Str
  | .set _ _ => "set"
  | .move _ _ => "move"
  | .cons _ _ _ => "cons"
  | .head _ _ => "head"
  | .tail _ _ => "tail"
  | .jump _ _ => "jump"
/-- the parts behind the word -/
def Ins.parts : Ins → List V
  | .set a t => [.int a, .str t.str]
  | .move a b => [.int a, .int b]
  | .cons a b c => [.int a, .int b, .int c]
  | .head a b => [.int a, .int b]
  | .tail a b => [.int a, .int b]
  | .jump a n => [.int a, .int n]
def Ins.vs (i : Ins) : List V := .str i.word :: i.parts
def Ins.dparts : Ins → List PyData
  | .set a t => [.int a, .str t.str]
  | .move a b => [.int a, .int b]
  | .cons a b c => [.int a, .int b, .int c]
  | .head a b => [.int a, .int b]
  | .tail a b => [.int a, .int b]
  | .jump a n => [.int a, .int n]
def Ins.data (i : Ins) : PyData := .tuple (.str i.word :: i.dparts)
/-- the registers that an instruction names -/
def Ins.regs : Ins → List Nat
  | .set a _ => [a]
  | .move a b => [a, b]
  | .cons a b c => [a, b, c]
  | .head a b => [a, b]
  | .tail a b => [a, b]
  | .jump a _ => [a]
/-- an instruction at i of a program of n: registers below w, trees of at most k pairs -/
def Ins.ok (w k i n : Nat) : Ins → Prop
  | .set a t => a < w ∧ t.pairs ≤ k
  | .move a b => a < w ∧ b < w
  | .cons a b c => a < w ∧ b < w ∧ c < w
  | .head a b => a < w ∧ b < w
  | .tail a b => a < w ∧ b < w
  | .jump a m => a < w ∧ 0 ≤ (i : Int) + m ∧ (i : Int) + m ≤ n
def PgOk (w k : Nat) (is : List Ins) : Prop := ∀ (i : Nat) (x : Ins), is[i]? = some x → x.ok w k i is.length
def progD (is : List Ins) : PyData := .list (is.map Ins.data)
abbrev Rows (H : Hp) : List Addr → List Ins → Prop := Paired fun a i => H a = some (.tup i.vs)
def PgAt (H : Hp) (p : Addr) (is : List Ins) : Prop := ∃ as : List Addr, H p = some (.lst (as.map V.ref)) ∧ Rows H as is
theorem Paired.imp {α β : Type} {F G : α → β → Prop} (h : ∀ a b, F a b → G a b) : ∀ {l : List α} {m : List β}, Paired F l m → Paired G l m
  | _, _, .nil => .nil
  | _, _, .cons r t => .cons (h _ _ r) (Paired.imp h t)
theorem Paired.get {α β : Type} {F : α → β → Prop} : ∀ {l : List α} {m : List β} {i : Nat} {b : β}, Paired F l m → m[i]? = some b → ∃ a, l[i]? = some a ∧ F a b
  | _, _, _, _, .nil, e => by simp at e
  | _, _, 0, _, .cons r _, e => by
    simp at e
    subst e
    exact ⟨_, rfl, r⟩
  | _, _, i + 1, b, .cons _ t, e => by
    obtain ⟨a, h1, h2⟩ := Paired.get (i := i) (b := b) t (by simpa using e)
    exact ⟨a, by simpa using h1, h2⟩
theorem Paired.len {α β : Type} {F : α → β → Prop} : ∀ {l : List α} {m : List β}, Paired F l m → l.length = m.length
  | _, _, .nil => rfl
  | _, _, .cons _ t => by rw [List.length_cons, List.length_cons, Paired.len t]
theorem Paired.app {α β : Type} {F : α → β → Prop} : ∀ {l l' : List α} {m m' : List β}, Paired F l m → Paired F l' m' → Paired F (l ++ l') (m ++ m')
  | _, _, _, _, .nil, s => s
  | _, _, _, _, .cons r t, s => .cons r (Paired.app t s)
theorem Rows.same {H H' : Hp} {as : List Addr} {is : List Ins} (e : Same H H') (h : Rows H as is) : Rows H' as is := Paired.imp (fun a i q => e a _ q) h
theorem Rows.exs {st : Addr} {H H' : Hp} {as : List Addr} {is : List Ins} (s : Strm H st) (e : ExS st H H') (h : Rows H as is) : Rows H' as is := Paired.imp (fun a i q => e a _ (fun z => by
  obtain ⟨l, ns, c, i, m, h1, _⟩ := s
  rw [z, h1] at q
  cases q) q) h
theorem PgAt.same {H H' : Hp} {p : Addr} {is : List Ins} (h : PgAt H p is) (e : Same H H') : PgAt H' p is := by
  obtain ⟨as, h1, h2⟩ := h
  exact ⟨as, e _ _ h1, Rows.same e h2⟩
theorem PgAt.exs {st : Addr} {H H' : Hp} {p : Addr} {is : List Ins} (h : PgAt H p is) (s : Strm H st) (n : p ≠ st) (e : ExS st H H') : PgAt H' p is := by
  obtain ⟨as, h1, h2⟩ := h
  exact ⟨as, e _ _ n h1, Rows.exs s e h2⟩
theorem PgAt.len {H : Hp} {p : Addr} {is : List Ins} (h : PgAt H p is) : ∃ xs, H p = some (.lst xs) ∧ xs.length = is.length := by
  obtain ⟨as, h1, h2⟩ := h
  exact ⟨_, h1, by rw [List.length_map, Paired.len h2]⟩
theorem PgAt.ne {H : Hp} {p q : Addr} {is : List Ins} (h : PgAt H p is) (n : H q = none) : q ≠ p := fun z => by
  obtain ⟨as, h1, _⟩ := h
  rw [← z, n] at h1
  cases h1
/-- an item of a program -/
theorem PgAt.get {H : Hp} {p : Addr} {is : List Ins} (h : PgAt H p is) : ∃ xs : List V, H p = some (.lst xs) ∧ xs.length = is.length ∧ ∀ (i : Nat) (x : Ins), is[i]? = some x → ∃ a : Addr, xs[i]? = some (V.ref a) ∧ H a = some (.tup x.vs) := by
  obtain ⟨as, h1, h2⟩ := h
  refine ⟨_, h1, by rw [List.length_map, Paired.len h2], fun i x hi => ?_⟩
  obtain ⟨a, e1, e2⟩ := Paired.get h2 hi
  exact ⟨a, by rw [List.getElem?_map, e1]; rfl, e2⟩
theorem Rows.push {H : Hp} {as : List Addr} {is : List Ins} {p T : Addr} {ys zs : List V} {i : Ins} (h : Rows H as is) (hp : H p = some (.lst ys)) (hT : H T = none) : Rows (upd (upd H T (.tup i.vs)) p (.lst zs)) (as ++ [T]) (is ++ [i]) := by
  have nT : p ≠ T := ne_of_none hp hT
  refine Paired.app (Paired.imp (fun a j q => ?_) h) (.cons ?_ .nil)
  · have na : a ≠ p := fun z => by
      rw [z, hp] at q
      cases q
    rw [upd_ne na, upd_ne (ne_of_none q hT)]
    exact q
  · rw [upd_ne nT.symm, upd_same]
/-! ### as data -/
theorem Ins.dp {K : PySem.W.Frag} {H : Hp} {a : Addr} {i : Ins} (h : H a = some (.tup i.vs)) : Dp K H (.ref a) i.data := by
  refine .tup (SqT.of h) (.cons (.str _) ?_)
  cases i with
  | set a t => exact .cons (.int _) (.cons (.str _) .nil)
  | move a b => exact .cons (.int _) (.cons (.int _) .nil)
  | cons a b c => exact .cons (.int _) (.cons (.int _) (.cons (.int _) .nil))
  | head a b => exact .cons (.int _) (.cons (.int _) .nil)
  | tail a b => exact .cons (.int _) (.cons (.int _) .nil)
  | jump a n => exact .cons (.int _) (.cons (.int _) .nil)
theorem rows_dp {K : PySem.W.Frag} {H : Hp} : ∀ {as : List Addr} {is : List Ins}, Rows H as is → DpAll K H (as.map V.ref) (is.map Ins.data)
  | _, _, .nil => .nil
  | _, _, .cons r t => .cons (Ins.dp r) (rows_dp t)
theorem PgAt.dp {K : PySem.W.Frag} {H : Hp} {p : Addr} {is : List Ins} (h : PgAt H p is) : Dp K H (.ref p) (progD is) := by
  obtain ⟨as, h1, h2⟩ := h
  exact .lst (SqL.of h1) (rows_dp h2)
theorem Ins.word_ok (i : Ins) : PyData.strOk i.word = true := by
  cases i with
  | set a t => exact (by decide +kernel : PyData.strOk (Str.ofString "set") = true)
  | move a b => exact (by decide +kernel : PyData.strOk (Str.ofString "move") = true)
  | cons a b c => exact (by decide +kernel : PyData.strOk (Str.ofString "cons") = true)
  | head a b => exact (by decide +kernel : PyData.strOk (Str.ofString "head") = true)
  | tail a b => exact (by decide +kernel : PyData.strOk (Str.ofString "tail") = true)
  | jump a n => exact (by decide +kernel : PyData.strOk (Str.ofString "jump") = true)
theorem Ins.lay (i : Ins) : i.data.canLay0 = true := by
  show (PyData.strOk i.word && PyData.canLayAll0 i.dparts) = true
  rw [i.word_ok]
  cases i with
  | set a t =>
    show (true && (true && (PyData.strOk t.str && true))) = true
    rw [show PyData.strOk t.str = true from strOk_01 t.sg_01]
    rfl
  | _ => rfl
theorem Ins.deep (i : Ins) : i.data.depth = 1 := by cases i <;> rfl
theorem prog_lay : ∀ is : List Ins, PyData.canLayAll0 (is.map Ins.data) = true
  | [] => rfl
  | i :: r => by
    show (i.data.canLay0 && PyData.canLayAll0 (r.map Ins.data)) = true
    rw [i.lay, prog_lay r]
    rfl
theorem prog_deep : ∀ is : List Ins, PyData.depthAll (is.map Ins.data) ≤ 1
  | [] => by decide
  | i :: r => by
    show max i.data.depth (PyData.depthAll (r.map Ins.data)) ≤ 1
    have := prog_deep r
    rw [i.deep]
    omega
theorem progD_shaped (is : List Ins) : SeqAt.shaped (progD is) = true := by
  show (PyData.canLayAll0 (is.map Ins.data) && decide (PyData.depthAll (is.map Ins.data) + 1 ≤ 64)) = true
  have := prog_deep is
  rw [prog_lay, decide_eq_true (by omega)]
  rfl
theorem Ins.shaped (i : Ins) : SeqAt.shaped i.data = true := by
  show (i.data.canLay0 && decide (i.data.depth ≤ 64)) = true
  rw [i.lay, i.deep]
  rfl
/-! ### a written dict from texts to texts -/
structure DLit (K : PySem.W.Frag) (w : World) (a : Addr) (l : List (Str × Str)) : Prop where
  kd : ∃ es n, KDict K w a es n
  get : ∀ z, (∃ x t, l.lookup z = some x ∧ PySem.W.nsIn K a z = some (some (.str x t))) ∨ (l.lookup z = none ∧ PySem.W.nsIn K a z = some none)
theorem Paired.cons' {e : DictEntry} {p : Str × Str} {es : List DictEntry} {l : List (Str × Str)} (h1 : ∃ t, e.key = .str p.1 t) (h2 : ∃ t, e.val = .str p.2 t)
    (r : Paired (fun (e : DictEntry) (p : Str × Str) => (∃ t, e.key = .str p.1 t) ∧ ∃ t, e.val = .str p.2 t) es l) : Paired (fun (e : DictEntry) (p : Str × Str) => (∃ t, e.key = .str p.1 t) ∧ ∃ t, e.val = .str p.2 t) (e :: es) (p :: l) := .cons ⟨h1, h2⟩ r
theorem dlit_find : ∀ {es : List DictEntry} {l : List (Str × Str)}, Paired (fun (e : DictEntry) (p : Str × Str) => (∃ t, e.key = .str p.1 t) ∧ ∃ t, e.val = .str p.2 t) es l → ∀ z : Str,
    (∃ e x t, es.find? (·.key.isStr z) = some e ∧ l.lookup z = some x ∧ e.val = .str x t) ∨ (es.find? (·.key.isStr z) = none ∧ l.lookup z = none ∧ es.any (·.refKey) = false)
  | _, _, .nil, z => .inr ⟨rfl, rfl, rfl⟩
  | e :: es, (k, v) :: l, .cons r t, z => by
    obtain ⟨⟨t1, h1⟩, ⟨t2, h2⟩⟩ := r
    have h1' : e.key = .str k t1 := h1
    have ek : e.key.isStr z = (k == z) := by
      rw [h1']
      rfl
    have el : List.lookup z ((k, v) :: l) = if (z == k) = true then some v else List.lookup z l := by
      rw [List.lookup_cons]
      cases z == k <;> rfl
    rw [el, List.find?_cons, ek]
    by_cases c : z = k
    · subst c
      rw [beq_self_eq_true, if_pos rfl]
      exact .inl ⟨e, v, t2, rfl, rfl, h2⟩
    · rw [beq_eq_false_iff_ne.mpr (fun q => c q.symm), beq_eq_false_iff_ne.mpr c, if_neg Bool.false_ne_true]
      rcases dlit_find t z with h | ⟨g1, g2, g3⟩
      · exact .inl h
      · refine .inr ⟨g1, g2, ?_⟩
        rw [List.any_cons, g3, Bool.or_false]
        unfold DictEntry.refKey
        rw [h1']
theorem dlit_mk {K : PySem.W.Frag} {w : World} {a : Addr} {es : Array DictEntry} {n : Nat} {l : List (Str × Str)} (h : K.lookup a = some ⟨.type "dict", none, .dict es n, #[]⟩) (hk : PySem.W.KeysLit w.params es.toList) (low : (a == sysModules) = false)
    (hp : Paired (fun (e : DictEntry) (p : Str × Str) => (∃ t, e.key = .str p.1 t) ∧ ∃ t, e.val = .str p.2 t) es.toList l) : DLit K w a l := by
  refine ⟨⟨es, n, h, hk, low⟩, fun z => ?_⟩
  have hn : PySem.W.nsIn K a z = (match es.toList.find? (·.key.isStr z) with
      | some e => some (some e.val)
      | none => if es.toList.any (·.refKey) then none else some none) := by
    unfold PySem.W.nsIn
    rw [h]
    rfl
  rw [hn]
  rcases dlit_find hp z with ⟨e, x, t, e1, e2, e3⟩ | ⟨e1, e2, e3⟩
  · rw [e1]
    exact .inl ⟨x, t, e2, by show some (some e.val) = _; rw [e3]⟩
  · rw [e1, e3]
    exact .inr ⟨e2, rfl⟩
theorem DLit.dct {K : PySem.W.Frag} {w : World} {a : Addr} {l : List (Str × Str)} (D : DLit K w a l) {z x : Str} (h : l.lookup z = some x) : KDct K w a z (.str x) := by
  obtain ⟨es, n, d1, d2, d3⟩ := D.kd
  rcases D.get z with ⟨x', t, e1, e2⟩ | ⟨e1, e2⟩
  · rw [h] at e1
    rw [← Option.some.inj e1] at e2
    exact ⟨es, n, _, d1, d2, e2, ⟨t, rfl⟩⟩
  · rw [h] at e1
    cases e1
/-! ### a program that is drawn -/
structure PInv (H2 : Hp) (st p : Addr) (wide many : Nat) (as : List Addr) (is : List Ins) (H' : Hp) : Prop where
  at_ : H' p = some (.lst (as.map V.ref))
  rows : Rows H' as is
  ok : ∀ (j : Nat) (x : Ins), is[j]? = some x → x.ok wide 3 j many
  ex : ExS st H2 H'
  sm : Strm H' st
theorem PInv.go {H2 H5 H6 : Hp} {st p : Addr} {wide many : Nat} {as : List Addr} {is : List Ins} (np : p ≠ st) (h : PInv H2 st p wide many as is H5) (e : ExS st H5 H6) (s : Strm H6 st) : PInv H2 st p wide many as is H6 :=
  ⟨e _ _ np h.at_, Rows.exs h.sm e h.rows, h.ok, h.ex.trans e, s⟩
theorem PInv.push {H2 H5 : Hp} {st p T : Addr} {wide many : Nat} {as : List Addr} {is : List Ins} {x : Ins} (hp : H2 p = none) (s2 : Strm H2 st) (h : PInv H2 st p wide many as is H5) (hx : x.ok wide 3 is.length many) (hT : H5 T = none) :
    PInv H2 st p wide many (as ++ [T]) (is ++ [x]) (upd (upd H5 T (.tup x.vs)) p (.lst (as.map V.ref ++ [.ref T]))) := by
  have np : p ≠ st := s2.ne hp
  have smT := Same.upd (o := .tup x.vs) hT
  have e1 : ExS st H2 (upd H5 T (.tup x.vs)) := h.ex.trans smT.exs
  refine ⟨?_, Rows.push h.rows h.at_ hT, fun j y hj => ?_, .off np hp e1, s2.off hp e1 (smT.strm h.sm)⟩
  · rw [upd_same, List.map_append]
    rfl
  · by_cases c : j < is.length
    · rw [List.getElem?_append_left c] at hj
      exact h.ok j y hj
    · have c2 : j = is.length := by
        have := (List.getElem?_eq_some_iff.mp hj).1
        rw [List.length_append] at this
        have h1 : ([x] : List Ins).length = 1 := rfl
        omega
      subst c2
      rw [List.getElem?_append_right (Nat.le_refl _), Nat.sub_self] at hj
      have : x = y := by simpa using hj
      rw [← this]
      exact hx
theorem PInv.done {H2 H' : Hp} {st p : Addr} {wide many : Nat} {as : List Addr} {is : List Ins} (h : PInv H2 st p wide many as is H') (hl : is.length = many) : PgAt H' p is ∧ PgOk wide 3 is :=
  ⟨⟨as, h.at_, h.rows⟩, fun i x hi => by
    rw [hl]
    exact h.ok i x hi⟩
theorem PInv.size {H2 H' : Hp} {st p : Addr} {wide many : Nat} {as : List Addr} {is : List Ins} (h : PInv H2 st p wide many as is H') : (as.map V.ref).length = is.length := by
  rw [List.length_map, Paired.len h.rows]
/-! ### what the parts of an instruction are -/
def Ins.shape : Ins → Str
  | .set _ _ => "rt"
  | .move _ _ => "rr"
  | .cons _ _ _ => "rrr"
  | .head _ _ => "rr"
  | .tail _ _ => "rr"
  | .jump _ _ => "rn"
def shapes : List (Str × Str) := [(("set" : Str), ("rt" : Str)), (("move" : Str), ("rr" : Str)), (("cons" : Str), ("rrr" : Str)), (("head" : Str), ("rr" : Str)), (("tail" : Str), ("rr" : Str)), (("jump" : Str), ("rn" : Str))]
theorem shapes_at (i : Ins) : shapes.lookup i.word = some i.shape := by
  cases i with
  | set a t => exact (by decide +kernel : shapes.lookup (Str.ofString "set") = some (Str.ofString "rt"))
  | move a b => exact (by decide +kernel : shapes.lookup (Str.ofString "move") = some (Str.ofString "rr"))
  | cons a b c => exact (by decide +kernel : shapes.lookup (Str.ofString "cons") = some (Str.ofString "rrr"))
  | head a b => exact (by decide +kernel : shapes.lookup (Str.ofString "head") = some (Str.ofString "rr"))
  | tail a b => exact (by decide +kernel : shapes.lookup (Str.ofString "tail") = some (Str.ofString "rr"))
  | jump a n => exact (by decide +kernel : shapes.lookup (Str.ofString "jump") = some (Str.ofString "rn"))
theorem s_rt : (Str.ofString "rt").cps.toList = [114, 116] := by decide +kernel
theorem s_rr : (Str.ofString "rr").cps.toList = [114, 114] := by decide +kernel
theorem s_rrr : (Str.ofString "rrr").cps.toList = [114, 114, 114] := by decide +kernel
theorem s_rn : (Str.ofString "rn").cps.toList = [114, 110] := by decide +kernel
/-- the kinds of the parts, as signs -/
def Ins.kinds : Ins → List Nat
  | .set _ _ => [114, 116]
  | .move _ _ => [114, 114]
  | .cons _ _ _ => [114, 114, 114]
  | .head _ _ => [114, 114]
  | .tail _ _ => [114, 114]
  | .jump _ _ => [114, 110]
theorem Ins.shape_kinds (i : Ins) : i.shape.cps.toList = i.kinds := by
  cases i with
  | set a t => exact s_rt
  | move a b => exact s_rr
  | cons a b c => exact s_rrr
  | head a b => exact s_rr
  | tail a b => exact s_rr
  | jump a n => exact s_rn
theorem Ins.kinds_len (i : Ins) : i.kinds.length = i.parts.length := by cases i <;> rfl
theorem Ins.part_is (i : Ins) {j c : Nat} {y : V} (h1 : i.kinds[j]? = some c) (h2 : i.parts[j]? = some y) : (∃ r, i.regs[j]? = some r ∧ c = 114 ∧ y = .int r) ∨ (i.regs.length ≤ j ∧ c ≠ 114) := by
  cases i <;> (match j, h1, h2 with
    | 0, h1, h2 => simp [Ins.kinds, Ins.parts] at h1 h2; subst h1 h2; exact .inl ⟨_, rfl, rfl, rfl⟩
    | 1, h1, h2 => simp [Ins.kinds, Ins.parts] at h1 h2; subst h1 h2; first | exact .inl ⟨_, rfl, rfl, rfl⟩ | exact .inr ⟨Nat.le_refl _, by decide⟩
    | 2, h1, h2 => simp [Ins.kinds, Ins.parts] at h1 h2 <;> (subst h1 h2; exact .inl ⟨_, rfl, rfl, rfl⟩)
    | j + 3, h1, h2 => simp [Ins.kinds, Ins.parts] at h1 h2)
/-- 1 more than the greatest register -/
def gst (g : Nat) (is : List Ins) : Nat := (is.flatMap Ins.regs).foldl max g
def wid (is : List Ins) : Nat := gst 0 is + 1
theorem gst_cons (g : Nat) (i : Ins) (r : List Ins) : gst g (i :: r) = gst (i.regs.foldl max g) r := by
  unfold gst
  rw [List.flatMap_cons, List.foldl_append]
theorem gst_take {is : List Ins} {k : Nat} {x : Ins} (g : Nat) (h : is[k]? = some x) : gst g (is.take (k + 1)) = x.regs.foldl max (gst g (is.take k)) := by
  unfold gst
  rw [List.take_add_one, h, List.flatMap_append, List.foldl_append]
  show List.foldl max _ (x.regs ++ []) = _
  rw [List.append_nil]
theorem rep_ref (n : Nat) (T : Addr) : (List.replicate n [V.ref T]).flatten = (List.replicate n T).map V.ref := by
  induction n with
  | zero => rfl
  | succ n ih =>
    rw [List.replicate_succ, List.flatten_cons, ih, List.replicate_succ, List.map_cons]
    rfl
theorem rows_rep {H : Hp} {T : Addr} {i : Ins} (h : H T = some (.tup i.vs)) : ∀ n : Nat, Rows H (List.replicate n T) (List.replicate n i)
  | 0 => .nil
  | n + 1 => by
    rw [List.replicate_succ, List.replicate_succ]
    exact .cons h (rows_rep h n)
theorem PgAt.nil {H : Hp} {p : Addr} (h : H p = some (.lst [])) : PgAt H p [] := ⟨[], h, .nil⟩
end Nx

/-! Any values, and what a program is among them. -/
namespace Nx
open PySem PySem.Spec PyProof.Rows L2
theorem iteT' {b : Bool} {A B : Prop} (h : b = true) (g : A) : if b = true then A else B := by
  rw [h]
  exact iteT g
theorem iteF' {b : Bool} {A B : Prop} (h : b = false) (g : B) : if b = true then A else B := by
  rw [h]
  exact iteF g
theorem bl_ne (x y : Bool) : (!decide (V.bl x = V.bl y)) = xor x y := by
  cases x <;> cases y <;> decide +kernel
theorem notI {b : Bool} {A B : Prop} (h : b = false → A) (g : b = true → B) : if (!b) = true then A else B := by
  cases b with
  | false => exact iteT (h rfl)
  | true => exact iteF (g rfl)
mutual
/-- a value that stands in H, made of lists and tuples -/
inductive Vd (H : Hp) : V → PyData → Prop where
  | non : Vd H .non .none
  | bl (b : Bool) : Vd H (.bl b) (.bool b)
  | int (i : Int) : Vd H (.int i) (.int i)
  | str (x : Str) (h : x.length ≤ sizeLine) : Vd H (.str x) (.str x)
  | lst {a : Addr} {xs : List V} {ds : List PyData} (h : H a = some (.lst xs)) (hl : xs.length ≤ 1000000) (r : VdA H xs ds) : Vd H (.ref a) (.list ds)
  | tup {a : Addr} {xs : List V} {ds : List PyData} (h : H a = some (.tup xs)) (hl : xs.length ≤ 1000000) (r : VdA H xs ds) : Vd H (.ref a) (.tuple ds)
inductive VdA (H : Hp) : List V → List PyData → Prop where
  | nil : VdA H [] []
  | cons {v : V} {vs : List V} {d : PyData} {ds : List PyData} (h : Vd H v d) (r : VdA H vs ds) : VdA H (v :: vs) (d :: ds)
end
mutual
theorem Vd.dp {K : PySem.W.Frag} {H : Hp} : ∀ {v : V} {d : PyData}, Vd H v d → Dp K H v d
  | _, _, .non => .non
  | _, _, .bl b => .bl b
  | _, _, .int i => .int i
  | _, _, .str x _ => .str x
  | _, _, .lst h _ r => .lst (SqL.of h) (VdA.dp r)
  | _, _, .tup h _ r => .tup (SqT.of h) (VdA.dp r)
theorem VdA.dp {K : PySem.W.Frag} {H : Hp} : ∀ {v : List V} {d : List PyData}, VdA H v d → DpAll K H v d
  | _, _, .nil => .nil
  | _, _, .cons h r => .cons (Vd.dp h) (VdA.dp r)
end
mutual
theorem Vd.same {H H' : Hp} (e : Same H H') : ∀ {v : V} {d : PyData}, Vd H v d → Vd H' v d
  | _, _, .non => .non
  | _, _, .bl b => .bl b
  | _, _, .int i => .int i
  | _, _, .str x h => .str x h
  | _, _, .lst h l r => .lst (e _ _ h) l (VdA.same e r)
  | _, _, .tup h l r => .tup (e _ _ h) l (VdA.same e r)
theorem VdA.same {H H' : Hp} (e : Same H H') : ∀ {v : List V} {d : List PyData}, VdA H v d → VdA H' v d
  | _, _, .nil => .nil
  | _, _, .cons h r => .cons (Vd.same e h) (VdA.same e r)
end
theorem VdA.len {H : Hp} : ∀ {vs : List V} {ds : List PyData}, VdA H vs ds → vs.length = ds.length
  | _, _, .nil => rfl
  | _, _, .cons _ r => congrArg (· + 1) (VdA.len r)
theorem VdA.get {H : Hp} : ∀ {vs : List V} {ds : List PyData} {i : Nat} {d : PyData}, VdA H vs ds → ds[i]? = some d → ∃ v, vs[i]? = some v ∧ Vd H v d
  | _, _, i, d, .nil, e => by simp at e
  | _, _, 0, d, .cons h _, e => ⟨_, rfl, by
    have : _ = d := Option.some.inj e
    rw [← this]
    exact h⟩
  | _, _, i + 1, d, .cons _ r, e => VdA.get (i := i) r e
theorem VdA.get' {H : Hp} : ∀ {vs : List V} {ds : List PyData} {i : Nat} {v : V}, VdA H vs ds → vs[i]? = some v → ∃ d, ds[i]? = some d ∧ Vd H v d
  | _, _, i, d, .nil, e => by simp at e
  | _, _, 0, d, .cons h _, e => ⟨_, rfl, by
    have : _ = d := Option.some.inj e
    rw [← this]
    exact h⟩
  | _, _, i + 1, d, .cons _ r, e => VdA.get' (i := i) r e
theorem VdA.drop {H : Hp} : ∀ {vs : List V} {ds : List PyData} (n : Nat), VdA H vs ds → VdA H (vs.drop n) (ds.drop n)
  | _, _, 0, h => h
  | _, _, _ + 1, .nil => .nil
  | _, _, n + 1, .cons _ r => VdA.drop n r
theorem VdA.take {H : Hp} : ∀ {vs : List V} {ds : List PyData} (n : Nat), VdA H vs ds → VdA H (vs.take n) (ds.take n)
  | _, _, 0, _ => .nil
  | _, _, _ + 1, .nil => .nil
  | _, _, n + 1, .cons h r => .cons h (VdA.take n r)
theorem VdA.app {H : Hp} : ∀ {vs ws : List V} {ds es : List PyData}, VdA H vs ds → VdA H ws es → VdA H (vs ++ ws) (ds ++ es)
  | _, _, _, _, .nil, s => s
  | _, _, _, _, .cons h r, s => .cons h (VdA.app r s)
/-! ### types -/
def tyD : PyData → String
  | .none => "NoneType"
  | .bool _ => "bool"
  | .int _ => "int"
  | .str _ => "str"
  | .list _ => "list"
  | .tuple _ => "tuple"
  | .dict _ => "dict"
def isL : PyData → Bool
  | .list _ => true
  | _ => false
def isTup : PyData → Bool
  | .tuple _ => true
  | _ => false
def isS : PyData → Bool
  | .str _ => true
  | _ => false
def isB : PyData → Bool
  | .bool _ => true
  | _ => false
def isI : PyData → Bool
  | .int _ => true
  | .bool _ => true
  | _ => false
theorem Vd.ty {K : PySem.W.Frag} {H : Hp} {v : V} {d : PyData} (h : Vd H v d) : TyX K H v (.type (tyD d)) := by
  cases h with
  | non => exact .base .non
  | bl b => exact .base (.bl b)
  | int i => exact .base (.int i)
  | str x _ => exact .base (.str x)
  | lst h _ _ => exact .base (.lst h)
  | tup h _ _ => exact .base (.tup h)
theorem kL {K : PySem.W.Frag} (d : PyData) : PySem.W.kitOne K (.type (tyD d)) (.type "list") = some (isL d) := kit_ty (by cases d <;> (simp only [tyD, isL]; decide +kernel))
theorem kT {K : PySem.W.Frag} (d : PyData) : PySem.W.kitOne K (.type (tyD d)) (.type "tuple") = some (isTup d) := kit_ty (by cases d <;> (simp only [tyD, isTup]; decide +kernel))
theorem kS {K : PySem.W.Frag} (d : PyData) : PySem.W.kitOne K (.type (tyD d)) (.type "str") = some (isS d) := kit_ty (by cases d <;> (simp only [tyD, isS]; decide +kernel))
theorem kB {K : PySem.W.Frag} (d : PyData) : PySem.W.kitOne K (.type (tyD d)) (.type "bool") = some (isB d) := kit_ty (by cases d <;> (simp only [tyD, isB]; decide +kernel))
theorem kI {K : PySem.W.Frag} (d : PyData) : PySem.W.kitOne K (.type (tyD d)) (.type "int") = some (isI d) := kit_ty (by cases d <;> (simp only [tyD, isI]; decide +kernel))
theorem lookup_mem {w sh : Str} : ∀ {l : List (Str × Str)}, l.lookup w = some sh → (w, sh) ∈ l
  | [], h => by cases h
  | (k, v) :: l, h => by
    rw [List.lookup_cons] at h
    by_cases c : w = k
    · subst c
      rw [beq_self_eq_true] at h
      rw [← Option.some.inj h]
      exact List.mem_cons_self ..
    · rw [beq_eq_false_iff_ne.mpr c] at h
      exact List.mem_cons_of_mem _ (lookup_mem h)
theorem shapes_len {w sh : Str} (h : shapes.lookup w = some sh) : 2 ≤ sh.length ∧ sh.length ≤ 3 := by
  have h1 := lookup_mem h
  have h2 : (shapes.all fun p => decide (2 ≤ p.2.length) && decide (p.2.length ≤ 3)) = true := by decide +kernel
  have h3 := List.all_eq_true.mp h2 _ h1
  rw [Bool.and_eq_true] at h3
  exact ⟨of_decide_eq_true h3.1, of_decide_eq_true h3.2⟩
theorem one_is {k : Nat} {x : Str} (c : Nat) (e : x = stS [c]) : decide (V.str ⟨#[k]⟩ = V.str x) = decide (k = c) := by
  rw [e, decide_eq_decide]
  constructor
  · intro z
    exact (List.cons.inj (stS_inj (V.str.inj z))).1
  · intro z
    rw [z]
    rfl
/-! ### what a program is -/
/-- a part of this kind (116 a tree, 114 a register, else a way) -/
def fitsD (k : Nat) (d : PyData) (i n : Int) : Bool :=
  if k = 116 then isS d else match d with
    | .int m => if k = 114 then decide (0 ≤ m) && decide (m < 20) else decide (0 ≤ i + m) && decide (i + m ≤ n)
    | _ => false
def rowD (d : PyData) (i n : Int) : Bool := match d with
  | .tuple (.str w :: ps) => match shapes.lookup w with
    | some sh => decide (ps.length = sh.length) && (sh.cps.toList.zip ps).all fun q => fitsD q.1 q.2 i n
    | none => false
  | _ => false
/-- the tree of an instruction -/
def treeD : PyData → Option Str
  | .tuple [.str w, _, .str t] => if w = (Str.ofString "set") then some t else none
  | _ => none
def rowsD (n : Int) : Int → List PyData → Bool
  | _, [] => true
  | i, d :: r => rowD d i n && rowsD n (i + 1) r
theorem rowsD_iff (n : Int) : ∀ (i : Int) (ds : List PyData), rowsD n i ds = true ↔ ∀ (j : Nat) (d : PyData), ds[j]? = some d → rowD d (i + j) n = true
  | i, [] => ⟨fun _ j d h => by simp at h, fun _ => rfl⟩
  | i, x :: r => by
    show (rowD x i n && rowsD n (i + 1) r) = true ↔ _
    rw [Bool.and_eq_true, rowsD_iff n (i + 1) r]
    constructor
    · rintro ⟨h1, h2⟩ j d h
      cases j with
      | zero =>
        have e : x = d := Option.some.inj h
        rw [← e]
        rw [show i + ((0 : Nat) : Int) = i by omega]
        exact h1
      | succ j =>
        have := h2 j d h
        rw [show i + ((j + 1 : Nat) : Int) = i + 1 + j by omega]
        exact this
    · intro h
      refine ⟨?_, fun j d hd => ?_⟩
      · have := h 0 x rfl
        rw [show i + ((0 : Nat) : Int) = i by omega] at this
        exact this
      · have := h (j + 1) d hd
        rw [show i + ((j + 1 : Nat) : Int) = i + 1 + j by omega] at this
        exact this
def progOk (d : PyData) : Bool := match d with
  | .list ds => decide (ds.length ≤ 600) && (rowsD ds.length 0 ds && (decide (((ds.filterMap treeD).map Str.length).sum ≤ 200000) && (ds.filterMap treeD).all fun t => isT t.cps.toList))
  | _ => false
theorem row_form {d : PyData} {i n : Int} (h : rowD d i n = true) : ∃ w ps, d = .tuple (.str w :: ps) ∧ ((w = Str.ofString "set" ∧ ∃ p0 t, ps = [p0, .str t] ∧ treeD d = some t) ∨ (w ≠ Str.ofString "set" ∧ treeD d = none)) := by
  cases d with
  | tuple ds =>
    cases ds with
    | nil => cases h
    | cons d0 ps =>
      cases d0 with
      | str w =>
        refine ⟨w, ps, rfl, ?_⟩
        by_cases c : w = Str.ofString "set"
        · refine .inl ⟨c, ?_⟩
          have h1 : shapes.lookup w = some (Str.ofString "rt") := by
            rw [c]
            decide +kernel
          have h2 : (match shapes.lookup w with | some sh => decide (ps.length = sh.length) && (sh.cps.toList.zip ps).all (fun q => fitsD q.1 q.2 i n) | none => false) = true := h
          rw [h1] at h2
          have h3 : decide (ps.length = (Str.ofString "rt").length) && ((Str.ofString "rt").cps.toList.zip ps).all (fun q => fitsD q.1 q.2 i n) := h2
          rw [s_rt, show (Str.ofString "rt").length = 2 by decide +kernel] at h3
          match ps, h3 with
          | [p0, p1], h3 =>
            have h4 : fitsD 114 p0 i n = true ∧ fitsD 116 p1 i n = true := by simpa using h3
            have h5 : isS p1 = true := h4.2
            cases p1 with
            | str t =>
              refine ⟨p0, t, rfl, ?_⟩
              show (if w = Str.ofString "set" then some t else none) = some t
              rw [if_pos c]
            | _ => cases h5
          | [], h3 => cases h3
          | [p0], h3 => cases h3
          | p0 :: p1 :: p2 :: r, h3 =>
            have : decide ((p0 :: p1 :: p2 :: r).length = 2) = false := decide_eq_false (by simp)
            rw [this] at h3
            cases h3
        · refine .inr ⟨c, ?_⟩
          unfold treeD
          split
          · rename_i w2 p0 t e
            have : w = w2 := by
              injection e with e
              injection e with e1 e2
              injection e1
            rw [← this, if_neg c]
          · rfl
      | _ => cases h
  | _ => cases h
theorem Vd.row {H : Hp} {y : V} {w : Str} {ps : List PyData} (h : Vd H y (.tuple (.str w :: ps))) : ∃ T us, y = .ref T ∧ H T = some (.tup (.str w :: us)) ∧ VdA H us ps ∧ w.length ≤ sizeLine := by
  cases h with
  | tup h _ r =>
    cases r with
    | cons h0 r =>
      cases h0 with
      | str _ hw => exact ⟨_, _, rfl, h, r, hw⟩
theorem take_fm {α β : Type} {f : α → Option β} {l : List α} {j : Nat} {d : α} (h : l[j]? = some d) : (l.take (j + 1)).filterMap f = (l.take j).filterMap f ++ (f d).toList := by
  rw [List.take_add_one, h, List.filterMap_append]
  show _ ++ List.filterMap f [d] = _
  cases e : f d <;> simp [List.filterMap, e]
/-! ### tuples cut and put together -/
theorem sl_any {K : PySem.W.Frag} {H : Hp} {a : Addr} {xs : List V} {lo hi : Option Int} {Q : VK} (h : H a = some (.tup xs)) (q : ∀ b H', Same H H' → H' b = some (.tup (cutV xs lo hi)) → Q (.ref b) H') : rSlA K (.ref a) lo hi H Q := by
  refine ⟨a, xs, rfl, SqT.of h, fun hw => q a H (.refl _) ?_, fun _ p np => q p _ (Same.upd np) upd_same⟩
  have : cutV xs lo hi = xs := by
    unfold cutV
    rw [hw.1, hw.2, List.drop_zero, Nat.sub_zero]
    exact List.take_of_length_le (Nat.le_refl _)
  rw [this]
  exact h
theorem cat_any {K : PySem.W.Frag} {H : Hp} {a b : Addr} {xs ys : List V} {Q : VK} (h : H a = some (.tup xs)) (g : H b = some (.tup ys)) (hz : xs.length + ys.length ≤ sizeLine) (q : ∀ c H', Same H H' → H' c = some (.tup (xs ++ ys)) → Q (.ref c) H') : rCatA K (.ref a) (.ref b) H Q := by
  refine ⟨a, b, xs, ys, rfl, rfl, SqT.of h, SqT.of g, hz, fun e => q b H (.refl _) ?_, fun _ e => q a H (.refl _) ?_, fun _ _ p np => q p _ (Same.upd np) upd_same⟩
  · rw [e]
    exact g
  · rw [e, List.append_nil]
    exact h
theorem cutV_from (xs : List V) (k : Nat) : cutV xs (some (k : Int)) none = xs.drop k := by
  show (xs.drop (HT.sIx xs.length 0 (some (k : Int)))).take (xs.length - HT.sIx xs.length 0 (some (k : Int))) = _
  rw [HT.sIx_nat]
  by_cases h : k ≤ xs.length
  · rw [Nat.min_eq_left h]
    exact List.take_of_length_le (by rw [List.length_drop]; omega)
  · rw [Nat.min_eq_right (by omega), List.drop_of_length_le (Nat.le_refl _), List.drop_of_length_le (by omega), List.take_nil]
theorem cutV_to (xs : List V) (k : Nat) : cutV xs none (some (k : Int)) = xs.take k := by
  show (xs.drop 0).take (HT.sIx xs.length xs.length (some (k : Int)) - 0) = _
  rw [HT.sIx_nat, List.drop_zero, Nat.sub_zero]
  by_cases h : k ≤ xs.length
  · rw [Nat.min_eq_left h]
  · rw [Nat.min_eq_right (by omega), List.take_of_length_le (Nat.le_refl _), List.take_of_length_le (by omega)]
theorem cutV_two (xs : List V) (j k : Nat) : cutV xs (some (j : Int)) (some (k : Int)) = (xs.drop j).take (k - j) := by
  show (xs.drop (HT.sIx xs.length 0 (some (j : Int)))).take (HT.sIx xs.length xs.length (some (k : Int)) - HT.sIx xs.length 0 (some (j : Int))) = _
  rw [HT.sIx_nat, HT.sIx_nat]
  by_cases h : j ≤ xs.length
  · rw [Nat.min_eq_left h]
    by_cases g : k ≤ xs.length
    · rw [Nat.min_eq_left g]
    · rw [Nat.min_eq_right (by omega), List.take_of_length_le (by rw [List.length_drop]; omega), List.take_of_length_le (by rw [List.length_drop]; omega)]
  · rw [Nat.min_eq_right (show xs.length ≤ j by omega), List.drop_of_length_le (Nat.le_refl _), List.drop_of_length_le (show xs.length ≤ j by omega), List.take_nil, List.take_nil]
theorem cutV_1 (x : V) (xs : List V) : cutV (x :: xs) (some 1) none = xs := cutV_from (x :: xs) 1
theorem cutV_12 (x y : V) (xs : List V) : cutV (x :: y :: xs) (some 1) (some 2) = [y] := cutV_two (x :: y :: xs) 1 2
/-! ### an instruction, told in another way -/
def treeB : PyData → Bool
  | .str x => isT x.cps.toList
  | _ => false
def regD (d : PyData) : Bool := match d with
  | .int m => decide (0 ≤ m) && decide (m ≤ 19)
  | _ => false
def regVb (v : V) : Bool := match v with
  | .int m => decide (0 ≤ m) && decide (m ≤ 19)
  | _ => false
theorem VdA.regs {H : Hp} : ∀ {vs : List V} {ds : List PyData}, VdA H vs ds → vs.all regVb = ds.all regD
  | _, _, .nil => rfl
  | _, _, .cons h r => by
    rw [List.all_cons, List.all_cons, VdA.regs r]
    congr 1
    cases h <;> rfl
theorem VdA.mem {H : Hp} {vs : List V} {ds : List PyData} {v : V} (h : VdA H vs ds) (m : v ∈ vs) : ∃ d, Vd H v d := by
  obtain ⟨i, hi⟩ := List.getElem?_of_mem m
  obtain ⟨d, _, hd⟩ := h.get' hi
  exact ⟨d, hd⟩
theorem fits_reg (d : PyData) (i n : Int) : fitsD 114 d i n = regD d := by
  cases d with
  | int m =>
    show (decide (0 ≤ m) && decide (m < 20)) = (decide (0 ≤ m) && decide (m ≤ 19))
    rw [show decide (m < 20) = decide (m ≤ 19) from decide_eq_decide.mpr (by omega)]
  | _ => rfl
def rowL (d : PyData) (i n : Int) : Bool := rowD d i n && (treeD d).all fun t => isT t.cps.toList
theorem rowL_no {d : PyData} {i n : Int} (h : rowD d i n = false) : rowL d i n = false := by
  unfold rowL
  rw [h]
  rfl
theorem shapes_cases {w sh : Str} (h : shapes.lookup w = some sh) : (w = Str.ofString "set" ∧ sh.cps.toList = [114, 116]) ∨ (w = Str.ofString "cons" ∧ sh.cps.toList = [114, 114, 114]) ∨ (w = Str.ofString "jump" ∧ sh.cps.toList = [114, 110]) ∨
    ((w ≠ Str.ofString "set" ∧ w ≠ Str.ofString "cons" ∧ w ≠ Str.ofString "jump") ∧ sh.cps.toList = [114, 114]) := by
  have h1 := lookup_mem h
  unfold shapes at h1
  simp only [List.mem_cons, Prod.mk.injEq, List.not_mem_nil, or_false] at h1
  rcases h1 with ⟨rfl, rfl⟩ | ⟨rfl, rfl⟩ | ⟨rfl, rfl⟩ | ⟨rfl, rfl⟩ | ⟨rfl, rfl⟩ | ⟨rfl, rfl⟩
  · exact .inl ⟨rfl, by decide +kernel⟩
  · exact .inr (.inr (.inr (by decide +kernel)))
  · exact .inr (.inl ⟨rfl, by decide +kernel⟩)
  · exact .inr (.inr (.inr (by decide +kernel)))
  · exact .inr (.inr (.inr (by decide +kernel)))
  · exact .inr (.inr (.inl ⟨rfl, by decide +kernel⟩))
theorem rowD_is {w sh : Str} (h : shapes.lookup w = some sh) (ps : List PyData) (i n : Int) : rowD (.tuple (.str w :: ps)) i n = (decide (ps.length = sh.cps.toList.length) && (sh.cps.toList.zip ps).all fun q => fitsD q.1 q.2 i n) := by
  show (match shapes.lookup w with | some sh => decide (ps.length = sh.length) && (sh.cps.toList.zip ps).all (fun q => fitsD q.1 q.2 i n) | none => false) = _
  rw [h]
  show (decide (ps.length = sh.cps.size) && _) = _
  rw [← Array.length_toList]
theorem rowD_none {w : Str} (h : shapes.lookup w = none) (ps : List PyData) (i n : Int) : rowD (.tuple (.str w :: ps)) i n = false := by
  show (match shapes.lookup w with | some sh => decide (ps.length = sh.length) && (sh.cps.toList.zip ps).all (fun q => fitsD q.1 q.2 i n) | none => false) = _
  rw [h]
theorem inV_lookup (w : Str) : ∀ l : List (Str × Str), inV (.str w) (l.map fun p => V.str p.1) = (l.lookup w).isSome
  | [] => rfl
  | (k, v) :: l => by
    show ((k == w) || inV (.str w) (l.map fun p => V.str p.1)) = _
    rw [inV_lookup w l, List.lookup_cons]
    by_cases c : w = k
    · rw [c, beq_self_eq_true]
      rfl
    · rw [beq_eq_false_iff_ne.mpr c, beq_eq_false_iff_ne.mpr (fun z => c z.symm)]
      rfl
theorem treeD_set {w : Str} {p0 p1 : PyData} (h : w = Str.ofString "set") : (treeD (.tuple [.str w, p0, p1])).all (fun t => isT t.cps.toList) = (!isS p1 || treeB p1) := by
  cases p1 with
  | str t =>
    show Option.all _ (if w = Str.ofString "set" then some t else none) = _
    rw [if_pos h]
    rfl
  | _ => rfl
theorem treeD_no {w : Str} (ps : List PyData) (h : w ≠ Str.ofString "set") : treeD (.tuple (.str w :: ps)) = none := by
  unfold treeD
  split
  · rename_i w2 p0 t e
    have : w = w2 := by
      injection e with e
      injection e with e1 e2
      injection e1
    rw [← this, if_neg h]
  · rfl
/-- the three forms -/
theorem rowL_set {w : Str} (h : w = Str.ofString "set") (p0 p1 : PyData) (i n : Int) : rowL (.tuple [.str w, p0, p1]) i n = (regD p0 && treeB p1) := by
  have hl : shapes.lookup w = some (Str.ofString "rt") := by
    rw [h]
    decide +kernel
  unfold rowL
  rw [rowD_is hl, s_rt, treeD_set h]
  show ((true && (fitsD 114 p0 i n && (fitsD 116 p1 i n && true))) && (!isS p1 || treeB p1)) = _
  rw [fits_reg, show fitsD 116 p1 i n = isS p1 from rfl]
  cases p1 with
  | str t => cases regD p0 <;> rfl
  | _ => cases regD p0 <;> rfl
theorem rowL_jump {w : Str} (h : w = Str.ofString "jump") (p0 p1 : PyData) (i n : Int) : rowL (.tuple [.str w, p0, p1]) i n = (fitsD 110 p1 i n && regD p0) := by
  have hl : shapes.lookup w = some (Str.ofString "rn") := by
    rw [h]
    decide +kernel
  unfold rowL
  rw [rowD_is hl, s_rn, treeD_no _ (by rw [h]; decide +kernel)]
  show ((true && (fitsD 114 p0 i n && (fitsD 110 p1 i n && true))) && true) = _
  rw [fits_reg]
  cases regD p0 <;> cases fitsD 110 p1 i n <;> rfl
theorem rowL_regs {w sh : Str} (h : shapes.lookup w = some sh) (ns : w ≠ Str.ofString "set") (ps : List PyData) (i n : Int) (hk : sh.cps.toList = List.replicate ps.length 114) : rowL (.tuple (.str w :: ps)) i n = ps.all regD := by
  unfold rowL
  rw [rowD_is h, hk, treeD_no _ ns, List.length_replicate, decide_eq_true rfl, Bool.true_and, show Option.all _ none = true from rfl, Bool.and_true]
  clear h hk
  induction ps with
  | nil => rfl
  | cons x r ih =>
    show (fitsD 114 x i n && ((List.replicate r.length 114).zip r).all _) = _
    rw [fits_reg, ih]
    rfl
/-! ### what the law says a program is -/
def dueB (ds : List PyData) : List Bool := (List.range ds.length).map fun j => rowL (ds.getD j .none) j ds.length
def dueD (d : PyData) : Bool := match d with
  | .list ds => decide (ds.length ≤ 600) && (dueB ds).all id
  | _ => false
/-! ### small values, and what stands beside the row of drawn numbers -/
def okD (n : Nat) (d : PyData) : Prop := d.canLay0 = true ∧ d.depth ≤ n ∧ ∀ x, d = .str x → x.length ≤ 10
def okA (n : Nat) (ds : List PyData) : Prop := ∀ d ∈ ds, okD n d
theorem okA.lay {n : Nat} : ∀ {ds : List PyData}, okA n ds → PyData.canLayAll0 ds = true
  | [], _ => rfl
  | d :: r, h => by
    show (d.canLay0 && PyData.canLayAll0 r) = true
    rw [(h d (List.mem_cons_self ..)).1, okA.lay (n := n) fun x hx => h x (List.mem_cons_of_mem _ hx)]
    rfl
theorem okA.deep {n : Nat} : ∀ {ds : List PyData}, okA n ds → PyData.depthAll ds ≤ n
  | [], _ => Nat.zero_le _
  | d :: r, h => by
    show max d.depth (PyData.depthAll r) ≤ n
    have h1 := (h d (List.mem_cons_self ..)).2.1
    have h2 := okA.deep (n := n) (ds := r) fun x hx => h x (List.mem_cons_of_mem _ hx)
    omega
theorem okA.tup {n : Nat} {ds : List PyData} (h : okA n ds) : okD (n + 1) (.tuple ds) := ⟨h.lay, Nat.succ_le_succ h.deep, fun x z => by cases z⟩
theorem okA.lst {n : Nat} {ds : List PyData} (h : okA n ds) : okD (n + 1) (.list ds) := ⟨h.lay, Nat.succ_le_succ h.deep, fun x z => by cases z⟩
theorem okA.app {n : Nat} {a b : List PyData} (h : okA n a) (g : okA n b) : okA n (a ++ b) := fun d hd => (List.mem_append.mp hd).elim (h d) (g d)
theorem okA.take {n : Nat} {a : List PyData} (k : Nat) (h : okA n a) : okA n (a.take k) := fun d hd => h d (List.mem_of_mem_take hd)
theorem okA.drop {n : Nat} {a : List PyData} (k : Nat) (h : okA n a) : okA n (a.drop k) := fun d hd => h d (List.mem_of_mem_drop hd)
theorem okA.nil {n : Nat} : okA n [] := fun d hd => by cases hd
theorem okA.cons {n : Nat} {d : PyData} {ds : List PyData} (h : okD n d) (g : okA n ds) : okA n (d :: ds) := fun x hx => (List.mem_cons.mp hx).elim (fun z => z ▸ h) (g x)
theorem okD.up {n m : Nat} {d : PyData} (h : okD n d) (k : n ≤ m) : okD m d := ⟨h.1, Nat.le_trans h.2.1 k, h.2.2⟩
theorem okA.up {n m : Nat} {d : List PyData} (h : okA n d) (k : n ≤ m) : okA m d := fun x hx => (h x hx).up k
theorem okD.non {n : Nat} : okD n .none := ⟨rfl, Nat.zero_le _, fun x z => by cases z⟩
theorem okD.bl {n : Nat} (b : Bool) : okD n (.bool b) := ⟨rfl, Nat.zero_le _, fun x z => by cases z⟩
theorem okD.int {n : Nat} (i : Int) : okD n (.int i) := ⟨rfl, Nat.zero_le _, fun x z => by cases z⟩
theorem okD.str {n : Nat} {x : Str} (h : PyData.strOk x = true) (g : x.length ≤ 10) : okD n (.str x) := ⟨h, Nat.zero_le _, fun y z => by
  injection z with z
  rw [← z]
  exact g⟩
theorem okD.shaped {n : Nat} {d : PyData} (h : okD n d) (k : n ≤ 64) : SeqAt.shaped d = true := by
  show (d.canLay0 && decide (d.depth ≤ 64)) = true
  rw [h.1, decide_eq_true (Nat.le_trans h.2.1 k)]
  rfl
/-- no great tree in it -/
def tinyD (d : PyData) : Prop := ∀ t, treeD d = some t → t.length ≤ 10
theorem treeD_some {d : PyData} {t : Str} (h : treeD d = some t) : ∃ w p0, d = .tuple [.str w, p0, .str t] := by
  unfold treeD at h
  split at h
  · rename_i w p0 t2
    by_cases c : w = Str.ofString "set"
    · rw [if_pos c] at h
      rw [← Option.some.inj h]
      exact ⟨_, _, rfl⟩
    · rw [if_neg c] at h
      cases h
  · cases h
theorem okA.tiny {n : Nat} {ds : List PyData} (h : okA n ds) : tinyD (.tuple ds) := fun t ht => by
  obtain ⟨w, p0, e⟩ := treeD_some ht
  injection e with e
  exact (h (.str t) (by rw [e]; simp)).2.2 t rfl
def goodR (d : PyData) : Prop := okD 3 d ∧ tinyD d
def goodV (d : PyData) : Prop := SeqAt.shaped d = true ∧ ∀ ds, d = .list ds → ds.length ≤ 9 ∧ ∀ x ∈ ds, tinyD x
theorem okA.goodR {n : Nat} {ds : List PyData} (h : okA n ds) (k : n ≤ 2) : goodR (.tuple ds) := ⟨h.tup.up (by omega), h.tiny⟩
theorem goodR.of {d : PyData} (h : okD 3 d) (g : ∀ ds, d ≠ .tuple ds) : Nx.goodR d := ⟨h, fun t ht => by
  obtain ⟨w, p0, e⟩ := treeD_some ht
  exact absurd e (g _)⟩
theorem goodV.of {d : PyData} {n : Nat} (h : okD n d) (k : n ≤ 64) (g : ∀ ds, d ≠ .list ds) : Nx.goodV d := ⟨h.shaped k, fun ds e => absurd e (g ds)⟩
theorem goodV.lst {ds : List PyData} (h : ∀ x ∈ ds, goodR x) (g : ds.length ≤ 9) : Nx.goodV (.list ds) := ⟨(okA.lst (n := 3) fun d hd => (h d hd).1).shaped (by decide), fun ds' e => by
  injection e with e
  rw [← e]
  exact ⟨g, fun x hx => (h x hx).2⟩⟩
/-- all but what stands at st -/
def off (st : Addr) (H : Hp) : Hp := fun a => if a = st then none else H a
theorem off_at {st a : Addr} {H : Hp} (h : a ≠ st) : off st H a = H a := if_neg h
theorem off_same {st : Addr} {H : Hp} : Same (off st H) H := fun a o h => by
  by_cases c : a = st
  · rw [Nx.off, if_pos c] at h
    cases h
  · rw [off_at c] at h
    exact h
theorem ExS.offS {st : Addr} {H H' : Hp} (e : ExS st H H') : Same (Nx.off st H) (Nx.off st H') := fun a o h => by
  by_cases c : a = st
  · rw [Nx.off, if_pos c] at h
    cases h
  · rw [off_at c] at h ⊢
    exact e a o c h
theorem _root_.L2.Same.offS {st : Addr} {H H' : Hp} (e : Same H H') : Same (Nx.off st H) (Nx.off st H') := e.exs.offS
theorem off_new {st p : Addr} {H : Hp} {o : HO} (h : Strm H st) (np : H p = none) : off st (upd H p o) p = some o := by
  rw [off_at (h.ne np)]
  exact upd_same
theorem off_tup {st b : Addr} {H : Hp} {xs : List V} (h : Strm H st) (e : H b = some (.tup xs)) : off st H b = some (.tup xs) := by
  rw [off_at]
  · exact e
  · rintro rfl
    obtain ⟨l, ns, c, i, m, h1, _⟩ := h
    rw [h1] at e
    cases e
theorem vdT {st b : Addr} {H : Hp} {xs : List V} {ds : List PyData} (h : Strm H st) (e : H b = some (.tup xs)) (hl : xs.length ≤ 1000000) (r : VdA (off st H) xs ds) : Vd (off st H) (.ref b) (.tuple ds) := .tup (off_tup h e) hl r
theorem le6 {n m : Nat} (h : Nat.ble n m = true) : n ≤ m := Nat.le_of_ble_eq_true h
theorem off_upd {D : Addr} {H : Hp} {o : HO} : off D (upd H D o) = off D H := by
  funext a
  by_cases c : a = D
  · rw [Nx.off, Nx.off, if_pos c, if_pos c]
  · rw [off_at c, off_at c, upd_ne c]
theorem same_off {D : Addr} {H : Hp} (h : H D = none) : Same H (off D H) := fun a o e => by
  rw [off_at (ne_of_none e h)]
  exact e
/-- how great the tree of an instruction is -/
def Ins.big : Ins → Nat
  | .set _ t => t.sg.length
  | _ => 0
theorem Ins.word_len (i : Ins) : i.word.length ≤ 4 := by
  cases i with
  | set a t => exact (by decide +kernel : (Str.ofString "set").length ≤ 4)
  | move a b => exact (by decide +kernel : (Str.ofString "move").length ≤ 4)
  | cons a b c => exact (by decide +kernel : (Str.ofString "cons").length ≤ 4)
  | head a b => exact (by decide +kernel : (Str.ofString "head").length ≤ 4)
  | tail a b => exact (by decide +kernel : (Str.ofString "tail").length ≤ 4)
  | jump a n => exact (by decide +kernel : (Str.ofString "jump").length ≤ 4)
theorem Ins.vda {H : Hp} (i : Ins) (h : i.big ≤ sizeLine) : VdA H i.vs (.str i.word :: i.dparts) := by
  have hz : sizeLine = 16777216 := rfl
  refine .cons (.str _ (by have := i.word_len; omega)) ?_
  cases i with
  | set a t => exact .cons (.int _) (.cons (.str _ (by rw [t.str_len]; exact h)) .nil)
  | move a b => exact .cons (.int _) (.cons (.int _) .nil)
  | cons a b c => exact .cons (.int _) (.cons (.int _) (.cons (.int _) .nil))
  | head a b => exact .cons (.int _) (.cons (.int _) .nil)
  | tail a b => exact .cons (.int _) (.cons (.int _) .nil)
  | jump a n => exact .cons (.int _) (.cons (.int _) .nil)
theorem Ins.vs_len (i : Ins) : 3 ≤ i.vs.length ∧ i.vs.length ≤ 4 := by
  cases i <;> (simp only [Ins.vs, Ins.parts, List.length_cons, List.length_nil]; omega)
theorem Ins.vd {H : Hp} {a : Addr} {i : Ins} (h : H a = some (.tup i.vs)) (hb : i.big ≤ sizeLine) : Vd H (.ref a) i.data := .tup h (by have := i.vs_len; omega) (i.vda hb)
theorem rows_vd {H : Hp} : ∀ {as : List Addr} {is : List Ins}, Rows H as is → (∀ i ∈ is, i.big ≤ sizeLine) → VdA H (as.map V.ref) (is.map Ins.data)
  | _, _, .nil, _ => .nil
  | _, _, .cons r t, h => .cons (Ins.vd r (h _ (List.mem_cons_self ..))) (rows_vd t fun i hi => h i (List.mem_cons_of_mem _ hi))
theorem rows_off {st : Addr} {H : Hp} {as : List Addr} {is : List Ins} (s : Strm H st) (h : Rows H as is) : Rows (off st H) as is := Paired.imp (fun a i q => by
  rw [off_at]
  · exact q
  · rintro rfl
    obtain ⟨l, ns, c, i, m, h1, _⟩ := s
    rw [h1] at q
    cases q) h
theorem Ins.okA (i : Ins) (h : i.big ≤ 10) : Nx.okA 0 (.str i.word :: i.dparts) := by
  refine .cons (.str i.word_ok (by have := i.word_len; omega)) ?_
  cases i with
  | set a t => exact .cons (.int _) (.cons (.str (strOk_01 t.sg_01) (by rw [t.str_len]; exact h)) .nil)
  | move a b => exact .cons (.int _) (.cons (.int _) .nil)
  | cons a b c => exact .cons (.int _) (.cons (.int _) (.cons (.int _) .nil))
  | head a b => exact .cons (.int _) (.cons (.int _) .nil)
  | tail a b => exact .cons (.int _) (.cons (.int _) .nil)
  | jump a n => exact .cons (.int _) (.cons (.int _) .nil)
theorem PgOk.big {w k : Nat} {is : List Ins} (h : PgOk w k is) : ∀ i ∈ is, i.big ≤ 2 * k + 1 := fun i hi => by
  obtain ⟨j, hj⟩ := List.getElem?_of_mem hi
  have := h j i hj
  cases i with
  | set a t =>
    have h1 := t.sg_len
    have h2 : t.pairs ≤ k := this.2
    show t.sg.length ≤ _
    omega
  | _ => exact Nat.zero_le _
/-- one of some values, at an open place -/
theorem ixL_vd {K : PySem.W.Frag} {H O : Hp} {p : Addr} {xs : List V} {ds : List PyData} {k : Nat} {Q : VK} (h : H p = some (.lst xs)) (r : VdA O xs ds) (hk : k < xs.length) (q : ∀ v d, d ∈ ds → Vd O v d → Q v H) : rIxL K (.ref p) (.int k) H Q := by
  obtain ⟨d, hd, hv⟩ := r.get' (List.getElem?_eq_getElem hk)
  exact ⟨p, xs, k, _, rfl, rfl, SqL.of h, atI_nat (List.getElem?_eq_getElem hk), q _ d (List.mem_of_getElem? hd) hv⟩
/-! ### programs among the values -/
def Ins.tree : Ins → Option Tr
  | .set _ t => some t
  | _ => none
def treesSum (is : List Ins) : Nat := ((is.filterMap Ins.tree).map fun t => t.sg.length).sum
theorem Ins.treeD (i : Ins) : Nx.treeD i.data = i.tree.map Tr.str := by
  cases i with
  | set a t =>
    show (if Str.ofString "set" = Str.ofString "set" then some t.str else none) = _
    rw [if_pos rfl]
    rfl
  | move a b => exact treeD_no _ (by decide +kernel : Str.ofString "move" ≠ Str.ofString "set")
  | cons a b c => exact treeD_no _ (by decide +kernel : Str.ofString "cons" ≠ Str.ofString "set")
  | head a b => exact treeD_no _ (by decide +kernel : Str.ofString "head" ≠ Str.ofString "set")
  | tail a b => exact treeD_no _ (by decide +kernel : Str.ofString "tail" ≠ Str.ofString "set")
  | jump a n => exact treeD_no _ (by decide +kernel : Str.ofString "jump" ≠ Str.ofString "set")
theorem fm_trees : ∀ is : List Ins, (is.map Ins.data).filterMap treeD = (is.filterMap Ins.tree).map Tr.str
  | [] => rfl
  | i :: r => by
    rw [List.map_cons, List.filterMap_cons, List.filterMap_cons, i.treeD]
    cases e : i.tree with
    | none => exact fm_trees r
    | some t =>
      show t.str :: _ = t.str :: _
      rw [fm_trees r]
theorem Ins.data_eq (i : Ins) : i.data = .tuple (.str i.word :: i.dparts) := rfl
theorem Ins.rowD {w k n j : Nat} {i : Ins} (h : i.ok w k j n) (hw : w ≤ 20) : Nx.rowD i.data j n = true := by
  rw [i.data_eq, rowD_is (shapes_at i), i.shape_kinds]
  have r : ∀ a : Nat, a < w → ∀ j n, fitsD 114 (.int a) j n = true := fun a ha j n => by
    show (decide (0 ≤ (a : Int)) && decide ((a : Int) < 20)) = true
    rw [decide_eq_true (by omega), decide_eq_true (by omega)]
    rfl
  cases i with
  | set a t =>
    show (true && (fitsD 114 (.int a) j n && (fitsD 116 (.str t.str) j n && true))) = true
    rw [r a h.1]
    rfl
  | move a b =>
    show (true && (fitsD 114 (.int a) j n && (fitsD 114 (.int b) j n && true))) = true
    rw [r a h.1, r b h.2]
    rfl
  | cons a b c =>
    show (true && (fitsD 114 (.int a) j n && (fitsD 114 (.int b) j n && (fitsD 114 (.int c) j n && true)))) = true
    rw [r a h.1, r b h.2.1, r c h.2.2]
    rfl
  | head a b =>
    show (true && (fitsD 114 (.int a) j n && (fitsD 114 (.int b) j n && true))) = true
    rw [r a h.1, r b h.2]
    rfl
  | tail a b =>
    show (true && (fitsD 114 (.int a) j n && (fitsD 114 (.int b) j n && true))) = true
    rw [r a h.1, r b h.2]
    rfl
  | jump a m =>
    show (true && (fitsD 114 (.int a) j n && ((decide (0 ≤ (j : Int) + m) && decide ((j : Int) + m ≤ n)) && true))) = true
    rw [r a h.1, decide_eq_true h.2.1, decide_eq_true h.2.2]
    rfl
theorem progOk_is {w k : Nat} {is : List Ins} (h : PgOk w k is) (hw : w ≤ 20) : progOk (progD is) = (decide (is.length ≤ 600) && decide (treesSum is ≤ 200000)) := by
  show (decide ((is.map Ins.data).length ≤ 600) && (rowsD (is.map Ins.data).length 0 (is.map Ins.data) && (decide ((((is.map Ins.data).filterMap treeD).map Str.length).sum ≤ 200000) && ((is.map Ins.data).filterMap treeD).all fun t => isT t.cps.toList))) = _
  rw [fm_trees, List.length_map]
  have e1 : rowsD is.length 0 (is.map Ins.data) = true := (rowsD_iff _ _ _).mpr fun j d hd => by
    rw [List.getElem?_map] at hd
    cases e : is[j]? with
    | none =>
      rw [e] at hd
      cases hd
    | some i =>
      rw [e] at hd
      rw [← Option.some.inj hd, Int.zero_add]
      exact Ins.rowD (h j i e) hw
  have e2 : (((is.filterMap Ins.tree).map Tr.str).all fun t => isT t.cps.toList) = true := by
    rw [List.all_eq_true]
    intro x hx
    obtain ⟨t, _, rfl⟩ := List.mem_map.mp hx
    exact isT_sg t
  have e3 : (((is.filterMap Ins.tree).map Tr.str).map Str.length).sum = treesSum is := by
    unfold treesSum
    rw [List.map_map]
    rfl
  rw [e1, e2, e3, Bool.true_and, Bool.and_true]
theorem sum_le {α : Type} (f : α → Nat) (m : Nat) : ∀ l : List α, (∀ x ∈ l, f x ≤ m) → (l.map f).sum ≤ l.length * m
  | [], _ => Nat.zero_le _
  | x :: r, h => by
    have h1 := h x (List.mem_cons_self ..)
    have h2 := sum_le f m r fun y hy => h y (List.mem_cons_of_mem _ hy)
    rw [List.map_cons, List.sum_cons, List.length_cons, Nat.succ_mul]
    omega
theorem treesSum_le {w k : Nat} {is : List Ins} (h : PgOk w k is) : treesSum is ≤ is.length * (2 * k + 1) := by
  refine Nat.le_trans (sum_le _ (2 * k + 1) _ fun t ht => ?_) (Nat.mul_le_mul_right _ (List.length_filterMap_le ..))
  obtain ⟨i, hi, e⟩ := List.mem_filterMap.mp ht
  have := h.big i hi
  cases i with
  | set a t2 =>
    rw [← Option.some.inj e]
    exact this
  | _ => cases e
theorem progOk_due {d : PyData} (g : goodV d) : progOk d = dueD d := by
  cases d with
  | list ds =>
    obtain ⟨hl, ht⟩ := g.2 ds rfl
    show (decide (ds.length ≤ 600) && (rowsD ds.length 0 ds && (decide (((ds.filterMap treeD).map Str.length).sum ≤ 200000) && (ds.filterMap treeD).all fun t => isT t.cps.toList))) = (decide (ds.length ≤ 600) && (dueB ds).all id)
    have h1 : ((ds.filterMap treeD).map Str.length).sum ≤ 200000 := by
      have h2 : ((ds.filterMap treeD).map Str.length).sum ≤ (ds.filterMap treeD).length * 10 := sum_le _ 10 _ fun t h => by
        obtain ⟨x, hx, e⟩ := List.mem_filterMap.mp h
        exact ht x hx t e
      have h3 := List.length_filterMap_le treeD ds
      omega
    rw [decide_eq_true h1, Bool.true_and]
    congr 1
    rw [Bool.eq_iff_iff, Bool.and_eq_true, rowsD_iff, List.all_eq_true, List.all_eq_true]
    have hd : ∀ j : Nat, j < ds.length → (dueB ds)[j]? = some (rowL (ds.getD j .none) j ds.length) := fun j hj => by
      unfold dueB
      rw [List.getElem?_map, List.getElem?_range hj]
      rfl
    have hg : ∀ (j : Nat) d, ds[j]? = some d → ds.getD j .none = d := fun j d h => by
      rw [List.getD_eq_getElem?_getD, h]
      rfl
    constructor
    · rintro ⟨a, b⟩ x hx
      obtain ⟨j, hj⟩ := List.getElem?_of_mem hx
      have hj2 : j < ds.length := by
        have := (List.getElem?_eq_some_iff.mp hj).1
        unfold dueB at this
        rw [List.length_map, List.length_range] at this
        exact this
      rw [hd j hj2] at hj
      have e := List.getElem?_eq_getElem hj2
      have a' := a j _ e
      rw [Int.zero_add] at a'
      rw [← Option.some.inj hj, hg j _ e]
      show (Nx.rowD ds[j] j ds.length && _) = true
      rw [a', Bool.true_and]
      cases e3 : treeD ds[j] with
      | none => rfl
      | some t => exact b t (List.mem_filterMap.mpr ⟨_, List.getElem_mem hj2, e3⟩)
    · intro a
      have a' : ∀ (j : Nat) d, ds[j]? = some d → rowL d j ds.length = true := fun j d h => by
        have hj := (List.getElem?_eq_some_iff.mp h).1
        have := a _ (List.mem_of_getElem? (hd j hj))
        rw [hg j d h] at this
        exact this
      refine ⟨fun j d h => ?_, fun t h => ?_⟩
      · have := a' j d h
        rw [Int.zero_add]
        exact (Bool.and_eq_true _ _ ▸ this : Nx.rowD d j ds.length = true ∧ _).1
      · obtain ⟨x, hx, e⟩ := List.mem_filterMap.mp h
        obtain ⟨j, hj⟩ := List.getElem?_of_mem hx
        have h1 := a' j x hj
        unfold rowL at h1
        rw [e, Bool.and_eq_true] at h1
        exact h1.2
  | _ => rfl
end Nx

/-! Codes of programs, and back. -/
namespace Nx
open PySem PySem.Spec PyProof.Rows L2
def wayT (n : Int) : Tr := .node (if n < 0 then .node .leaf .leaf else .leaf) (numT n.natAbs)
def Ins.no : Ins → Nat
  | .set _ _ => 0
  | .move _ _ => 1
  | .cons _ _ _ => 2
  | .head _ _ => 3
  | .tail _ _ => 4
  | .jump _ _ => 5
/-- the trees of the parts -/
def Ins.partsT : Ins → List Tr
  | .set a t => [numT a, t]
  | .move a b => [numT a, numT b]
  | .cons a b c => [numT a, numT b, numT c]
  | .head a b => [numT a, numT b]
  | .tail a b => [numT a, numT b]
  | .jump a n => [numT a, wayT n]
def Ins.restT : Ins → Tr
  | .set a t => .node (numT a) t
  | .move a b => .node (numT a) (numT b)
  | .cons a b c => .node (numT a) (.node (numT b) (numT c))
  | .head a b => .node (numT a) (numT b)
  | .tail a b => .node (numT a) (numT b)
  | .jump a n => .node (numT a) (wayT n)
def Ins.codeT (i : Ins) : Tr := .node (numT i.no) i.restT
def codeT (is : List Ins) : Tr := lstT (is.map Ins.codeT)
/-! ### back -/
def numOf : Tr → Option Nat
  | .leaf => some 0
  | .node .leaf r => (numOf r).map (· + 1)
  | .node (.node _ _) _ => none
theorem numOf_num (n : Nat) : numOf (numT n) = some n := by
  induction n with
  | zero => rfl
  | succ n ih =>
    show (numOf (numT n)).map (· + 1) = _
    rw [ih]
    rfl
theorem numOf_some : ∀ {t : Tr} {k : Nat}, numOf t = some k → t = numT k
  | .leaf, k, h => by
    have : 0 = k := Option.some.inj h
    rw [← this]
    rfl
  | .node .leaf r, k, h => by
    have h : (numOf r).map (· + 1) = some k := h
    cases e : numOf r with
    | none =>
      rw [e] at h
      cases h
    | some j =>
      rw [e] at h
      have : j + 1 = k := Option.some.inj h
      rw [← this, numOf_some e]
      rfl
  | .node (.node _ _) _, k, h => by cases h
theorem numOf_none {t : Tr} (h : numOf t = none) : ∀ k, t ≠ numT k := fun k e => by
  rw [e, numOf_num] at h
  cases h
def wayOf : Tr → Option Int
  | .leaf => none
  | .node s r => match numOf r with
    | none => none
    | some k => if s = .leaf then some k else if s = .node .leaf .leaf ∧ 0 < k then some (-k) else none
theorem wayOf_way (n : Int) : wayOf (wayT n) = some n := by
  unfold wayT wayOf
  dsimp only
  rw [numOf_num]
  dsimp only
  by_cases h : n < 0
  · rw [if_pos h, if_neg (by intro z; cases z), if_pos ⟨rfl, by omega⟩]
    congr 1
    omega
  · rw [if_neg h, if_pos rfl]
    congr 1
    omega
theorem wayOf_some {t : Tr} {n : Int} (h : wayOf t = some n) : t = wayT n := by
  cases t with
  | leaf => cases h
  | node s r =>
    unfold wayOf at h
    dsimp only at h
    cases e : numOf r with
    | none =>
      rw [e] at h
      cases h
    | some k =>
      rw [e] at h
      dsimp only at h
      have er := numOf_some e
      unfold wayT
      by_cases h1 : s = .leaf
      · rw [if_pos h1] at h
        have : (k : Int) = n := Option.some.inj h
        rw [← this, if_neg (by omega), h1, er]
        rfl
      · rw [if_neg h1] at h
        by_cases h2 : s = .node .leaf .leaf ∧ 0 < k
        · rw [if_pos h2] at h
          have : -(k : Int) = n := Option.some.inj h
          rw [← this, if_pos (by omega), h2.1, er, show (-(k : Int)).natAbs = k by omega]
        · rw [if_neg h2] at h
          cases h
theorem wayT_inj {n m : Int} (h : wayT n = wayT m) : n = m := by
  have := wayOf_way n
  rw [h, wayOf_way] at this
  exact (Option.some.inj this).symm
theorem Ins.codeT_inj {i j : Ins} (h : i.codeT = j.codeT) : i = j := by
  have h1 : i.no = j.no := numT_inj (Tr.node.inj h).1
  have h2 : i.restT = j.restT := (Tr.node.inj h).2
  cases i with
  | set a t =>
    cases j with
    | set a2 t2 =>
      obtain ⟨e1, e2⟩ := Tr.node.inj h2
      rw [numT_inj e1, e2]
    | _ => exact absurd h1 (by simp only [Ins.no]; decide)
  | move a b =>
    cases j with
    | move a2 b2 =>
      obtain ⟨e1, e2⟩ := Tr.node.inj h2
      rw [numT_inj e1, numT_inj e2]
    | _ => exact absurd h1 (by simp only [Ins.no]; decide)
  | cons a b c =>
    cases j with
    | cons a2 b2 c2 =>
      obtain ⟨e1, e2⟩ := Tr.node.inj h2
      obtain ⟨e2, e3⟩ := Tr.node.inj e2
      rw [numT_inj e1, numT_inj e2, numT_inj e3]
    | _ => exact absurd h1 (by simp only [Ins.no]; decide)
  | head a b =>
    cases j with
    | head a2 b2 =>
      obtain ⟨e1, e2⟩ := Tr.node.inj h2
      rw [numT_inj e1, numT_inj e2]
    | _ => exact absurd h1 (by simp only [Ins.no]; decide)
  | tail a b =>
    cases j with
    | tail a2 b2 =>
      obtain ⟨e1, e2⟩ := Tr.node.inj h2
      rw [numT_inj e1, numT_inj e2]
    | _ => exact absurd h1 (by simp only [Ins.no]; decide)
  | jump a n =>
    cases j with
    | jump a2 n2 =>
      obtain ⟨e1, e2⟩ := Tr.node.inj h2
      rw [numT_inj e1, wayT_inj e2]
    | _ => exact absurd h1 (by simp only [Ins.no]; decide)
theorem map_codeT_inj : ∀ {a b : List Ins}, a.map Ins.codeT = b.map Ins.codeT → a = b
  | [], [], _ => rfl
  | [], y :: b, h => by cases h
  | x :: a, [], h => by cases h
  | x :: a, y :: b, h => by
    obtain ⟨h1, h2⟩ := List.cons.inj h
    rw [Ins.codeT_inj h1, map_codeT_inj h2]
theorem codeT_inj {a b : List Ins} (h : codeT a = codeT b) : a = b := by
  have h1 := congrArg Tr.items h
  unfold codeT at h1
  rw [items_lstT, items_lstT] at h1
  exact map_codeT_inj h1
def decP (k : Nat) (t : Tr) : Option V := if k = 116 then some (.str t.str) else if k = 114 then (numOf t).map fun n => V.int n else (wayOf t).map V.int
def decL : List Nat → Tr → Option (List V)
  | [], _ => none
  | [k], t => (decP k t).map fun v => [v]
  | _ :: _ :: _, .leaf => none
  | k :: k2 :: ks, .node a b => match decP k a with
    | none => none
    | some v => (decL (k2 :: ks) b).map fun vs => v :: vs
def wordsL : List (Str × List Nat) := [("set", [114, 116]), ("move", [114, 114]), ("cons", [114, 114, 114]), ("head", [114, 114]), ("tail", [114, 114]), ("jump", [114, 110])]
def decV : Tr → Option (List V)
  | .leaf => none
  | .node a b => match numOf a with
    | none => none
    | some n => match wordsL[n]? with
      | none => none
      | some (w, ks) => (decL ks b).map fun vs => .str w :: vs
theorem decP_114 (t : Tr) : decP 114 t = (numOf t).map fun n => V.int n := by
  unfold decP
  rw [if_neg (by decide), if_pos rfl]
theorem decP_110 (t : Tr) : decP 110 t = (wayOf t).map V.int := by
  unfold decP
  rw [if_neg (by decide), if_neg (by decide)]
theorem decP_reg (a : Nat) : decP 114 (numT a) = some (.int a) := by
  rw [decP_114, numOf_num]
  rfl
theorem decP_way (n : Int) : decP 110 (wayT n) = some (.int n) := by
  rw [decP_110, wayOf_way]
  rfl
theorem decV_code (i : Ins) : decV i.codeT = some i.vs := by
  show (match numOf (numT i.no) with | none => none | some n => match wordsL[n]? with | none => none | some (w, ks) => (decL ks i.restT).map fun vs => V.str w :: vs) = _
  rw [numOf_num]
  cases i with
  | set a t =>
    show (match decP 114 (numT a) with | none => none | some v => (decL [116] t).map fun vs => v :: vs).map _ = _
    rw [decP_reg]
    rfl
  | move a b =>
    show (match decP 114 (numT a) with | none => none | some v => ((decP 114 (numT b)).map fun v => [v]).map fun vs => v :: vs).map _ = _
    rw [decP_reg, decP_reg]
    rfl
  | cons a b c =>
    show (match decP 114 (numT a) with | none => none | some v => (match decP 114 (numT b) with | none => none | some v => ((decP 114 (numT c)).map fun v => [v]).map fun vs => v :: vs).map fun vs => v :: vs).map _ = _
    rw [decP_reg, decP_reg, decP_reg]
    rfl
  | head a b =>
    show (match decP 114 (numT a) with | none => none | some v => ((decP 114 (numT b)).map fun v => [v]).map fun vs => v :: vs).map _ = _
    rw [decP_reg, decP_reg]
    rfl
  | tail a b =>
    show (match decP 114 (numT a) with | none => none | some v => ((decP 114 (numT b)).map fun v => [v]).map fun vs => v :: vs).map _ = _
    rw [decP_reg, decP_reg]
    rfl
  | jump a n =>
    show (match decP 114 (numT a) with | none => none | some v => ((decP 110 (wayT n)).map fun v => [v]).map fun vs => v :: vs).map _ = _
    rw [decP_reg, decP_way]
    rfl
theorem decP_regS {t : Tr} {v : V} (h : decP 114 t = some v) : ∃ a : Nat, t = numT a ∧ v = .int a := by
  rw [decP_114] at h
  cases e : numOf t with
  | none =>
    rw [e] at h
    cases h
  | some a =>
    rw [e] at h
    exact ⟨a, numOf_some e, (Option.some.inj h).symm⟩
theorem decP_wayS {t : Tr} {v : V} (h : decP 110 t = some v) : ∃ n : Int, t = wayT n ∧ v = .int n := by
  rw [decP_110] at h
  cases e : wayOf t with
  | none =>
    rw [e] at h
    cases h
  | some a =>
    rw [e] at h
    exact ⟨a, wayOf_some e, (Option.some.inj h).symm⟩
theorem decL_one {k : Nat} {t : Tr} {vs : List V} (h : decL [k] t = some vs) : ∃ v, decP k t = some v ∧ vs = [v] := by
  have h : (decP k t).map (fun v => [v]) = some vs := h
  cases e : decP k t with
  | none =>
    rw [e] at h
    cases h
  | some v =>
    rw [e] at h
    exact ⟨v, rfl, (Option.some.inj h).symm⟩
theorem decL_more {k k2 : Nat} {ks : List Nat} {t : Tr} {vs : List V} (h : decL (k :: k2 :: ks) t = some vs) : ∃ a b v us, t = .node a b ∧ decP k a = some v ∧ decL (k2 :: ks) b = some us ∧ vs = v :: us := by
  cases t with
  | leaf => cases h
  | node a b =>
    have h : (match decP k a with | none => none | some v => (decL (k2 :: ks) b).map fun vs => v :: vs) = some vs := h
    cases e : decP k a with
    | none =>
      rw [e] at h
      cases h
    | some v =>
      rw [e] at h
      dsimp only at h
      cases e2 : decL (k2 :: ks) b with
      | none =>
        rw [e2] at h
        cases h
      | some us =>
        rw [e2] at h
        exact ⟨a, b, v, us, rfl, e, e2, (Option.some.inj h).symm⟩
theorem decL_rr {t : Tr} {vs : List V} (h : decL [114, 114] t = some vs) : ∃ a b : Nat, t = .node (numT a) (numT b) ∧ vs = [.int a, .int b] := by
  obtain ⟨p, q, v, us, rfl, h1, h2, rfl⟩ := decL_more h
  obtain ⟨a, rfl, rfl⟩ := decP_regS h1
  obtain ⟨w, h3, rfl⟩ := decL_one h2
  obtain ⟨b, rfl, rfl⟩ := decP_regS h3
  exact ⟨a, b, rfl, rfl⟩
theorem decV_some {t : Tr} {vs : List V} (h : decV t = some vs) : ∃ i : Ins, vs = i.vs ∧ t = i.codeT := by
  cases t with
  | leaf => cases h
  | node a b =>
    have h : (match numOf a with | none => none | some n => match wordsL[n]? with | none => none | some (w, ks) => (decL ks b).map fun vs => V.str w :: vs) = some vs := h
    cases e : numOf a with
    | none =>
      rw [e] at h
      cases h
    | some n =>
      rw [e] at h
      have ea := numOf_some e
      have key : ∀ w ks, wordsL[n]? = some (w, ks) → ∃ us, decL ks b = some us ∧ vs = .str w :: us := fun w ks hw => by
        dsimp only at h
        rw [hw] at h
        dsimp only at h
        cases e2 : decL ks b with
        | none =>
          rw [e2] at h
          cases h
        | some us =>
          rw [e2] at h
          exact ⟨us, rfl, (Option.some.inj h).symm⟩
      match n, ea, h, key with
      | 0, ea, _, key =>
        obtain ⟨us, h0, rfl⟩ := key _ _ rfl
        obtain ⟨p, q, v, us, rfl, h1, h2, rfl⟩ := decL_more h0
        obtain ⟨r, rfl, rfl⟩ := decP_regS h1
        obtain ⟨w, h3, rfl⟩ := decL_one h2
        have h3 : some (V.str q.str) = some w := h3
        exact ⟨.set r q, by rw [← Option.some.inj h3]; rfl, by rw [ea]; rfl⟩
      | 1, ea, _, key =>
        obtain ⟨us, h0, rfl⟩ := key _ _ rfl
        obtain ⟨r, q, rfl, rfl⟩ := decL_rr h0
        exact ⟨.move r q, rfl, by rw [ea]; rfl⟩
      | 2, ea, _, key =>
        obtain ⟨us, h0, rfl⟩ := key _ _ rfl
        obtain ⟨p, q, v, us, rfl, h1, h2, rfl⟩ := decL_more h0
        obtain ⟨r, rfl, rfl⟩ := decP_regS h1
        obtain ⟨c, d, rfl, rfl⟩ := decL_rr h2
        exact ⟨.cons r c d, rfl, by rw [ea]; rfl⟩
      | 3, ea, _, key =>
        obtain ⟨us, h0, rfl⟩ := key _ _ rfl
        obtain ⟨r, q, rfl, rfl⟩ := decL_rr h0
        exact ⟨.head r q, rfl, by rw [ea]; rfl⟩
      | 4, ea, _, key =>
        obtain ⟨us, h0, rfl⟩ := key _ _ rfl
        obtain ⟨r, q, rfl, rfl⟩ := decL_rr h0
        exact ⟨.tail r q, rfl, by rw [ea]; rfl⟩
      | 5, ea, _, key =>
        obtain ⟨us, h0, rfl⟩ := key _ _ rfl
        obtain ⟨p, q, v, us, rfl, h1, h2, rfl⟩ := decL_more h0
        obtain ⟨r, rfl, rfl⟩ := decP_regS h1
        obtain ⟨w, h3, rfl⟩ := decL_one h2
        obtain ⟨m, rfl, rfl⟩ := decP_wayS h3
        exact ⟨.jump r m, rfl, by rw [ea]; rfl⟩
      | n + 6, ea, h, _ => cases h
theorem decV_none {t : Tr} (h : decV t = none) (i : Ins) : t ≠ i.codeT := fun e => by
  rw [e, decV_code] at h
  cases h
/-- numbers that are small -/
def Ins.small : Ins → Prop
  | .set a t => a < 1000 ∧ t.sg.length ≤ 200000
  | .move a b => a < 1000 ∧ b < 1000
  | .cons a b c => a < 1000 ∧ b < 1000 ∧ c < 1000
  | .head a b => a < 1000 ∧ b < 1000
  | .tail a b => a < 1000 ∧ b < 1000
  | .jump a n => a < 1000 ∧ n.natAbs < 1000
theorem Ins.ok_small {w k i n : Nat} {x : Ins} (h : x.ok w k i n) (hw : w ≤ 1000) (hk : 2 * k + 1 ≤ 200000) (hi : i ≤ n) (hn : n < 1000) : x.small := by
  cases x with
  | set a t =>
    have h2 := t.sg_len
    have h3 : t.pairs ≤ k := h.2
    exact ⟨Nat.lt_of_lt_of_le h.1 hw, by omega⟩
  | move a b => exact ⟨Nat.lt_of_lt_of_le h.1 hw, Nat.lt_of_lt_of_le h.2 hw⟩
  | cons a b c => exact ⟨Nat.lt_of_lt_of_le h.1 hw, Nat.lt_of_lt_of_le h.2.1 hw, Nat.lt_of_lt_of_le h.2.2 hw⟩
  | head a b => exact ⟨Nat.lt_of_lt_of_le h.1 hw, Nat.lt_of_lt_of_le h.2 hw⟩
  | tail a b => exact ⟨Nat.lt_of_lt_of_le h.1 hw, Nat.lt_of_lt_of_le h.2 hw⟩
  | jump a m =>
    obtain ⟨h1, h2, h3⟩ := h
    exact ⟨Nat.lt_of_lt_of_le h1 hw, by omega⟩
theorem PgOk.small {w k : Nat} {is : List Ins} (h : PgOk w k is) (hw : w ≤ 1000) (hk : 2 * k + 1 ≤ 200000) (hn : is.length < 1000) : ∀ i ∈ is, i.small := fun i hi => by
  obtain ⟨j, hj⟩ := List.getElem?_of_mem hi
  have := (List.getElem?_eq_some_iff.mp hj).1
  exact Ins.ok_small (h j i hj) hw hk (by omega) hn
/-- the parts beside their trees -/
inductive PartT : Nat → V → Tr → Prop where
  | tree (t : Tr) : PartT 116 (.str t.str) t
  | reg (a : Nat) : PartT 114 (.int a) (numT a)
  | way (n : Int) : PartT 110 (.int n) (wayT n)
theorem Ins.part_tree (i : Ins) {j c : Nat} {y : V} (h1 : i.kinds[j]? = some c) (h2 : i.parts[j]? = some y) : ∃ T, i.partsT[j]? = some T ∧ PartT c y T := by
  cases i <;> (match j, h1, h2 with
    | 0, h1, h2 => simp [Ins.kinds, Ins.parts] at h1 h2; subst h1 h2; exact ⟨_, rfl, by first | exact .reg _ | exact .tree _ | exact .way _⟩
    | 1, h1, h2 => simp [Ins.kinds, Ins.parts] at h1 h2; subst h1 h2; exact ⟨_, rfl, by first | exact .reg _ | exact .tree _ | exact .way _⟩
    | 2, h1, h2 => simp [Ins.kinds, Ins.parts] at h1 h2 <;> (subst h1 h2; exact ⟨_, rfl, by first | exact .reg _ | exact .tree _ | exact .way _⟩)
    | j + 3, h1, h2 => simp [Ins.kinds, Ins.parts] at h1 h2)
theorem wayT_len (n : Int) : (wayT n).sg.length ≤ 2 * n.natAbs + 5 := by
  unfold wayT
  show (_ ++ _ : List Nat).length + 1 ≤ _
  rw [List.length_append, numT_len]
  by_cases h : n < 0
  · rw [if_pos h]
    show 3 + _ + 1 ≤ _
    omega
  · rw [if_neg h]
    show 1 + _ + 1 ≤ _
    omega
theorem Ins.parts_small {i : Ins} (h : i.small) : ∀ T ∈ i.partsT, T.sg.length ≤ 200000 := by
  have r : ∀ a : Nat, a < 1000 → (numT a).sg.length ≤ 200000 := fun a ha => by
    rw [numT_len]
    omega
  cases i with
  | set a t => simp only [Ins.partsT, List.mem_cons, List.not_mem_nil, or_false]; rintro T (rfl | rfl); exact r _ h.1; exact h.2
  | move a b => simp only [Ins.partsT, List.mem_cons, List.not_mem_nil, or_false]; rintro T (rfl | rfl); exact r _ h.1; exact r _ h.2
  | cons a b c => simp only [Ins.partsT, List.mem_cons, List.not_mem_nil, or_false]; rintro T (rfl | rfl | rfl); exact r _ h.1; exact r _ h.2.1; exact r _ h.2.2
  | head a b => simp only [Ins.partsT, List.mem_cons, List.not_mem_nil, or_false]; rintro T (rfl | rfl); exact r _ h.1; exact r _ h.2
  | tail a b => simp only [Ins.partsT, List.mem_cons, List.not_mem_nil, or_false]; rintro T (rfl | rfl); exact r _ h.1; exact r _ h.2
  | jump a n =>
    simp only [Ins.partsT, List.mem_cons, List.not_mem_nil, or_false]
    rintro T (rfl | rfl)
    · exact r _ h.1
    · have h1 := wayT_len n
      have h2 : n.natAbs < 1000 := h.2
      omega
/-! ### t.index(x) of a tuple of texts -/
theorem vals_strs : ∀ {ys : List Str} {vs : List Value}, Vals (ys.map V.str) vs → StrsAre vs ys
  | [], _, .nil => .nil
  | y :: ys, _, .cons r rr => by
    obtain ⟨t, rfl⟩ := r
    exact .cons y t (vals_strs rr)
def rTIdx (K : PySem.W.Frag) : V → List V → Hp → VK → Prop := fun x xs H Q => ∃ (a : Addr) (ys : List Str) (k : Str), x = .ref a ∧ xs = [.str k] ∧ SqT K H a (ys.map V.str) ∧ k ∈ ys ∧ Q (.int (ys.idxOf k : Nat)) H
theorem mt_tindex {X : Cx} : MtR X "tuple.index" (rTIdx X.K) := by
  intro pins s σ H x xs v us Q I rx rxs h
  obtain ⟨a, ys, k, rfl, rfl, hs, hk, q⟩ := h
  cases rx
  cases rxs with
  | cons ry rt =>
    cases rt
    obtain ⟨t, rfl⟩ := ry
    obtain ⟨its, rv, ht, _⟩ := I.tuple hs
    exact SeqAt.tuple_index_strs ht (vals_strs rv) hk ⟨.int (ys.idxOf k : Nat), H, I.tok _, ⟨_, rfl⟩, q⟩
theorem s100 : Str.ofString "100" = (Tr.node .leaf .leaf).str := by decide +kernel
theorem sleaf : Str.ofString "0" = Tr.leaf.str := by decide +kernel
theorem is_t : Str.ofString "t" = stS [116] := by decide +kernel
theorem is_r : Str.ofString "r" = stS [114] := by decide +kernel
theorem abs_nat (n : Int) : (if n < 0 then -n else n) = ((n.natAbs : Nat) : Int) := by
  split <;> omega
theorem cutV_last (xs : List V) (v : V) : cutV (xs ++ [v]) none (some (-1)) = xs := by
  show ((xs ++ [v]).drop 0).take (HT.sIx (xs ++ [v]).length (xs ++ [v]).length (some (-1)) - 0) = xs
  have e : HT.sIx (xs ++ [v]).length (xs ++ [v]).length (some (-1)) = xs.length := by
    show (if (-1 : Int) < 0 then ((-1 : Int) + ((xs ++ [v]).length : Nat)).toNat else min (-1 : Int).toNat (xs ++ [v]).length) = _
    rw [if_pos (by decide), List.length_append, List.length_singleton]
    omega
  rw [e, List.drop_zero, Nat.sub_zero]
  exact List.take_left' rfl
theorem Ins.parts_split (i : Ins) : ∃ (init : List Tr) (last : Tr), i.partsT = init ++ [last] ∧ init.foldr Tr.node last = i.restT ∧ init.length + 1 = i.parts.length := by
  cases i with
  | set a t => exact ⟨[numT a], t, rfl, rfl, rfl⟩
  | move a b => exact ⟨[numT a], numT b, rfl, rfl, rfl⟩
  | cons a b c => exact ⟨[numT a, numT b], numT c, rfl, rfl, rfl⟩
  | head a b => exact ⟨[numT a], numT b, rfl, rfl, rfl⟩
  | tail a b => exact ⟨[numT a], numT b, rfl, rfl, rfl⟩
  | jump a n => exact ⟨[numT a], wayT n, rfl, rfl, rfl⟩
theorem node_len (a b : Tr) : (Tr.node a b).sg.length = 1 + a.sg.length + b.sg.length := by
  show (a.sg ++ b.sg).length + 1 = _
  rw [List.length_append]
  omega
theorem foldr_drop_le (t : Tr) : ∀ (l : List Tr) (k : Nat), ((l.drop k).foldr Tr.node t).sg.length ≤ (l.foldr Tr.node t).sg.length
  | [], k => by
    rw [List.drop_nil]
    exact Nat.le_refl _
  | x :: l, 0 => Nat.le_refl _
  | x :: l, k + 1 => by
    have := foldr_drop_le t l k
    rw [List.drop_succ_cons, List.foldr_cons, node_len]
    omega
theorem code_len (i : Ins) : i.codeT.sg.length = 1 + (2 * i.no + 1) + i.restT.sg.length := by
  show (Tr.node (numT i.no) i.restT).sg.length = _
  rw [node_len, numT_len]
theorem no_le (i : Ins) : i.no ≤ 5 := by cases i <;> (simp only [Ins.no]; decide)
theorem word_at (i : Ins) : i.word ∈ ([("set" : Str), ("move" : Str), ("cons" : Str), ("head" : Str), ("tail" : Str), ("jump" : Str)] : List Str) ∧ ([("set" : Str), ("move" : Str), ("cons" : Str), ("head" : Str), ("tail" : Str), ("jump" : Str)] : List Str).idxOf i.word = i.no := by
  cases i with
  | set a t => exact (by decide +kernel : (Str.ofString "set") ∈ ([("set" : Str), ("move" : Str), ("cons" : Str), ("head" : Str), ("tail" : Str), ("jump" : Str)] : List Str) ∧ ([("set" : Str), ("move" : Str), ("cons" : Str), ("head" : Str), ("tail" : Str), ("jump" : Str)] : List Str).idxOf (Str.ofString "set") = 0)
  | move a b => exact (by decide +kernel : (Str.ofString "move") ∈ ([("set" : Str), ("move" : Str), ("cons" : Str), ("head" : Str), ("tail" : Str), ("jump" : Str)] : List Str) ∧ ([("set" : Str), ("move" : Str), ("cons" : Str), ("head" : Str), ("tail" : Str), ("jump" : Str)] : List Str).idxOf (Str.ofString "move") = 1)
  | cons a b c => exact (by decide +kernel : (Str.ofString "cons") ∈ ([("set" : Str), ("move" : Str), ("cons" : Str), ("head" : Str), ("tail" : Str), ("jump" : Str)] : List Str) ∧ ([("set" : Str), ("move" : Str), ("cons" : Str), ("head" : Str), ("tail" : Str), ("jump" : Str)] : List Str).idxOf (Str.ofString "cons") = 2)
  | head a b => exact (by decide +kernel : (Str.ofString "head") ∈ ([("set" : Str), ("move" : Str), ("cons" : Str), ("head" : Str), ("tail" : Str), ("jump" : Str)] : List Str) ∧ ([("set" : Str), ("move" : Str), ("cons" : Str), ("head" : Str), ("tail" : Str), ("jump" : Str)] : List Str).idxOf (Str.ofString "head") = 3)
  | tail a b => exact (by decide +kernel : (Str.ofString "tail") ∈ ([("set" : Str), ("move" : Str), ("cons" : Str), ("head" : Str), ("tail" : Str), ("jump" : Str)] : List Str) ∧ ([("set" : Str), ("move" : Str), ("cons" : Str), ("head" : Str), ("tail" : Str), ("jump" : Str)] : List Str).idxOf (Str.ofString "tail") = 4)
  | jump a n => exact (by decide +kernel : (Str.ofString "jump") ∈ ([("set" : Str), ("move" : Str), ("cons" : Str), ("head" : Str), ("tail" : Str), ("jump" : Str)] : List Str) ∧ ([("set" : Str), ("move" : Str), ("cons" : Str), ("head" : Str), ("tail" : Str), ("jump" : Str)] : List Str).idxOf (Str.ofString "jump") = 5)
theorem trV_append (a b : List Tr) : trV (a ++ b) = trV a ++ trV b := List.map_append ..
theorem le_sum {n : Nat} : ∀ l : List Nat, n ∈ l → n ≤ l.sum
  | x :: r, h => by
    rw [List.sum_cons]
    rcases List.mem_cons.mp h with h | h
    · rw [h]
      omega
    · have := le_sum r h
      omega
theorem decL_step (k : Nat) (c : List Nat) (l : Nat) (a b : Tr) : decL (k :: (c ++ [l])) (.node a b) = match decP k a with | none => none | some v => (decL (c ++ [l]) b).map fun vs => v :: vs := by
  cases c <;> rfl
theorem decL_leaf (k : Nat) (c : List Nat) (l : Nat) : decL (k :: (c ++ [l])) .leaf = none := by
  cases c <;> rfl
theorem cut_last (l : List Nat) (x : Nat) : cutS (stS (l ++ [x])) none (some (-1)) = stS l := by
  show stS (((l ++ [x]).drop 0).take (HT.sIx (stS (l ++ [x])).length (stS (l ++ [x])).length (some (-1)) - 0)) = _
  have e : HT.sIx (stS (l ++ [x])).length (stS (l ++ [x])).length (some (-1)) = l.length := by
    show (if (-1 : Int) < 0 then ((-1 : Int) + ((stS (l ++ [x])).length : Nat)).toNat else min (-1 : Int).toNat (stS (l ++ [x])).length) = _
    rw [if_pos (by decide), stS_len, List.length_append, List.length_singleton]
    omega
  rw [e, List.drop_zero, Nat.sub_zero, List.take_left' rfl]
theorem words_at {n : Nat} (h : n < 6) : ∃ (w : Str) (sh : Str) (init : List Nat) (last : Nat), wordsL[n]? = some (w, init ++ [last]) ∧ (([("set" : Str), ("move" : Str), ("cons" : Str), ("head" : Str), ("tail" : Str), ("jump" : Str)] : List Str).map V.str)[n]? = some (.str w) ∧
    shapes.lookup w = some sh ∧ sh = stS (init ++ [last]) ∧ init.length ≤ 2 := by
  match n, h with
  | 0, _ => exact ⟨"set", "rt", [114], 116, rfl, rfl, by decide +kernel, by decide +kernel, by decide⟩
  | 1, _ => exact ⟨"move", "rr", [114], 114, rfl, rfl, by decide +kernel, by decide +kernel, by decide⟩
  | 2, _ => exact ⟨"cons", "rrr", [114, 114], 114, rfl, rfl, by decide +kernel, by decide +kernel, by decide⟩
  | 3, _ => exact ⟨"head", "rr", [114], 114, rfl, rfl, by decide +kernel, by decide +kernel, by decide⟩
  | 4, _ => exact ⟨"tail", "rr", [114], 114, rfl, rfl, by decide +kernel, by decide +kernel, by decide⟩
  | 5, _ => exact ⟨"jump", "rn", [114], 110, rfl, rfl, by decide +kernel, by decide +kernel, by decide⟩
theorem items_len (t : Tr) : ∀ x ∈ t.items, x.sg.length ≤ t.sg.length := by
  induction t with
  | leaf => intro x h; cases h
  | node a b _ ih =>
    intro x h
    rw [node_len]
    rcases List.mem_cons.mp h with h | h
    · rw [h]
      omega
    · have := ih x h
      omega
theorem progOk_len {is : List Ins} (h : ¬ is.length ≤ 600) : progOk (progD is) = false := by
  show (decide ((is.map Ins.data).length ≤ 600) && _) = false
  rw [List.length_map, decide_eq_false h, Bool.false_and]
theorem codeT_items {t : Tr} {is : List Ins} (h : t = codeT is) : t.items = is.map Ins.codeT := by
  rw [h]
  exact items_lstT _
theorem same_none {H H' : Hp} {D : Addr} (s : Same H H') (n : H' D = none) : H D = none := by
  cases z : H D with
  | none => rfl
  | some o =>
    rw [s _ _ z] at n
    cases n
theorem Ins.big_code (i : Ins) : i.big ≤ i.codeT.sg.length := by
  cases i with
  | set a t =>
    show t.sg.length ≤ (Tr.node (numT 0) (.node (numT a) t)).sg.length
    rw [node_len, node_len]
    omega
  | _ => exact Nat.zero_le _
/-! ### codes as the laws write them -/
def Ins.a : Ins → Nat
  | .set a _ => a
  | .move a _ => a
  | .cons a _ _ => a
  | .head a _ => a
  | .tail a _ => a
  | .jump a _ => a
def Ins.r2 : Ins → Tr
  | .set _ t => t
  | .move _ b => numT b
  | .cons _ b c => .node (numT b) (numT c)
  | .head _ b => numT b
  | .tail _ b => numT b
  | .jump _ n => wayT n
theorem Ins.restT_eq (i : Ins) : i.restT = .node (numT i.a) i.r2 := by cases i <;> rfl
theorem Ins.a_at (i : Ins) : i.vs[1]? = some (.int i.a) := by cases i <;> rfl
theorem Ins.small_a {i : Ins} (h : i.small) : i.a < 1000 := by
  cases i with
  | set a t => exact h.1
  | move a b => exact h.1
  | cons a b c => exact h.1
  | head a b => exact h.1
  | tail a b => exact h.1
  | jump a n => exact h.1
theorem l11 : (Str.ofString "11").length = 2 := by decide +kernel
theorem l1 : (Str.ofString "1").length = 1 := by decide +kernel
theorem l0 : (Str.ofString "0").length = 1 := by decide +kernel
theorem s11 : Str.ofString "11" = stS [49, 49] := by decide +kernel
theorem sE : Str.ofString "" = stS [] := by decide +kernel
theorem codeT_sg (is : List Ins) : (codeT is).sg = (is.map fun i => 49 :: i.codeT.sg).flatten ++ [48] := by
  unfold codeT
  rw [lstT_sg, List.map_map]
  rfl
theorem pre_len (is : List Ins) (j : Nat) : ((is.take j).map fun i => 49 :: i.codeT.sg).flatten.length + 1 ≤ (codeT is).sg.length := by
  rw [codeT_sg, List.length_append, List.length_singleton]
  conv => rhs; rw [← List.take_append_drop j is]
  rw [List.map_append, List.flatten_append, List.length_append]
  omega
theorem row_code (T : List Nat) (i : Ins) : stS T ++ Str.ofString "11" ++ (numT i.no).str ++ Str.ofString "1" ++ (numT i.a).str ++ i.r2.str = stS (T ++ (49 :: i.codeT.sg)) := by
  have e : i.codeT.sg = 49 :: ((numT i.no).sg ++ (49 :: ((numT i.a).sg ++ i.r2.sg))) := by
    show (Tr.node (numT i.no) i.restT).sg = _
    rw [i.restT_eq]
    rfl
  rw [e, s11, s1]
  unfold Tr.str
  rw [stS_app, stS_app, stS_app, stS_app, stS_app]
  congr 1
  simp only [List.append_assoc, List.cons_append, List.nil_append]
theorem r2_len (i : Ins) : i.codeT.sg.length = 3 + (numT i.no).sg.length + (numT i.a).sg.length + i.r2.sg.length - 1 := by
  show (Tr.node (numT i.no) i.restT).sg.length = _
  rw [i.restT_eq, node_len, node_len]
  omega
/-- the place of a word -/
def words6 : List V := [.str "set", .str "move", .str "cons", .str "head", .str "tail", .str "jump"]
theorem idx_word {K : PySem.W.Frag} {H : Hp} {a : Addr} {Q : VK} (i : Ins) (h : H a = some (.lst words6)) (q : Q (.int (i.no : Nat)) H) : rIndex K (.ref a) [.str i.word] H Q := by
  cases i with
  | set x t => exact ⟨a, _, _, 0, _, rfl, rfl, SqL.of h, rfl, (by decide +kernel), rfl, (by decide +kernel : eqV (.str (Str.ofString "set")) (.str (Str.ofString "set")) = true), fun m z hm => by omega, q⟩
  | move x b => exact ⟨a, _, _, 1, _, rfl, rfl, SqL.of h, rfl, (by decide +kernel), rfl, (by decide +kernel : eqV (.str (Str.ofString "move")) (.str (Str.ofString "move")) = true), idx_no 1 (by decide +kernel : ((words6.take 1).all fun z => !eqV z (.str (Str.ofString "move"))) = true), q⟩
  | cons x b c => exact ⟨a, _, _, 2, _, rfl, rfl, SqL.of h, rfl, (by decide +kernel), rfl, (by decide +kernel : eqV (.str (Str.ofString "cons")) (.str (Str.ofString "cons")) = true), idx_no 2 (by decide +kernel : ((words6.take 2).all fun z => !eqV z (.str (Str.ofString "cons"))) = true), q⟩
  | head x b => exact ⟨a, _, _, 3, _, rfl, rfl, SqL.of h, rfl, (by decide +kernel), rfl, (by decide +kernel : eqV (.str (Str.ofString "head")) (.str (Str.ofString "head")) = true), idx_no 3 (by decide +kernel : ((words6.take 3).all fun z => !eqV z (.str (Str.ofString "head"))) = true), q⟩
  | tail x b => exact ⟨a, _, _, 4, _, rfl, rfl, SqL.of h, rfl, (by decide +kernel), rfl, (by decide +kernel : eqV (.str (Str.ofString "tail")) (.str (Str.ofString "tail")) = true), idx_no 4 (by decide +kernel : ((words6.take 4).all fun z => !eqV z (.str (Str.ofString "tail"))) = true), q⟩
  | jump x n => exact ⟨a, _, _, 5, _, rfl, rfl, SqL.of h, rfl, (by decide +kernel), rfl, (by decide +kernel : eqV (.str (Str.ofString "jump")) (.str (Str.ofString "jump")) = true), idx_no 5 (by decide +kernel : ((words6.take 5).all fun z => !eqV z (.str (Str.ofString "jump"))) = true), q⟩
where
  idx_no {y : V} (k : Nat) (h : ((words6.take k).all fun z => !eqV z y) = true) : ∀ (m : Nat) (z : V), m < k → words6[m]? = some z → eqV z y = false := fun m z hm hz => by
    have h1 := List.all_eq_true.mp h z (List.mem_of_getElem? (i := m) (by rw [List.getElem?_take_of_lt hm]; exact hz))
    simpa using h1
/-! ### programs whose rows are exchanged -/
theorem Paired.set {α β : Type} {F : α → β → Prop} {a : α} {b : β} (r : F a b) : ∀ {l : List α} {m : List β} (j : Nat), Paired F l m → Paired F (l.set j a) (m.set j b)
  | _, _, _, .nil => .nil
  | _, _, 0, .cons _ t => .cons r t
  | _, _, j + 1, .cons h t => .cons h (Paired.set r j t)
theorem rows_put {H : Hp} {as : List Addr} {is : List Ins} {p T : Addr} {ys zs : List V} {x : Ins} (j : Nat) (h : Rows H as is) (hp : H p = some (.lst ys)) (hT : H T = none) : Rows (upd (upd H T (.tup x.vs)) p (.lst zs)) (as.set j T) (is.set j x) := by
  have nT : p ≠ T := ne_of_none hp hT
  refine Paired.set ?_ j (Paired.imp (fun a i q => ?_) h)
  · rw [upd_ne nT.symm, upd_same]
  · have na : a ≠ p := fun z => by
      rw [z, hp] at q
      cases q
    rw [upd_ne na, upd_ne (ne_of_none q hT)]
    exact q
theorem PgOk.set {w k j : Nat} {is : List Ins} {x : Ins} (h : PgOk w k is) (hx : x.ok w k j is.length) : PgOk w k (is.set j x) := fun i y hy => by
  rw [List.length_set]
  rw [List.getElem?_set] at hy
  by_cases c : j = i
  · rw [if_pos c] at hy
    by_cases c2 : j < is.length
    · rw [if_pos c2] at hy
      have := Option.some.inj hy
      subst this
      subst c
      exact hx
    · rw [if_neg c2] at hy
      cases hy
  · rw [if_neg c] at hy
    exact h i y hy
theorem treesSum_big (is : List Ins) : treesSum is = (is.map Ins.big).sum := by
  unfold treesSum
  induction is with
  | nil => rfl
  | cons i r ih =>
    rw [List.map_cons, List.sum_cons, ← ih]
    cases i with
    | set a t => rfl
    | move a b => exact (Nat.zero_add _).symm
    | cons a b c => exact (Nat.zero_add _).symm
    | head a b => exact (Nat.zero_add _).symm
    | tail a b => exact (Nat.zero_add _).symm
    | jump a n => exact (Nat.zero_add _).symm
theorem sum_set (v : Nat) : ∀ (l : List Nat) (j : Nat), (l.set j v).sum ≤ l.sum + v
  | [], j => by
    rw [List.set_nil]
    omega
  | x :: l, 0 => by
    rw [List.set_cons_zero, List.sum_cons, List.sum_cons]
    omega
  | x :: l, j + 1 => by
    have := sum_set v l j
    rw [List.set_cons_succ, List.sum_cons, List.sum_cons]
    omega
theorem treesSum_set (is : List Ins) (j : Nat) (x : Ins) : treesSum (is.set j x) ≤ treesSum is + x.big := by
  rw [treesSum_big, treesSum_big, List.map_set]
  exact sum_set _ _ _
theorem treesSum_rep {i : Ins} (h : i.big = 0) (n : Nat) : treesSum (List.replicate n i) = 0 := by
  rw [treesSum_big, List.map_replicate, h]
  induction n with
  | zero => rfl
  | succ n ih =>
    rw [List.replicate_succ, List.sum_cons, ih]
/-- nested in the heads and the tails by turns -/
def spT : Nat → Tr
  | 0 => .leaf
  | n + 1 => .node (.node .leaf (spT n)) .leaf
theorem spT_sg (n : Nat) : (spT n).sg = repL n [49, 49, 48] ++ repL (n + 1) [48] := by
  induction n with
  | zero => rfl
  | succ n ih =>
    show 49 :: ((49 :: ([48] ++ (spT n).sg)) ++ [48]) = _
    have h : repL (n + 1 + 1) [48] = repL (n + 1) [48] ++ [48] := by
      rw [repL_one, repL_one]
      exact List.replicate_succ'
    have h2 : repL (n + 1) [49, 49, 48] = [49, 49, 48] ++ repL n [49, 49, 48] := by
      unfold repL
      rw [List.replicate_succ, List.flatten_cons]
    rw [ih, h, h2]
    simp only [List.cons_append, List.nil_append, List.append_assoc]
theorem spT_len (n : Nat) : (spT n).sg.length = 4 * n + 1 := by
  rw [spT_sg, List.length_append, repL_len, repL_len]
  show n * 3 + (n + 1) * 1 = _
  omega
theorem sp_str (n : Nat) : stS (repL n (Str.ofString "110").cps.toList) ++ stS (repL (n + 1) (Str.ofString "0").cps.toList) = (spT n).str := by
  rw [s0, show (Str.ofString "110").cps.toList = [49, 49, 48] by decide +kernel, stS_app]
  show _ = stS (spT n).sg
  rw [spT_sg]
  rfl
theorem len110 (n : Nat) : (stS (repL n (Str.ofString "110").cps.toList)).length = 3 * n := by
  rw [stS_len, repL_len, show (Str.ofString "110").cps.toList.length = 3 by decide +kernel]
  omega
theorem ixN_nat {n j : Nat} (h : j < n) : ixN n (j : Int) = some j := by
  unfold ixN
  rw [if_pos (by omega), if_pos (by omega)]
  rfl
theorem rows_put2 {H : Hp} {as : List Addr} {is : List Ins} {p T : Addr} {ys zs : List V} {x : Ins} (j : Nat) (h : Rows H as is) (hp : H p = some (.lst ys)) (hT : H T = some (.tup x.vs)) : Rows (upd H p (.lst zs)) (as.set j T) (is.set j x) := by
  have no : ∀ a (vs : List V), H a = some (.tup vs) → a ≠ p := fun a vs q z => by
    rw [z, hp] at q
    cases q
  refine Paired.set ?_ j (Paired.imp (fun a i q => ?_) h)
  · rw [upd_ne (no T _ hT)]
    exact hT
  · rw [upd_ne (no a _ q)]
    exact q
theorem PgOk.up {w k k2 : Nat} {is : List Ins} (h : PgOk w k is) (hk : k ≤ k2) : PgOk w k2 is := fun i x hx => by
  have := h i x hx
  cases x with
  | set a t => exact ⟨this.1, Nat.le_trans this.2 hk⟩
  | _ => exact this
theorem code_bound {i : Ins} (h : i.small) : i.codeT.sg.length ≤ 7000 + i.big := by
  rw [code_len]
  have n5 := no_le i
  have r : ∀ a : Nat, a < 1000 → (numT a).sg.length ≤ 1999 := fun a ha => by
    rw [numT_len]
    omega
  cases i with
  | set a t =>
    have h1 := r a h.1
    show 1 + (2 * 0 + 1) + (Tr.node (numT a) t).sg.length ≤ 7000 + t.sg.length
    rw [node_len]
    omega
  | move a b =>
    have h1 := r a h.1
    have h2 := r b h.2
    show 1 + (2 * 1 + 1) + (Tr.node (numT a) (numT b)).sg.length ≤ 7000 + 0
    rw [node_len]
    omega
  | cons a b c =>
    have h1 := r a h.1
    have h2 := r b h.2.1
    have h3 := r c h.2.2
    show 1 + (2 * 2 + 1) + (Tr.node (numT a) (.node (numT b) (numT c))).sg.length ≤ 7000 + 0
    rw [node_len, node_len]
    omega
  | head a b =>
    have h1 := r a h.1
    have h2 := r b h.2
    show 1 + (2 * 3 + 1) + (Tr.node (numT a) (numT b)).sg.length ≤ 7000 + 0
    rw [node_len]
    omega
  | tail a b =>
    have h1 := r a h.1
    have h2 := r b h.2
    show 1 + (2 * 4 + 1) + (Tr.node (numT a) (numT b)).sg.length ≤ 7000 + 0
    rw [node_len]
    omega
  | jump a n =>
    have h1 := r a h.1
    have h2 := wayT_len n
    have h3 : n.natAbs < 1000 := h.2
    show 1 + (2 * 5 + 1) + (Tr.node (numT a) (wayT n)).sg.length ≤ 7000 + 0
    rw [node_len]
    omega
theorem codeT_bound {is : List Ins} (h : ∀ i ∈ is, i.small) : (codeT is).sg.length ≤ is.length * 7001 + treesSum is + 1 := by
  unfold codeT
  rw [lstT_len, List.length_map, treesSum_big, List.map_map]
  induction is with
  | nil => exact Nat.le_refl _
  | cons i r ih =>
    have h1 := code_bound (h i (List.mem_cons_self ..))
    have h2 := ih fun x hx => h x (List.mem_cons_of_mem _ hx)
    rw [List.map_cons, List.map_cons, List.sum_cons, List.sum_cons, List.length_cons, Nat.succ_mul]
    show r.length + 1 + (i.codeT.sg.length + _) + 1 ≤ _
    omega
theorem PgAt.vd {H : Hp} {p : Addr} {is : List Ins} (h : PgAt H p is) (hl : is.length ≤ 1000000) (hb : ∀ i ∈ is, i.big ≤ sizeLine) : Vd H (.ref p) (progD is) := by
  obtain ⟨as, h1, h2⟩ := h
  exact .lst h1 (by rw [List.length_map, Paired.len h2]; exact hl) (rows_vd h2 hb)
theorem cutV_end (xs : List V) (v : V) : cutV (xs ++ [v]) (some (-1)) none = [v] := by
  show ((xs ++ [v]).drop (HT.sIx (xs ++ [v]).length 0 (some (-1)))).take ((xs ++ [v]).length - HT.sIx (xs ++ [v]).length 0 (some (-1))) = [v]
  have e : HT.sIx (xs ++ [v]).length 0 (some (-1)) = xs.length := by
    show (if (-1 : Int) < 0 then ((-1 : Int) + ((xs ++ [v]).length : Nat)).toNat else min (-1 : Int).toNat (xs ++ [v]).length) = _
    rw [if_pos (by decide), List.length_append, List.length_singleton]
    omega
  rw [e, List.drop_left' rfl, List.length_append, Nat.add_sub_cancel_left]
  rfl
end Nx

/-! Steps of programs. -/
namespace Nx
open PySem PySem.Spec PyProof.Rows L2
def reg (rs : List Tr) (b : Nat) : Tr := rs.getD b .leaf
def Ins.isJ : Ins → Bool
  | .jump _ _ => true
  | _ => false
/-- the tree that an instruction other than a jump makes -/
def newT (i : Ins) (rs : List Tr) : Tr := match i with
  | .set _ t => t
  | .move _ b => reg rs b
  | .cons _ b c => .node (reg rs b) (reg rs c)
  | .head _ b => (reg rs b).hd
  | .tail _ b => (reg rs b).tl
  | .jump _ _ => .leaf
def stepAt (i : Ins) (k : Int) (rs : List Tr) : Int := match i with
  | .jump a n => if reg rs a = .leaf then k + 1 else k + n
  | _ => k + 1
def stepRs (i : Ins) (rs : List Tr) : List Tr := match i with
  | .jump _ _ => rs
  | _ => rs.set i.a (newT i rs)
theorem stepRs_no {i : Ins} (h : i.isJ = false) (rs : List Tr) : stepRs i rs = rs.set i.a (newT i rs) := by
  cases i with
  | jump a n => cases h
  | _ => rfl
theorem stepAt_no {i : Ins} (h : i.isJ = false) (k : Int) (rs : List Tr) : stepAt i k rs = k + 1 := by
  cases i with
  | jump a n => cases h
  | _ => rfl
theorem stepRs_len (i : Ins) (rs : List Tr) : (stepRs i rs).length = rs.length := by
  cases i with
  | jump a n => rfl
  | _ => exact List.length_set ..
theorem reg_get {rs : List Tr} {b : Nat} (h : b < rs.length) : rs[b]? = some (reg rs b) := by
  unfold reg
  rw [List.getD_eq_getElem?_getD, List.getElem?_eq_getElem h]
  rfl
theorem reg_at {rs : List Tr} {b : Nat} (h : b < rs.length) : atI (trV rs) (b : Int) = some (.str (reg rs b).str) := atI_nat (by
  unfold trV
  rw [List.getElem?_map, reg_get h]
  rfl)
theorem reg_mem {rs : List Tr} {b : Nat} (h : b < rs.length) : reg rs b ∈ rs := List.mem_of_getElem? (reg_get h)
theorem hd_len (t : Tr) : t.hd.sg.length ≤ t.sg.length := by
  cases t with
  | leaf => exact Nat.le_refl _
  | node a b =>
    rw [node_len]
    show a.sg.length ≤ _
    omega
theorem tl_len (t : Tr) : t.tl.sg.length ≤ t.sg.length := by
  cases t with
  | leaf => exact Nat.le_refl _
  | node a b =>
    rw [node_len]
    show b.sg.length ≤ _
    omega
/-- all registers below n -/
def Ins.below (i : Ins) (n : Nat) : Prop := ∀ r ∈ i.regs, r < n
theorem Ins.ok_below {w k j n : Nat} {i : Ins} (h : i.ok w k j n) : i.below w := by
  intro r hr
  cases i with
  | set a t => rw [List.mem_singleton.mp hr]; exact h.1
  | jump a m => rw [List.mem_singleton.mp hr]; exact h.1
  | move a b =>
    rcases List.mem_cons.mp hr with rfl | hr
    · exact h.1
    · rw [List.mem_singleton.mp hr]; exact h.2
  | head a b =>
    rcases List.mem_cons.mp hr with rfl | hr
    · exact h.1
    · rw [List.mem_singleton.mp hr]; exact h.2
  | tail a b =>
    rcases List.mem_cons.mp hr with rfl | hr
    · exact h.1
    · rw [List.mem_singleton.mp hr]; exact h.2
  | cons a b c =>
    rcases List.mem_cons.mp hr with rfl | hr
    · exact h.1
    · rcases List.mem_cons.mp hr with rfl | hr
      · exact h.2.1
      · rw [List.mem_singleton.mp hr]; exact h.2.2
theorem Ins.below_a {i : Ins} {n : Nat} (h : i.below n) : i.a < n := by
  cases i <;> exact h _ (List.mem_cons_self ..)
theorem newT_len {i : Ins} {rs : List Tr} {n : Nat} (hi : i.below rs.length) (hs : i.big ≤ n) (hr : ∀ t ∈ rs, t.sg.length ≤ n) (h1 : 1 ≤ n) : (newT i rs).sg.length ≤ 2 * n + 1 := by
  cases i with
  | set a t =>
    have : t.sg.length ≤ n := hs
    show t.sg.length ≤ _
    omega
  | move a b =>
    have := hr _ (reg_mem (hi b (by simp [Ins.regs])))
    show (reg rs b).sg.length ≤ _
    omega
  | cons a b c =>
    have h2 := hr _ (reg_mem (hi b (by simp [Ins.regs])))
    have h3 := hr _ (reg_mem (hi c (by simp [Ins.regs])))
    show (Tr.node (reg rs b) (reg rs c)).sg.length ≤ _
    rw [node_len]
    omega
  | head a b =>
    have h2 := hr _ (reg_mem (hi b (by simp [Ins.regs])))
    have h3 := hd_len (reg rs b)
    show (reg rs b).hd.sg.length ≤ _
    omega
  | tail a b =>
    have h2 := hr _ (reg_mem (hi b (by simp [Ins.regs])))
    have h3 := tl_len (reg rs b)
    show (reg rs b).tl.sg.length ≤ _
    omega
  | jump a m =>
    show 1 ≤ _
    omega
theorem stepRs_le {i : Ins} {rs : List Tr} {m : Nat} (hr : ∀ t ∈ rs, t.sg.length ≤ m) (hn : i.isJ = false → (newT i rs).sg.length ≤ m) : ∀ t ∈ stepRs i rs, t.sg.length ≤ m := by
  cases h : i.isJ with
  | true =>
    cases i with
    | jump a n => exact hr
    | _ => cases h
  | false =>
    rw [stepRs_no h]
    intro t ht
    rcases List.mem_or_eq_of_mem_set ht with h2 | h2
    · exact hr t h2
    · rw [h2]
      exact hn h
theorem trV_set (rs : List Tr) (j : Nat) (t : Tr) : (trV rs).set j (.str t.str) = trV (rs.set j t) := by
  unfold trV
  rw [List.map_set]
/-! ### states as data -/
def rsD (rs : List Tr) : PyData := .tuple (rs.map fun t => .str t.str)
def stD (k : Int) (rs : List Tr) : PyData := .tuple [.int k, rsD rs]
theorem rsD_dp {K : PySem.W.Frag} {H : Hp} {r : Addr} {rs : List Tr} (h : H r = some (.tup (trV rs))) : Dp K H (.ref r) (rsD rs) := .tup (SqT.of h) (trD_all rs)
theorem stD_dp {K : PySem.W.Frag} {H : Hp} {q r : Addr} {k : Int} {rs : List Tr} (h : H q = some (.tup [.int k, .ref r])) (g : H r = some (.tup (trV rs))) : Dp K H (.ref q) (stD k rs) := .tup (SqT.of h) (.cons (.int _) (.cons (rsD_dp g) .nil))
theorem rsD_lay (rs : List Tr) : (rsD rs).canLay0 = true := trD_lay rs
theorem rsD_deep (rs : List Tr) : (rsD rs).depth = 1 := by
  show PyData.depthAll (rs.map fun t => PyData.str t.str) + 1 = 1
  rw [trD_deep]
theorem rsD_shaped (rs : List Tr) : SeqAt.shaped (rsD rs) = true := by
  show ((rsD rs).canLay0 && decide ((rsD rs).depth ≤ 64)) = true
  rw [rsD_lay, rsD_deep]
  rfl
theorem stD_shaped (k : Int) (rs : List Tr) : SeqAt.shaped (stD k rs) = true := by
  show ((true && ((rsD rs).canLay0 && true)) && decide (max 0 (max (rsD rs).depth 0) + 1 ≤ 64)) = true
  rw [rsD_lay, rsD_deep]
  rfl
/-! ### what changes at one address alone -/
def But (g : Addr) (H H' : Hp) : Prop := ∀ b o, b ≠ g → H b = some o → H' b = some o
theorem _root_.L2.Same.but {g : Addr} {H H' : Hp} (s : Same H H') : But g H H' := fun b o _ h => s b o h
theorem But.trans {g : Addr} {H H1 H2 : Hp} (a : But g H H1) (b : But g H1 H2) : But g H H2 := fun c o n h => b c o n (a c o n h)
theorem rows_but {g : Addr} {H H' : Hp} {as : List Addr} {is : List Ins} {ys : List V} (h : Rows H as is) (e : But g H H') (hg : H g = some (.lst ys)) : Rows H' as is := Paired.imp (fun a i q => e a _ (fun z => by
  rw [z, hg] at q
  cases q) q) h
theorem PgAt.but {g p : Addr} {H H' : Hp} {is : List Ins} {ys : List V} (h : PgAt H p is) (n : p ≠ g) (e : But g H H') (hg : H g = some (.lst ys)) : PgAt H' p is := by
  obtain ⟨as, h1, h2⟩ := h
  exact ⟨as, e _ _ n h1, rows_but h2 e hg⟩
theorem Strm.but {g st : Addr} {H H' : Hp} {rs : List Tr} (s : Strm H st) (n : st ≠ g) (e : But g H H') (hg : H g = some (.lst (trV rs))) (hr : rs ≠ []) : Strm H' st := by
  obtain ⟨l, ns, c, i, m, h1, h2, h3⟩ := s
  refine ⟨l, ns, c, i, m, e _ _ n h1, e _ _ (fun z => ?_) h2, h3⟩
  rw [z, hg] at h2
  have h4 := HO.lst.inj (Option.some.inj h2)
  cases rs with
  | nil => exact hr rfl
  | cons t r =>
    cases ns with
    | nil => cases h4
    | cons x y => cases (List.cons.inj h4).1
theorem stepAt_ok {w k : Nat} {is : List Ins} {i : Ins} {rs : List Tr} (h : PgOk w k is) {j : Nat} (hi : is[j]? = some i) : ∃ j2 : Nat, stepAt i j rs = (j2 : Int) ∧ j2 ≤ is.length := by
  have hl := (List.getElem?_eq_some_iff.mp hi).1
  have h1 := h j i hi
  cases hj : i.isJ with
  | false => exact ⟨j + 1, by rw [stepAt_no hj]; rfl, by omega⟩
  | true =>
    cases i with
    | jump a n =>
      obtain ⟨_, h2, h3⟩ := h1
      by_cases c : reg rs a = .leaf
      · exact ⟨j + 1, if_pos c, by omega⟩
      · refine ⟨((j : Int) + n).toNat, ?_, by omega⟩
        have : stepAt (.jump a n) j rs = (j : Int) + n := if_neg c
        rw [this]
        omega
    | _ => cases hj
theorem strs_trV {ys : List V} {n : Nat} (h : ∀ y ∈ ys, ∃ t : Tr, y = .str t.str ∧ t.sg.length ≤ n) : ∃ rs : List Tr, ys = trV rs ∧ ∀ t ∈ rs, t.sg.length ≤ n := trV_of h
theorem leafs (n : Nat) : (List.replicate n [V.str "0"]).flatten = trV (List.replicate n .leaf) := by
  rw [sleaf]
  unfold trV
  induction n with
  | zero => rfl
  | succ n ih =>
    rw [List.replicate_succ, List.flatten_cons, ih, List.replicate_succ]
    rfl
end Nx

/-! A method within a try; a text read from its end. -/
namespace Nx
open PySem PySem.Spec PyProof.Rows L2
/-- o.m(e, ..) where what is raised is told by the slots -/
def tMS (C : Addr) (m : Str) (sp : Sp) (EE : L2.St → XK) (to_ : TE) (tas : TA) : TE := fun σ H Q => to_ σ H fun o H1 =>
  ∃ a dx fs, o = .ref a ∧ H1 a = some (.ins C dx fs) ∧ fs.lookup m = none ∧ tas σ H1 fun ws H2 => sp (o :: ws) H2 Q (EE σ)
section
variable {X : Cx}
theorem pe_mS {CX : CXT} {lv : Nat} {g C : Addr} {fun_ : FuncData} {names : List Str} {sp : Sp} {EE : L2.St → XK} {m : Str} {p1 p2 : Pos} {a1 ob : Expr} {more : List Expr} {to_ : TE} {tas : TA} {pl : Sem Bool}
    (ho : PE X ob to_) (hC : Cls X.K C) (hM : Meth X.K C m g) (hF : FnOk X.prog X.w X.K X.mg X.base CX lv g fun_ names sp) (hR : Room lv X.A) (hB : Binds X.K fun_ names [])
    (hE : ∀ σ, PassesAt CX X σ (EE σ)) (hA : PA X (a1 :: more) tas)
    (hn : starEach (a1 :: more) X.env = (false, eval a1 X.env) :: starEach more X.env := by rfl) (hk : (backTo p1 (starEach more X.env)).any (·.1) = false := by rfl)
    (hv : eval (.Call (.Attribute ob m p2) (a1 :: more) [] p1) X.env = (do
      let self ← eval ob X.env
      standAt p2.atName
      let (g, front) ← holding [self] (getMethod self m pl)
      callWith p1 g front (backTo p1 (starEach (a1 :: more) X.env)) (backToKw p1 (keywordEach [] X.env))) := by rfl) :
    PE X (.Call (.Attribute ob m p2) (a1 :: more) [] p1) (tMS C m sp EE to_ tas) := by
  constructor
  intro pins s σ H Q I h
  apply PySem.W.methodCall_KW (pl := pl) _ hv
  refine thn (ho.run pins s σ H _ I h) ?_
  rintro u s1 ⟨x, H1, I1, rx, a, dx, fs, rfl, ea, none_, q⟩
  cases rx
  refine getmeth_ok I1 ea hC hM none_ (PySem.W.callWith_K (first := [.ref a]) (h₀ := X.base) I.ok.mod.kin hM.kp ?_ hn hk)
  refine thn (hA.run p1 pins s1 σ H1 _ I1 q) ?_
  rintro us s2 ⟨ws, H2, I2, r, q2⟩
  exact ⟨I2.kIn, run_fnS (us := .ref a :: us) (vs := .ref a :: ws) hF hR hB (hE σ) I2 (.cons rfl r) q2⟩
end
/-! ### reversed(text) -/
theorem str_norev : typeLookup (.type "str") "__reversed__" = pure none := by
  rw [typeLookup_type, builtinLookup_eq_fast]
  kernel_rfl
def revOb (x : Str) (t : Tok) (i : Int) : Obj := { cls := .type "reversed", data := .fields #[.str x t, rawInt i] }
def AtRev (h : Heap) (q : Addr) (x : Str) (i : Int) : Prop := ∃ o t, h.get? q = some o ∧ o.cls = .type "reversed" ∧ o.data = .fields #[.str x t, rawInt i]
theorem AtRev.on {h h' : Heap} {q : Addr} {x : Str} {i : Int} (z : AtRev h q x i) (k : ∀ o, h.get? q = some o → h'.get? q = some o) : AtRev h' q x i := by
  obtain ⟨o, t, ho, c, d⟩ := z
  exact ⟨o, t, k _ ho, c, d⟩
section
variable {prog : Program} {w : World} {A : Around} {E : Value → Shared → Prop} {s : Shared}
theorem rev_code {x : Str} {t : Tok} {R : Value → Shared → Prop} (hx : x.length ≤ sizeLine)
    (h : R (.ref s.heap.objs.size) { s with heap := s.heap.push (revOb x t ((x.length : Int) - 1)), toks := s.toks + 1 + 1 }) :
    codeAny (model prog w) A (.call (.builtin "reversed.__new__") ⟨[.type "reversed", .str x t], []⟩) (wants R E) s := by
  have hT : s.TypeIs (.str x t) "str" := typeIs_str s x t
  apply codeAny_of_tree
  show wpAny _ A.in1 (checkBuiltinCall "reversed.__new__" ⟨[.type "reversed", .str x t], []⟩ >>= fun _ => again (.builtin "reversed.__new__" ⟨[.type "reversed", .str x t], []⟩)) _ _ s
  apply wpAny_bind
  refine wpAny_of_eq (F.newCall_reversed_1 _) (wpAny_pure ⟨plainId_quiet F.plain_reversed_new _, codeAny_builtin F.entry_reversed_new ?_⟩)
  rw [Around.under_plainId F.plain_reversed_new _]
  unfold Builtin.«reversed.__new__»
  apply wpAny_bind
  refine wpAny_of_eq (newClass_reversed _) ?_
  try dsimp only
  apply wpAny_bind
  refine wpAny_of_eq (a := ()) (by first | rfl | kernel_rfl) ?_
  try dsimp only
  apply wpAny_bind
  refine wpAny_of_eq (a := ()) (by first | rfl | kernel_rfl) ?_
  try dsimp only
  apply wpAny_bind
  refine wpAny_specialOf hT str_norev ?_
  try dsimp only
  apply wpAny_bind
  wp_delta
  apply wpAny_bind
  refine wpAny_isInstance (T := "str") (U := "dict") (b := false) hT PySem.F.sub_str_dict ?_
  try dsimp only
  rw [if_neg Bool.false_ne_true]
  apply wpAny_bind
  refine wpAny_specialOf hT PySem.F.slot_str_getitem.lookup ?_
  try dsimp only
  first | rw [if_pos (by decide +kernel)] | skip
  apply wpAny_pure
  try dsimp only
  rw [if_neg (by decide)]
  apply wpAny_bind
  have hn := line63
  refine len_str (x := x) (t := t) (by omega) ?_
  apply wpAny_bind
  refine wpAny_of_eq (a := some ((x.length : Nat) : Int)) rfl ?_
  try dsimp only
  apply wpAny_bind
  show wpAny _ _ (newObj (.type "reversed") (.fields #[.str x t, rawInt ((x.length : Int) - 1)])) _ _ _
  exact wpAny_newObj_type (wpAny_pure h)
theorem rev_call {x : Str} {t : Tok} {Q : Value → Shared → Prop} (hx : x.length ≤ sizeLine)
    (h : Q (.ref s.heap.objs.size) { s with heap := s.heap.push (revOb x t ((x.length : Int) - 1)), toks := s.toks + 1 + 1 }) :
    wpAny (model prog w) A (call (.type "reversed") [.str x t]) Q E s := by
  refine callType_codes (Q₁ := fun ob s₁ => s₁.TypeIs ob "reversed" ∧ Q ob s₁) RT.called_rt (F.typeCall_reversed_1 _) F.entry_object_init
    (rev_code hx ⟨⟨_, Heap.get?_push_size _ rfl, rfl⟩, h⟩) ?_
  intro ob s₁ h₁
  exact ⟨h₁.1, F.args_object_init_2 ob _, object_init_meets RT.called_rt.init.lookup RT.called_rt.made (by decide) prog w A.in1 _ s₁ ⟨h₁.1, rfl, h₁.2⟩⟩
theorem rev_next {q : Addr} {x : Str} {i c : Nat} {Q : Option Value → Shared → Prop} (z : AtRev s.heap q x (i : Int)) (hc : x.cps[i]? = some c) (hx : x.length ≤ sizeLine)
    (k : ∀ h' t tk, AtRev h' q x ((i : Int) - 1) → Heap.SameBut q s.heap h' → Q (some (.str ⟨#[c]⟩ t)) { s with heap := h', toks := tk }) : wpAny (model prog w) A (pyNext (.ref q)) Q E s := by
  obtain ⟨o, t, ho, oc, od⟩ := id z
  have hi : i < x.length := (Array.getElem?_eq_some_iff.mp hc).1
  have hq : s.TypeIs (.ref q) "reversed" := ⟨o, ho, oc⟩
  have hn := line63
  have hT : s.TypeIs (.str x t) "str" := typeIs_str s x t
  unfold pyNext
  apply wpAny_bind
  refine wpAny_attempt (wpAny_callSpecial?_slot (name := Str.ofString "__next__") hq RT.slot_rt_next (wpAny_call_entry RT.slot_rt_next hq RT.entry_rt_next ?_ (RT.args_rt_next _)))
  unfold Builtin.«reversed.__next__»
  apply wpAny_bind
  refine wpAny_of_eq (a := (Value.ref q, [])) rfl ?_
  try dsimp only
  apply wpAny_bind
  refine wpAny_field ho od (x := .str x t) rfl ?_
  apply wpAny_bind
  refine wpAny_field ho od (x := rawInt (i : Int)) rfl ?_
  show wpAny _ _ (if (i : Int) < 0 then _ else _) _ _ s
  rw [if_neg (by omega)]
  apply wpAny_bind
  refine wpAny_specialOf hT PySem.F.slot_str_getitem.lookup ?_
  try dsimp only
  rw [if_neg (by decide)]
  apply wpAny_bind
  refine wpAny_mkInt ?_
  apply wpAny_bind
  apply wpAny_attempt
  have at_ : (seqIndex? (i : Int) x.length).bind (x.cps[·]?) = some c := by
    rw [seqIndex_of (k := i) (by omega) (by omega)]
    exact hc
  refine getItem_str (s := { s with toks := s.toks + 1 }) (by simp only [Bool.or_eq_false_iff, decide_eq_false_iff_not]; omega) at_ ?_
  try dsimp only
  apply wpAny_bind
  refine wpAny_field (s := { s with toks := s.toks + 1 + 1 }) ho od (x := rawInt (i : Int)) rfl ?_
  try dsimp only
  apply wpAny_bind
  refine wpAny_setField (s := { s with toks := s.toks + 1 + 1 }) ho od (by simp) ?_
  have fin : AtRev (s.heap.update q (Obj.mapFields (·.setIfInBounds 1 (rawInt ((i : Int) - 1))))) q x ((i : Int) - 1) :=
    ⟨_, t, Heap.get?_update_self _ ho (Obj.isFreed_of_fields (Obj.data_mapFields od _)), (Obj.cls_mapFields ..).trans oc, by rw [Obj.data_mapFields od]; simp⟩
  first
  | exact wpAny_pure ⟨_, rfl, wpAny_pure (k _ _ _ fin (Heap.SameBut.update ..))⟩
  | exact wpAny_bind (wpAny_pure (wpAny_pure ⟨_, rfl, wpAny_pure (k _ _ _ fin (Heap.SameBut.update ..))⟩))
theorem rev_done {q : Addr} {x : Str} {Q : Option Value → Shared → Prop} (hh : A.handled = none) (z : AtRev s.heap q x (-1))
    (k : ∀ h', Heap.ExtBut q s.heap h' → Q none { s with heap := h' }) : wpAny (model prog w) A (pyNext (.ref q)) Q E s := by
  obtain ⟨o, t, ho, oc, od⟩ := id z
  have hq : s.TypeIs (.ref q) "reversed" := ⟨o, ho, oc⟩
  unfold pyNext
  apply wpAny_bind
  refine wpAny_attempt (wpAny_callSpecial?_slot (name := Str.ofString "__next__") hq RT.slot_rt_next (wpAny_call_entry RT.slot_rt_next hq RT.entry_rt_next ?_ (RT.args_rt_next _)))
  unfold Builtin.«reversed.__next__»
  apply wpAny_bind
  refine wpAny_of_eq (a := (Value.ref q, [])) rfl ?_
  try dsimp only
  apply wpAny_bind
  refine wpAny_field ho od (x := .str x t) rfl ?_
  apply wpAny_bind
  refine wpAny_field ho od (x := rawInt (-1)) rfl ?_
  show wpAny _ _ (if (-1 : Int) < 0 then _ else _) _ _ s
  rw [if_pos (by decide)]
  apply wpAny_bind
  apply wpAny_rule
  apply wpAny_bind
  wp_delta
  apply wpAny_bind
  refine wpAny_setField ho od (by simp) ?_
  have ho2 := Heap.get?_update_self (Obj.mapFields (·.setIfInBounds 1 (rawInt (-1)))) ho (Obj.isFreed_of_fields (Obj.data_mapFields od _))
  refine wpAny_setField (s := { s with heap := s.heap.update q (Obj.mapFields (·.setIfInBounds 1 (rawInt (-1)))) }) ho2 (Obj.data_mapFields od _) (by simp) ?_
  try dsimp only
  first
  | show wpAny _ _ (newExc (.type "StopIteration") [] >>= _) _ _ _
  | (apply wpAny_bind; show wpAny _ _ (newExc (.type "StopIteration") [] >>= _) _ _ _)
  | (apply wpAny_bind; wp_delta; show wpAny _ _ (newExc (.type "StopIteration") [] >>= _) _ _ _)
  apply wpAny_bind
  simp only [newExc, newTuple]
  apply wpAny_bind
  refine wpAny_newObj_type ?_ (by size_fits)
  apply wpAny_bind (m := firstArgMember _ _)
  refine wpAny_of_eq (a := Value.none) (by first | rfl | (simp only [firstArgMember]; rfl)) ?_
  refine wpAny_newObj_type ?_ (by size_fits)
  simp only [raiseNew]
  apply wpAny_bind
  apply wpAny_handled
  first | rw [show A.in1.handled = none from hh] | rw [hh]
  refine wpAny_bind (wpAny_pure (wpAny_throw ?_))
  apply wpAny_bind
  refine wpAny_isInstance (T := "StopIteration") (b := true) ⟨_, Heap.get?_push_size _ rfl, rfl⟩ isSubtype_stop ?_
  apply wpAny_pure
  apply k
  have e0 : Heap.ExtBut q s.heap ((s.heap.update q (Obj.mapFields (·.setIfInBounds 1 (rawInt (-1))))).update q (Obj.mapFields (·.setIfInBounds 0 .none))) :=
    fun b ob hb e => (Heap.get?_update_other _ _ (Ne.symm hb)).trans ((Heap.get?_update_other _ _ (Ne.symm hb)).trans e)
  exact (e0.push _).push _
theorem rev_iter {q : Addr} {x : Str} {i : Int} {Q : Value → Shared → Prop} (z : AtRev s.heap q x i) (h : Q (.ref q) s) : wpAny (model prog w) A (pyIter (.ref q)) Q E s := by
  obtain ⟨o, t, ho, oc, od⟩ := id z
  have hq : s.TypeIs (.ref q) "reversed" := ⟨o, ho, oc⟩
  refine wpAny_pyIter_slot hq RT.slot_rt_iter (wpAny_call_entry RT.slot_rt_iter hq RT.entry_rt_iter ?_ (RT.args_rt_iter _))
  show wpAny _ _ (ret (.ref q)) _ _ s
  exact wpAny_pure ⟨_, rfl, "reversed", _, hq, RT.slot_rt_next.lookup, h⟩
end
/-- the signs of x from the last one on -/
def ItR (x : Str) : It := ⟨fun i _ => i < x.cps.size, fun i H v H' => H' = H ∧ ∃ c, x.cps[x.cps.size - 1 - i]? = some c ∧ v = .str ⟨#[c]⟩, fun i _ => x.cps.size ≤ i⟩
theorem turn_revS {P : Program} {w : World} {K : PySem.W.Frag} {tg : Expr} (q : Addr) (x : Str) (hx : x.cps.size ≤ sizeLine) :
    Turn P w K tg (ItR x) [q] q (fun i h => i ≤ x.cps.size ∧ AtRev h q x ((x.cps.size : Int) - 1 - (i : Nat))) where
  mem := List.mem_singleton.mpr rfl
  obj := by
    rintro i h ⟨_, o, t, e, c, d⟩ b hb
    cases List.mem_singleton.mp hb
    exact ⟨o, e, fun v z => by rw [d] at z; cases z⟩
  keep := fun i h h' st k => ⟨st.1, st.2.on fun o e => k q (List.mem_singleton.mpr rfl) o e⟩
  item := by
    intro X hP hw hK hc i pins s σ H E I hf st hg
    subst hP hw hK
    obtain ⟨f0, f1, f2, f3, f4, f5⟩ := hf q (List.mem_singleton.mpr rfl)
    obtain ⟨le, z⟩ := st
    have lt : i < x.cps.size := hg
    have e1 : (x.cps.size : Int) - 1 - ((i : Nat) : Int) = ((x.cps.size - 1 - i : Nat) : Int) := by omega
    have hcp : x.cps[x.cps.size - 1 - i]? = some x.cps[x.cps.size - 1 - i] := Array.getElem?_eq_getElem (by omega)
    rw [e1] at z
    refine rev_next z hcp hx fun h' t tk z' sb => ?_
    have e2 : ((x.cps.size - 1 - i : Nat) : Int) - 1 = (x.cps.size : Int) - 1 - ((i + 1 : Nat) : Int) := by omega
    rw [e2] at z'
    have I1 : Inv X pins σ H { s with heap := h', toks := tk } := I.turned (t' := tk) (fun b o hb e => (sb.2 b hb).trans e) f0 f1 f3 f4 f5
    obtain ⟨o, t', e, c, d⟩ := id z'
    exact ⟨_, rfl, go_of (s := { s with heap := h', toks := tk }) e c d (by decide) ⟨.str ⟨#[x.cps[x.cps.size - 1 - i]]⟩, H, I1, ⟨t, rfl⟩, ⟨rfl, _, hcp, rfl⟩, ⟨lt, z'⟩, fun b hb => (hf b hb).1⟩⟩
  done := by
    intro X hP hw hK hc i pins s σ H E I hf st hg
    subst hP hw hK
    obtain ⟨f0, f1, f2, f3, f4, f5⟩ := hf q (List.mem_singleton.mpr rfl)
    obtain ⟨le, z⟩ := st
    have ge : x.cps.size ≤ i := hg
    have e1 : (x.cps.size : Int) - 1 - ((i : Nat) : Int) = -1 := by omega
    rw [e1] at z
    exact rev_done (I.ok.hd hc) z fun h' eb => ⟨rfl, I.turned (t' := s.toks) (fun b o hb e => eb b o hb e) f0 f1 f3 f4 f5⟩
  self := fun A i s Q E st h => rev_iter st.2 h
def iRevS (te : TE) : TI := fun σ H R => te σ H fun v H1 => ∃ x, v = .str x ∧ x.cps.size ≤ sizeLine ∧ R (ItR x) H1
theorem pi_revS {X : Cx} {tg e : Expr} {te : TE} {p pos : Pos} (hg : Gl X "reversed") (hm : X.mg "reversed" = none) (he : PE X e te) (hs : starEach [e] X.env = (false, eval e X.env) :: starEach [] X.env := by rfl) :
    PI X tg (.Call (.Name "reversed" p) [e] [] pos) (iRevS te) := by
  constructor
  intro pins s σ H R I h
  refine Call_ (ld_blt I hg hm PyProof.Rows.boot_reversed (PyProof.Rows.callWith_type1 (args_cons (thn (he.run pins s σ H _ I h) ?_) hs) hs rfl))
  rintro u s1 ⟨v, H1, I1, r1, x, rfl, hx, q⟩
  obtain ⟨t, rfl⟩ := r1
  refine args_nil (rev_call hx (rev_iter (x := x) (i := (x.cps.size : Int) - 1) ⟨_, t, Heap.get?_push_size _ rfl, rfl, rfl⟩ ?_))
  refine pi_one (tk := s1.toks + 1 + 1) I1 _ (turn_revS _ x hx) ⟨Nat.zero_le _, ?_⟩ q
  have e1 : (x.cps.size : Int) - 1 - ((0 : Nat) : Int) = (x.cps.size : Int) - 1 := by omega
  rw [e1]
  exact ⟨_, t, Heap.get?_push_size _ rfl, rfl, rfl⟩
/-- a loop over a text's signs from the end: what is left, what is done -/
theorem for_revS {x : Str} {g : TG} {tb : TS} {D : Ends} {σ : L2.St} {H : Hp} (Pv : List Nat → List Nat → L2.St → Hp → Prop) (h0 : Pv x.cps.toList [] σ H)
    (hs : ∀ a c r σ H, a ++ c :: r = x.cps.toList → Pv (a ++ [c]) r σ H → g (.str (stS [c])) σ H fun σ2 H2 => tb { D with nx := Pv a (c :: r), ct := Pv a (c :: r), bk := D.nx } σ2 H2)
    (hd : ∀ σ H, Pv [] x.cps.toList σ H → D.nx σ H) :
    ∃ W : Nat → Nat → L2.St → Hp → Prop, (∃ m, W 0 m σ H) ∧ ∀ i m σ H, W i m σ H →
      ((ItR x).stop i H ∧ D.nx σ H) ∨ ((ItR x).go i H ∧ ∃ N : L2.St → Hp → Prop, (∀ σ' H', N σ' H' → ∃ m', m' < m ∧ W (i + 1) m' σ' H') ∧ ∀ v H', (ItR x).yld i H v H' → g v σ H' fun σ2 H2 => tb { D with nx := N, ct := N, bk := D.nx } σ2 H2) := by
  have hz : x.cps.toList.length = x.cps.size := Array.length_toList
  let n := x.cps.size
  refine ⟨fun i m σ H => m = n - i ∧ i ≤ n ∧ Pv (x.cps.toList.take (n - i)) (x.cps.toList.drop (n - i)) σ H, ⟨_, rfl, Nat.zero_le _, ?_⟩, ?_⟩
  · have e1 : x.cps.toList.take (n - 0) = x.cps.toList := List.take_of_length_le (by omega)
    have e2 : x.cps.toList.drop (n - 0) = [] := List.drop_eq_nil_of_le (by omega)
    rw [e1, e2]
    exact h0
  · rintro i m σ H ⟨rfl, hi, p⟩
    by_cases lt : i < n
    · have e0 : n - i = (n - 1 - i) + 1 := by omega
      have hl : n - 1 - i < x.cps.toList.length := by omega
      have e1 := List.drop_eq_getElem_cons hl
      have e2 : x.cps.toList.take (n - 1 - i + 1) = x.cps.toList.take (n - 1 - i) ++ [x.cps.toList[n - 1 - i]] := by
        rw [List.take_add_one, List.getElem?_eq_getElem hl]
        rfl
      have e3 : n - 1 - i = n - (i + 1) := by omega
      refine .inr ⟨lt, Pv (x.cps.toList.take (n - (i + 1))) (x.cps.toList.drop (n - (i + 1))), fun σ' H' p' => ⟨n - (i + 1), by omega, rfl, lt, p'⟩, ?_⟩
      rintro v H' ⟨rfl, c, hc, rfl⟩
      have ec : c = x.cps.toList[n - 1 - i] := by
        have : x.cps[n - 1 - i]? = some x.cps.toList[n - 1 - i] := by
          rw [← Array.getElem?_toList]
          exact List.getElem?_eq_getElem hl
        exact Option.some.inj (hc.symm.trans this)
      have hy : x.cps.toList[n - 1 - i]? = some c := by rw [ec]; exact List.getElem?_eq_getElem hl
      rw [← ec] at e1 e2
      clear ec hc
      rw [e0, e2] at p
      have := hs (x.cps.toList.take (n - 1 - i)) c (x.cps.toList.drop (n - 1 - i + 1)) σ _ (by rw [← e1, List.take_append_drop]) p
      rw [← e1, e3] at this
      exact this
    · have e : n - i = 0 := by omega
      rw [e] at p
      exact .inl ⟨Nat.le_of_not_lt lt, hd σ H p⟩
end Nx

/-! Trees by their numbers; many steps. -/
namespace Nx
open PySem PySem.Spec PyProof.Rows L2
/-! ### reading a tree from its end -/
def stO : List Nat → Option (List Tr)
  | [] => some []
  | c :: r => if c = 49 then (match stO r with
    | some (a :: b :: q) => some (.node a b :: q)
    | _ => none) else (stO r).map (.leaf :: ·)
theorem stO_tree : ∀ (t : Tr) (r : List Nat) (us : List Tr), stO r = some us → stO (t.sg ++ r) = some (t :: us)
  | .leaf, r, us, h => by
    show (stO r).map (Tr.leaf :: ·) = _
    rw [h]
    rfl
  | .node a b, r, us, h => by
    have hb := stO_tree b r us h
    have ha := stO_tree a (b.sg ++ r) (b :: us) hb
    have e : (Tr.node a b).sg ++ r = 49 :: (a.sg ++ (b.sg ++ r)) := by
      show 49 :: (a.sg ++ b.sg) ++ r = _
      rw [List.cons_append, List.append_assoc]
    rw [e]
    show (match stO (a.sg ++ (b.sg ++ r)) with
      | some (a :: b :: q) => some (Tr.node a b :: q)
      | _ => none) = _
    rw [ha]
theorem stO_suf : ∀ (a r : List Nat) (us : List Tr), stO (a ++ r) = some us → ∃ vs, stO r = some vs
  | [], r, us, h => ⟨us, h⟩
  | c :: a, r, us, h => by
    have h : (if c = 49 then (match stO (a ++ r) with
      | some (a :: b :: q) => some (Tr.node a b :: q)
      | _ => none) else (stO (a ++ r)).map (Tr.leaf :: ·)) = some us := h
    cases e : stO (a ++ r) with
    | none =>
      rw [e] at h
      split at h <;> cases h
    | some vs => exact stO_suf a r vs e
theorem stO_one {t : Tr} : stO t.sg = some [t] := by
  have := stO_tree t [] [] rfl
  rwa [List.append_nil] at this
theorem stO_49 {r : List Nat} {us : List Tr} (h : stO (49 :: r) = some us) : ∃ a b q, stO r = some (a :: b :: q) ∧ us = .node a b :: q := by
  have h : (match stO r with
    | some (a :: b :: q) => some (Tr.node a b :: q)
    | _ => none) = some us := h
  split at h
  · rename_i a b q e
    exact ⟨a, b, q, e, (Option.some.inj h).symm⟩
  · cases h
theorem stO_48 {r : List Nat} {us : List Tr} (h : stO (48 :: r) = some us) : ∃ q, stO r = some q ∧ us = .leaf :: q := by
  have h : (stO r).map (Tr.leaf :: ·) = some us := h
  cases e : stO r with
  | none =>
    rw [e] at h
    cases h
  | some q =>
    rw [e] at h
    exact ⟨q, rfl, (Option.some.inj h).symm⟩
/-! ### the table -/
def Ext (T T' : List Tr) : Prop := ∀ (k : Nat) (s : Tr), T[k]? = some s → T'[k]? = some s
theorem Ext.refl (T : List Tr) : Ext T T := fun _ _ h => h
theorem Ext.trans {T T1 T2 : List Tr} (a : Ext T T1) (b : Ext T1 T2) : Ext T T2 := fun k s h => b k s (a k s h)
theorem Ext.app (T r : List Tr) : Ext T (T ++ r) := fun k s h => by
  rw [List.getElem?_append_left (List.getElem?_eq_some_iff.mp h).1]
  exact h
structure Tb (hs ts : List Nat) (T : List Tr) : Prop where
  lh : hs.length = T.length
  lt : ts.length = T.length
  z : T[0]? = some .leaf
  at_ : ∀ (n : Nat) (t : Tr), T[n]? = some t → ∃ h k : Nat, hs[n]? = some h ∧ ts[n]? = some k ∧ T[h]? = some t.hd ∧ T[k]? = some t.tl
  no : ∀ (n : Nat) (t : Tr), n ≠ 0 → T[n]? = some t → t ≠ .leaf
theorem one_at {n : Nat} {t : Tr} (h : [Tr.leaf][n]? = some t) : n = 0 ∧ t = .leaf := by
  cases n with
  | zero => exact ⟨rfl, (Option.some.inj h).symm⟩
  | succ n => cases h
theorem Tb.new : Tb [0] [0] [.leaf] := ⟨rfl, rfl, rfl, fun n t h => by
  obtain ⟨rfl, rfl⟩ := one_at h
  exact ⟨0, 0, rfl, rfl, rfl, rfl⟩, fun n t n0 e => absurd (one_at e).1 n0⟩
theorem Tb.push {hs ts : List Nat} {T : List Tr} {a b : Nat} {s t : Tr} (h : Tb hs ts T) (ha : T[a]? = some s) (hb : T[b]? = some t) : Tb (hs ++ [a]) (ts ++ [b]) (T ++ [.node s t]) := by
  have e := Ext.app T [.node s t]
  have last : ∀ (n : Nat) (u : Tr), (T ++ [Tr.node s t])[n]? = some u → T[n]? = some u ∨ (n = T.length ∧ u = .node s t) := fun n u hn => by
    have hl := (List.getElem?_eq_some_iff.mp hn).1
    rw [List.length_append, List.length_singleton] at hl
    by_cases c : n < T.length
    · rw [List.getElem?_append_left c] at hn
      exact .inl hn
    · have c2 : n = T.length := by omega
      rw [c2, List.getElem?_append_right (Nat.le_refl _), Nat.sub_self] at hn
      exact .inr ⟨c2, (Option.some.inj hn).symm⟩
  refine ⟨by rw [List.length_append, List.length_append, h.lh]; rfl, by rw [List.length_append, List.length_append, h.lt]; rfl, e _ _ h.z, fun n u hn => ?_, fun n u n0 hn => ?_⟩
  · rcases last n u hn with h1 | ⟨rfl, rfl⟩
    · obtain ⟨x, y, e1, e2, e3, e4⟩ := h.at_ n u h1
      exact ⟨x, y, by rw [List.getElem?_append_left (List.getElem?_eq_some_iff.mp e1).1]; exact e1, by rw [List.getElem?_append_left (List.getElem?_eq_some_iff.mp e2).1]; exact e2, e _ _ e3, e _ _ e4⟩
    · exact ⟨a, b, by rw [← h.lh, List.getElem?_append_right (Nat.le_refl _), Nat.sub_self]; rfl, by rw [← h.lt, List.getElem?_append_right (Nat.le_refl _), Nat.sub_self]; rfl, e _ _ ha, e _ _ hb⟩
  · rcases last n u hn with h1 | ⟨rfl, rfl⟩
    · exact h.no n u n0 h1
    · exact fun z => by cases z
/-- the trees that the numbers stand for -/
abbrev Nums (T : List Tr) : List Nat → List Tr → Prop := Paired fun (n : Nat) t => T[n]? = some t
theorem Nums.ext {T T' : List Tr} {ns : List Nat} {us : List Tr} (h : Nums T ns us) (e : Ext T T') : Nums T' ns us := Paired.imp (fun n t q => e n t q) h
theorem nums_0 {T : List Tr} (h : T[0]? = some .leaf) : ∀ n : Nat, Nums T (List.replicate n 0) (List.replicate n .leaf)
  | 0 => .nil
  | n + 1 => .cons h (nums_0 h n)
/-! ### many steps -/
def bigS (i : Ins) (rs : List Tr) : Bool := match i with
  | .cons _ b c => decide (200000 < (Tr.node (reg rs b) (reg rs c)).sg.length)
  | _ => false
/-- a jump leads nowhere else -/
def JOk (is : List Ins) : Prop := ∀ (j : Nat) (i : Ins) (rs : List Tr), is[j]? = some i → ∃ j2 : Nat, stepAt i j rs = (j2 : Int) ∧ j2 ≤ is.length
def go (is : List Ins) : Nat → Nat → List Tr → Option (Nat × List Tr × Nat)
  | 0, k, rs => some (k, rs, 0)
  | n + 1, k, rs => match is[k]? with
    | none => some (k, rs, 0)
    | some i => if bigS i rs then none else (go is n (stepAt i k rs).toNat (stepRs i rs)).map fun q => (q.1, q.2.1, q.2.2 + 1)
def addN (j : Nat) (q : Option (Nat × List Tr × Nat)) : Option (Nat × List Tr × Nat) := q.map fun q => (q.1, q.2.1, q.2.2 + j)
theorem addN_0 (q : Option (Nat × List Tr × Nat)) : addN 0 q = q := by
  cases q <;> rfl
theorem go_end {is : List Ins} {n k : Nat} {rs : List Tr} (h : is[k]? = none) : go is n k rs = some (k, rs, 0) := by
  cases n with
  | zero => rfl
  | succ n =>
    unfold go
    rw [h]
theorem go_big {is : List Ins} {n k : Nat} {rs : List Tr} {i : Ins} (h : is[k]? = some i) (g : bigS i rs = true) : go is (n + 1) k rs = none := by
  unfold go
  rw [h]
  exact if_pos g
theorem go_succ (is : List Ins) (n k : Nat) (rs : List Tr) : go is (n + 1) k rs = match is[k]? with
    | none => some (k, rs, 0)
    | some i => if bigS i rs then none else addN 1 (go is n (stepAt i k rs).toNat (stepRs i rs)) := rfl
theorem go_on {is : List Ins} {n k : Nat} {rs : List Tr} {i : Ins} (h : is[k]? = some i) (g : bigS i rs = false) : go is (n + 1) k rs = addN 1 (go is n (stepAt i k rs).toNat (stepRs i rs)) := by
  rw [go_succ, h]
  show (if bigS i rs = true then _ else _) = _
  rw [g]
  rfl
theorem addN_addN (a b : Nat) (q : Option (Nat × List Tr × Nat)) : addN a (addN b q) = addN (b + a) q := by
  cases q with
  | none => rfl
  | some q => 
    show some _ = some _
    simp [Nat.add_assoc]
theorem go_le {is : List Ins} {M : Nat} (hM : 200000 ≤ M) (hb : ∀ i ∈ is, i.below 20 ∧ i.big ≤ M) : ∀ (n k : Nat) (rs : List Tr) {k' d : Nat} {rs' : List Tr}, rs.length = 20 → (∀ t ∈ rs, t.sg.length ≤ M) → go is n k rs = some (k', rs', d) → ∀ t ∈ rs', t.sg.length ≤ M
  | 0, k, rs, k', d, rs', _, h, e => by
    cases e
    exact h
  | n + 1, k, rs, k', d, rs', hl, h, e => by
    cases hi : is[k]? with
    | none =>
      rw [go_end hi] at e
      cases e
      exact h
    | some i =>
      cases hg : bigS i rs with
      | true =>
        rw [go_big hi hg] at e
        cases e
      | false =>
        rw [go_on hi hg] at e
        cases e2 : go is n (stepAt i k rs).toNat (stepRs i rs) with
        | none =>
          rw [e2] at e
          cases e
        | some q =>
          rw [e2] at e
          obtain ⟨q1, q2, q3⟩ := q
          cases e
          obtain ⟨b1, b2⟩ := hb i (List.mem_of_getElem? hi)
          refine go_le hM hb n _ _ (by rw [stepRs_len]; exact hl) (stepRs_le h fun hj => ?_) e2
          have rg : ∀ b, b ∈ i.regs → (reg rs b).sg.length ≤ M := fun b hbr => h _ (reg_mem (by rw [hl]; exact b1 b hbr))
          cases i with
          | jump a m => cases hj
          | set a t => exact b2
          | move a b => exact rg b (by simp [Ins.regs])
          | head a b => exact Nat.le_trans (hd_len _) (rg b (by simp [Ins.regs]))
          | tail a b => exact Nat.le_trans (tl_len _) (rg b (by simp [Ins.regs]))
          | cons a b c =>
            have hg : decide (200000 < (Tr.node (reg rs b) (reg rs c)).sg.length) = false := hg
            have := of_decide_eq_false hg
            show (Tr.node (reg rs b) (reg rs c)).sg.length ≤ M
            omega
theorem go_more {is : List Ins} : ∀ (n k : Nat) (rs : List Tr) {k' d : Nat} {rs' : List Tr}, go is n k rs = some (k', rs', d) → d ≤ n ∧ (k' < is.length → d = n) ∧ (k ≤ is.length → is.length ≤ k' → d = 0 ∨ k < is.length)
  | 0, k, rs, k', d, rs', e => by
    cases e
    exact ⟨Nat.le_refl _, fun _ => rfl, fun _ _ => .inl rfl⟩
  | n + 1, k, rs, k', d, rs', e => by
    cases hi : is[k]? with
    | none =>
      rw [go_end hi] at e
      cases e
      have := List.getElem?_eq_none_iff.mp hi
      exact ⟨Nat.zero_le _, fun h => by omega, fun _ _ => .inl rfl⟩
    | some i =>
      have hk := (List.getElem?_eq_some_iff.mp hi).1
      cases hg : bigS i rs with
      | true =>
        rw [go_big hi hg] at e
        cases e
      | false =>
        rw [go_on hi hg] at e
        cases e2 : go is n (stepAt i k rs).toNat (stepRs i rs) with
        | none =>
          rw [e2] at e
          cases e
        | some q =>
          rw [e2] at e
          obtain ⟨q1, q2, q3⟩ := q
          cases e
          obtain ⟨h1, h2, h3⟩ := go_more n _ _ e2
          exact ⟨by show q3 + 1 ≤ n + 1; omega, fun h => by rw [h2 h], fun _ _ => .inr hk⟩
/-- fewer steps: what needs d of them is not done before -/
theorem go_less {is : List Ins} (hJ : JOk is) : ∀ (n k : Nat) (rs : List Tr) {d : Nat} {rs' : List Tr}, go is n k rs = some (is.length, rs', d) → go is d k rs = some (is.length, rs', d) ∧ ∀ m, m < d → ∃ k2 rs2, go is m k rs = some (k2, rs2, m) ∧ k2 < is.length
  | 0, k, rs, d, rs', e => by
    cases e
    exact ⟨rfl, fun m h => by omega⟩
  | n + 1, k, rs, d, rs', e => by
    cases hi : is[k]? with
    | none =>
      rw [go_end hi] at e
      cases e
      exact ⟨rfl, fun m h => by omega⟩
    | some i =>
      have hk := (List.getElem?_eq_some_iff.mp hi).1
      cases hg : bigS i rs with
      | true =>
        rw [go_big hi hg] at e
        cases e
      | false =>
        rw [go_on hi hg] at e
        cases e2 : go is n (stepAt i k rs).toNat (stepRs i rs) with
        | none =>
          rw [e2] at e
          cases e
        | some q =>
          rw [e2] at e
          obtain ⟨q1, q2, q3⟩ := q
          cases e
          obtain ⟨h1, h2⟩ := go_less hJ n _ _ e2
          refine ⟨by rw [go_on hi hg, h1]; rfl, fun m hm => ?_⟩
          have hm : m < q3 + 1 := hm
          cases m with
          | zero => exact ⟨k, rs, rfl, hk⟩
          | succ m =>
            obtain ⟨k2, rs2, g1, g2⟩ := h2 m (by omega)
            exact ⟨k2, rs2, by rw [go_on hi hg, g1]; rfl, g2⟩
theorem go_small {i : Ins} {rs : List Tr} (hl : rs.length = 20) (hb : i.below 20) (h : ∀ t ∈ rs, t.sg.length ≤ 3000) : bigS i rs = false := by
  cases i with
  | cons a b c =>
    have h1 := h _ (reg_mem (by rw [hl]; exact hb b (by simp [Ins.regs])))
    have h2 := h _ (reg_mem (by rw [hl]; exact hb c (by simp [Ins.regs])))
    have h3 := node_len (reg rs b) (reg rs c)
    exact decide_eq_false (by omega)
  | _ => rfl
theorem notTold_tree (t : Tr) : notTold (.str t.str) := by
  have ne : ∀ z : Str, (z.cps.toList.all fun c => c == 48 || c == 49) = false → PyData.eqv (.str z) (.str t.str) = false := fun z hz => by
    cases e : PyData.eqv (.str z) (.str t.str) with
    | false => rfl
    | true =>
      exfalso
      have e : (z == t.str) = true := e
      have e2 := eq_of_beq e
      rw [e2] at hz
      have := (all01_iff t.sg).mpr t.sg_01
      rw [show t.str.cps.toList = t.sg from rfl, this] at hz
      cases hz
  refine ⟨?_, ne _ (by decide +kernel), ne _ (by decide +kernel), ne _ (by decide +kernel)⟩
  show ((PyData.strOk t.str && true) && decide (max 0 0 + 1 ≤ 64)) = true
  rw [show t.str = stS t.sg from rfl, strOk_01 t.sg_01]
  rfl
def rs0 (x : Tr) : List Tr := x :: List.replicate 19 .leaf
/-! ### the heap of a machine -/
def natsV (ns : List Nat) : List V := ns.map fun n : Nat => V.int (n : Int)
def sizV (T : List Tr) : List V := T.map fun t => V.int (t.sg.length : Int)
theorem natsV_len (ns : List Nat) : (natsV ns).length = ns.length := List.length_map _
theorem sizV_len (T : List Tr) : (sizV T).length = T.length := List.length_map _
theorem natsV_at {ns : List Nat} {j n : Nat} (h : ns[j]? = some n) : atI (natsV ns) (j : Int) = some (.int n) := atI_nat (by
  unfold natsV
  rw [List.getElem?_map, h]
  rfl)
theorem sizV_at {T : List Tr} {j : Nat} {t : Tr} (h : T[j]? = some t) : atI (sizV T) (j : Int) = some (.int t.sg.length) := atI_nat (by
  unfold sizV
  rw [List.getElem?_map, h]
  rfl)
theorem natsV_app (ns : List Nat) (n : Nat) : natsV ns ++ [.int n] = natsV (ns ++ [n]) := by
  unfold natsV
  rw [List.map_append]
  rfl
theorem sizV_app (T : List Tr) (t : Tr) : sizV T ++ [.int t.sg.length] = sizV (T ++ [t]) := by
  unfold sizV
  rw [List.map_append]
  rfl
theorem natsV_pop (ns : List Nat) (n : Nat) : (natsV (ns ++ [n]))[(natsV (ns ++ [n])).length - 1]? = some (.int n) := by
  rw [← natsV_app, List.length_append, List.length_singleton, Nat.add_sub_cancel, List.getElem?_append_right (Nat.le_refl _), Nat.sub_self]
  rfl
theorem natsV_drop (ns : List Nat) (n : Nat) : (natsV (ns ++ [n])).dropLast = natsV ns := by
  rw [← natsV_app, List.dropLast_concat]
theorem stO_len : ∀ (r : List Nat) (us : List Tr), stO r = some us → us.length ≤ r.length
  | [], us, h => by
    cases h
    exact Nat.le_refl _
  | c :: r, us, h => by
    obtain ⟨vs, hv⟩ := stO_suf [c] r us h
    have ih := stO_len r vs hv
    rw [List.length_cons]
    by_cases e : c = 49
    · subst e
      obtain ⟨a, b, q, h1, rfl⟩ := stO_49 h
      rw [hv] at h1
      cases h1
      simp only [List.length_cons] at ih ⊢
      omega
    · have h : (if c = 49 then (match stO r with
        | some (a :: b :: q) => some (Tr.node a b :: q)
        | _ => none) else (stO r).map (Tr.leaf :: ·)) = some us := h
      rw [if_neg e, hv] at h
      cases h
      rw [List.length_cons]
      omega
theorem c49 (r : List Nat) : (49 :: r).count 49 = r.count 49 + 1 := List.count_cons_self
/-- an instruction at k as the machine notes it; n: the number of a tree that is set -/
def plV (i : Ins) (k : Int) (n : Nat) : List V := match i with
  | .set a _ => [.str "set", .int a, .int n, .int 0]
  | .jump a m => [.str "jump", .int a, .int (k + m), .int 0]
  | .cons a b c => [.str "cons", .int a, .int b, .int c]
  | .move a b => [.str "move", .int a, .int b, .int 0]
  | .head a b => [.str "head", .int a, .int b, .int 0]
  | .tail a b => [.str "tail", .int a, .int b, .int 0]
/-- the tree that is set -/
def SetN (T : List Tr) (i : Ins) (n : Nat) : Prop := ∀ a t, i = .set a t → T[n]? = some t
theorem SetN.ext {T T' : List Tr} {i : Ins} {n : Nat} (h : SetN T i n) (e : Ext T T') : SetN T' i n := fun a t z => e _ _ (h a t z)
theorem pairs_le (t : Tr) : t.pairs ≤ t.sg.length := by
  have := t.sg_len
  omega
structure FsOk (fs : List (Str × V)) (Ah At As : Addr) : Prop where
  h : fs.lookup ("heads" : Str) = some (.ref Ah)
  t : fs.lookup ("tails" : Str) = some (.ref At)
  s : fs.lookup ("sizes" : Str) = some (.ref As)
  pair : fs.lookup ("pair" : Str) = none
  joined : fs.lookup ("joined" : Str) = none
  enter : fs.lookup ("enter" : Str) = none
  planned : fs.lookup ("planned" : Str) = none
  advance : fs.lookup ("advance" : Str) = none
  tree_of : fs.lookup ("tree_of" : Str) = none
theorem look_no {α : Type} {k g : Str} {v : α} {r : List (Str × α)} (h : (k == g) = false) : ((g, v) :: r).lookup k = r.lookup k := by
  show (match k == g with | true => some v | false => r.lookup k) = _
  rw [h]
theorem look_is {α : Type} {k : Str} {v : α} {r : List (Str × α)} : ((k, v) :: r).lookup k = some v := by
  show (match k == k with | true => some v | false => r.lookup k) = _
  rw [beq_self_eq_true k]
def m3 (Ah At As : Addr) (r : List (Str × V)) : List (Str × V) := ("heads", .ref Ah) :: ("tails", .ref At) :: ("sizes", .ref As) :: r
def mAt (k : Int) (r : List (Str × V)) : List (Str × V) := ("at", .int k) :: r
def mRg (R : Addr) (r : List (Str × V)) : List (Str × V) := ("registers", .ref R) :: r
def mPl (L : Addr) : List (Str × V) := [("plan", .ref L)]
theorem m3_no {Ah At As : Addr} {r : List (Str × V)} {k : Str} (h : (k == "heads" || k == "tails" || k == "sizes") = false) : (m3 Ah At As r).lookup k = r.lookup k := by
  simp only [Bool.or_eq_false_iff] at h
  exact (look_no h.1.1).trans ((look_no h.1.2).trans (look_no h.2))
theorem m3_ok {Ah At As : Addr} {r : List (Str × V)} (h1 : r.lookup ("pair" : Str) = none) (h2 : r.lookup ("joined" : Str) = none) (h3 : r.lookup ("enter" : Str) = none) (h4 : r.lookup ("planned" : Str) = none) (h5 : r.lookup ("advance" : Str) = none) (h6 : r.lookup ("tree_of" : Str) = none) : FsOk (m3 Ah At As r) Ah At As :=
  ⟨look_is, (look_no (by decide +kernel)).trans look_is, (look_no (by decide +kernel)).trans ((look_no (by decide +kernel)).trans look_is), (m3_no (by decide +kernel)).trans h1, (m3_no (by decide +kernel)).trans h2, (m3_no (by decide +kernel)).trans h3, (m3_no (by decide +kernel)).trans h4, (m3_no (by decide +kernel)).trans h5, (m3_no (by decide +kernel)).trans h6⟩
theorem m4_ok (Ah At As : Addr) (k : Int) : FsOk (m3 Ah At As (mAt k [])) Ah At As := m3_ok (look_no (by decide +kernel)) (look_no (by decide +kernel)) (look_no (by decide +kernel)) (look_no (by decide +kernel)) (look_no (by decide +kernel)) (look_no (by decide +kernel))
theorem m5_ok (Ah At As R : Addr) (k : Int) : FsOk (m3 Ah At As (mAt k (mRg R []))) Ah At As := by
  have f : ∀ z : Str, (z == "at") = false → (z == "registers") = false → (mAt k (mRg R [])).lookup z = none := fun z a b => (look_no a).trans (look_no b)
  exact m3_ok (f _ (by decide +kernel) (by decide +kernel)) (f _ (by decide +kernel) (by decide +kernel)) (f _ (by decide +kernel) (by decide +kernel)) (f _ (by decide +kernel) (by decide +kernel)) (f _ (by decide +kernel) (by decide +kernel)) (f _ (by decide +kernel) (by decide +kernel))
abbrev m6 (Ah At As R L : Addr) (k : Int) : List (Str × V) := m3 Ah At As (mAt k (mRg R (mPl L)))
theorem m6_ok (Ah At As R L : Addr) (k : Int) : FsOk (m6 Ah At As R L k) Ah At As := by
  have f : ∀ z : Str, (z == "at") = false → (z == "registers") = false → (z == "plan") = false → (mAt k (mRg R (mPl L))).lookup z = none := fun z a b c => (look_no a).trans ((look_no b).trans (look_no c))
  exact m3_ok (f _ (by decide +kernel) (by decide +kernel) (by decide +kernel)) (f _ (by decide +kernel) (by decide +kernel) (by decide +kernel)) (f _ (by decide +kernel) (by decide +kernel) (by decide +kernel)) (f _ (by decide +kernel) (by decide +kernel) (by decide +kernel)) (f _ (by decide +kernel) (by decide +kernel) (by decide +kernel)) (f _ (by decide +kernel) (by decide +kernel) (by decide +kernel))
theorem m6_at (Ah At As R L : Addr) (k : Int) : (m6 Ah At As R L k).lookup ("at" : Str) = some (.int k) := (m3_no (by decide +kernel)).trans look_is
theorem m6_rg (Ah At As R L : Addr) (k : Int) : (m6 Ah At As R L k).lookup ("registers" : Str) = some (.ref R) := (m3_no (by decide +kernel)).trans ((look_no (by decide +kernel)).trans look_is)
theorem m6_pl (Ah At As R L : Addr) (k : Int) : (m6 Ah At As R L k).lookup ("plan" : Str) = some (.ref L) := (m3_no (by decide +kernel)).trans ((look_no (by decide +kernel)).trans ((look_no (by decide +kernel)).trans look_is))
theorem put_is {f : Str} {v x : V} {r : List (Str × V)} : putF f v ((f, x) :: r) = (f, v) :: r := if_pos rfl
theorem put_no {f g : Str} {v x : V} {r : List (Str × V)} (h : ¬ g = f) : putF f v ((g, x) :: r) = (g, x) :: putF f v r := if_neg h
theorem m3_new (Ah At As : Addr) : putF ("sizes" : Str) (.ref As) (putF ("tails" : Str) (.ref At) (putF ("heads" : Str) (.ref Ah) [])) = m3 Ah At As [] := by
  show putF ("sizes" : Str) (.ref As) (putF ("tails" : Str) (.ref At) [("heads", .ref Ah)]) = _
  rw [put_no (by decide +kernel)]
  exact (put_no (by decide +kernel)).trans (congrArg _ (put_no (by decide +kernel)))
theorem m3_put {Ah At As : Addr} {r : List (Str × V)} {k : Str} {v : V} (h1 : ¬ ("heads" : Str) = k) (h2 : ¬ ("tails" : Str) = k) (h3 : ¬ ("sizes" : Str) = k) : putF k v (m3 Ah At As r) = m3 Ah At As (putF k v r) := by
  unfold m3
  rw [put_no h1, put_no h2, put_no h3]
theorem m4_new (Ah At As : Addr) (k : Int) : putF ("at" : Str) (.int k) (m3 Ah At As []) = m3 Ah At As (mAt k []) := m3_put (by decide +kernel) (by decide +kernel) (by decide +kernel)
theorem m5_new (Ah At As R : Addr) (k : Int) : putF ("registers" : Str) (.ref R) (m3 Ah At As (mAt k [])) = m3 Ah At As (mAt k (mRg R [])) := (m3_put (by decide +kernel) (by decide +kernel) (by decide +kernel)).trans (congrArg _ (put_no (by decide +kernel)))
theorem m6_new (Ah At As R L : Addr) (k : Int) : putF ("plan" : Str) (.ref L) (m3 Ah At As (mAt k (mRg R []))) = m6 Ah At As R L k := (m3_put (by decide +kernel) (by decide +kernel) (by decide +kernel)).trans (congrArg _ ((put_no (by decide +kernel)).trans (congrArg _ (put_no (by decide +kernel)))))
theorem m6_put (Ah At As R L : Addr) (k j : Int) : putF ("at" : Str) (.int j) (m6 Ah At As R L k) = m6 Ah At As R L j := (m3_put (by decide +kernel) (by decide +kernel) (by decide +kernel)).trans (congrArg _ put_is)
structure MacAt (H : Hp) (Ah At As : Addr) (T : List Tr) : Prop where
  get : ∃ hs ts : List Nat, H Ah = some (.lst (natsV hs)) ∧ H At = some (.lst (natsV ts)) ∧ H As = some (.lst (sizV T)) ∧ Tb hs ts T
  ht : Ah ≠ At
  hs : Ah ≠ As
  ts : At ≠ As
/-- what stands but at some addresses -/
def ButL (as : List Addr) (H H' : Hp) : Prop := ∀ b o, b ∉ as → H b = some o → H' b = some o
theorem ButL.refl (as : List Addr) (H : Hp) : ButL as H H := fun _ _ _ h => h
theorem ButL.trans {as : List Addr} {H H1 H2 : Hp} (a : ButL as H H1) (b : ButL as H1 H2) : ButL as H H2 := fun c o n h => b c o n (a c o n h)
theorem _root_.L2.Same.butL {as : List Addr} {H H' : Hp} (s : Same H H') : ButL as H H' := fun b o _ h => s b o h
theorem ButL.upd {as : List Addr} {H : Hp} {a : Addr} {o : HO} (h : a ∈ as) : ButL as H (upd H a o) := fun b x n e => by
  rw [upd_ne (fun z => n (by rw [z]; exact h))]
  exact e
theorem MacAt.pos {H : Hp} {Ah At As : Addr} {T : List Tr} (h : MacAt H Ah At As T) : 0 < T.length := by
  obtain ⟨hs, ts, _, _, _, g⟩ := h.get
  exact (List.getElem?_eq_some_iff.mp g.z).1
/-- other changes do not touch the table -/
theorem MacAt.but {as : List Addr} {H H' : Hp} {Ah At As : Addr} {T : List Tr} (h : MacAt H Ah At As T) (e : ButL as H H') (h1 : Ah ∉ as) (h2 : At ∉ as) (h3 : As ∉ as) : MacAt H' Ah At As T := by
  obtain ⟨hs, ts, a, b, c, g⟩ := h.get
  exact ⟨⟨hs, ts, e _ _ h1 a, e _ _ h2 b, e _ _ h3 c, g⟩, h.ht, h.hs, h.ts⟩
def PlAt (H : Hp) (T : List Tr) (qs : List Addr) (is : List Ins) : Prop := ∀ (j : Nat) (i : Ins), is[j]? = some i → ∃ (q : Addr) (n : Nat), qs[j]? = some q ∧ H q = some (.tup (plV i j n)) ∧ SetN T i n
theorem PlAt.on {H H' : Hp} {T T' : List Tr} {qs : List Addr} {is : List Ins} (h : PlAt H T qs is) (e : ∀ q xs, H q = some (.tup xs) → H' q = some (.tup xs)) (x : Ext T T') : PlAt H' T' qs is := fun j i hi => by
  obtain ⟨q, n, h1, h2, h3⟩ := h j i hi
  exact ⟨q, n, h1, e _ _ h2, h3.ext x⟩
/-- a machine at k: all that it holds -/
structure MacF (C : Addr) (H : Hp) (o dx Ah At As R L : Addr) (k : Nat) (T : List Tr) (ns : List Nat) (rs : List Tr) (is : List Ins) : Prop where
  ob : H o = some (.ins C dx (m6 Ah At As R L k))
  tb : MacAt H Ah At As T
  rg : H R = some (.lst (natsV ns))
  nr : Nums T ns rs
  pl : ∃ qs : List Addr, H L = some (.lst (qs.map V.ref)) ∧ qs.length = is.length ∧ PlAt H T qs is
  nR : R ∉ [Ah, At, As]
  nL : L ∉ [Ah, At, As]
  rl : R ≠ L
theorem tup_not {H : Hp} {Ah At As q : Addr} {T : List Tr} {xs : List V} (h : MacAt H Ah At As T) (e : H q = some (.tup xs)) : q ∉ [Ah, At, As] := fun z => by
  obtain ⟨hs, ts, h1, h2, h3, g⟩ := h.get
  simp only [List.mem_cons, List.not_mem_nil, or_false] at z
  rcases z with rfl | rfl | rfl
  · rw [h1] at e; cases e
  · rw [h2] at e; cases e
  · rw [h3] at e; cases e
theorem ins_not {H : Hp} {Ah At As q C dx : Addr} {T : List Tr} {fs : List (Str × V)} (h : MacAt H Ah At As T) (e : H q = some (.ins C dx fs)) : q ∉ [Ah, At, As] := fun z => by
  obtain ⟨hs, ts, h1, h2, h3, g⟩ := h.get
  simp only [List.mem_cons, List.not_mem_nil, or_false] at z
  rcases z with rfl | rfl | rfl
  · rw [h1] at e; cases e
  · rw [h2] at e; cases e
  · rw [h3] at e; cases e
theorem none_not {H : Hp} {Ah At As q : Addr} {T : List Tr} (h : MacAt H Ah At As T) (e : H q = none) : q ∉ [Ah, At, As] := fun z => by
  obtain ⟨hs, ts, h1, h2, h3, g⟩ := h.get
  simp only [List.mem_cons, List.not_mem_nil, or_false] at z
  rcases z with rfl | rfl | rfl
  · rw [h1] at e; cases e
  · rw [h2] at e; cases e
  · rw [h3] at e; cases e
def bigSum (is : List Ins) : Nat := (is.map Ins.big).sum
theorem bigSum_take {is : List Ins} {j : Nat} {i : Ins} (h : is[j]? = some i) : bigSum (is.take (j + 1)) = bigSum (is.take j) + i.big := by
  unfold bigSum
  rw [List.take_add_one, h, List.map_append, List.sum_append]
  rfl
theorem bigSum_le (is : List Ins) (j : Nat) : bigSum (is.take j) ≤ bigSum is := by
  have h : bigSum is = bigSum (is.take j) + bigSum (is.drop j) := by
    unfold bigSum
    rw [← List.sum_append, ← List.map_append, List.take_append_drop]
  omega
def plX (i : Ins) (k : Int) (n : Nat) : Int := match i with
  | .set _ _ => n
  | .jump _ m => k + m
  | .cons _ b _ => b
  | .move _ b => b
  | .head _ b => b
  | .tail _ b => b
def plY (i : Ins) : Int := match i with
  | .cons _ _ c => c
  | _ => 0
theorem plV_is (i : Ins) (k : Int) (n : Nat) : plV i k n = [.str i.word, .int i.a, .int (plX i k n), .int (plY i)] := by cases i <;> rfl
section
variable {C : Addr} {H H' : Hp} {o dx Ah At As R L : Addr} {k : Nat} {T T' : List Tr} {ns : List Nat} {rs : List Tr} {is : List Ins}
theorem MacF.notA (h : MacF C H o dx Ah At As R L k T ns rs is) : o ∉ [Ah, At, As] := ins_not h.tb h.ob
theorem MacF.oR (h : MacF C H o dx Ah At As R L k T ns rs is) : o ≠ R := fun z => by
  have h1 := h.ob
  rw [z, h.rg] at h1
  cases h1
theorem MacF.oL (h : MacF C H o dx Ah At As R L k T ns rs is) : o ≠ L := fun z => by
  obtain ⟨qs, e, _⟩ := h.pl
  have h1 := h.ob
  rw [z, e] at h1
  cases h1
/-- what changes the table alone -/
theorem MacF.grow (h : MacF C H o dx Ah At As R L k T ns rs is) (b : ButL [Ah, At, As] H H') (m : MacAt H' Ah At As T') (x : Ext T T') : MacF C H' o dx Ah At As R L k T' ns rs is := by
  obtain ⟨qs, e1, e2, e3⟩ := h.pl
  exact ⟨b _ _ h.notA h.ob, m, b _ _ h.nR h.rg, h.nr.ext x, ⟨qs, b _ _ h.nL e1, e2, e3.on (fun q xs e => b _ _ (tup_not h.tb e) e) x⟩, h.nR, h.nL, h.rl⟩
theorem MacF.setAt (h : MacF C H o dx Ah At As R L k T ns rs is) (j : Nat) : MacF C (upd H o (.ins C dx (m6 Ah At As R L j))) o dx Ah At As R L j T ns rs is := by
  obtain ⟨qs, e1, e2, e3⟩ := h.pl
  have n := h.notA
  simp only [List.mem_cons, List.not_mem_nil, or_false, not_or] at n
  refine ⟨upd_same, h.tb.but (as := [o]) (ButL.upd (List.mem_singleton.mpr rfl)) (fun z => n.1 (List.mem_singleton.mp z).symm) (fun z => n.2.1 (List.mem_singleton.mp z).symm) (fun z => n.2.2 (List.mem_singleton.mp z).symm), (upd_ne h.oR.symm).trans h.rg, h.nr, ⟨qs, (upd_ne h.oL.symm).trans e1, e2, e3.on (fun q xs e => ?_) (Ext.refl _)⟩, h.nR, h.nL, h.rl⟩
  rw [upd_ne (fun z => by rw [z, h.ob] at e; cases e)]
  exact e
theorem nums_set {T : List Tr} {n : Nat} {t : Tr} (hn : T[n]? = some t) : ∀ {ns : List Nat} {rs : List Tr} (a : Nat), Nums T ns rs → Nums T (ns.set a n) (rs.set a t)
  | _, _, _, .nil => .nil
  | _, _, 0, .cons _ h => .cons hn h
  | _, _, a + 1, .cons r h => .cons r (nums_set hn a h)
theorem MacF.setReg (h : MacF C H o dx Ah At As R L k T ns rs is) {n : Nat} {t : Tr} (hn : T[n]? = some t) (a : Nat) : MacF C (upd H R (.lst (natsV (ns.set a n)))) o dx Ah At As R L k T (ns.set a n) (rs.set a t) is := by
  obtain ⟨qs, e1, e2, e3⟩ := h.pl
  have n' := h.nR
  simp only [List.mem_cons, List.not_mem_nil, or_false, not_or] at n'
  refine ⟨(upd_ne h.oR).trans h.ob, h.tb.but (as := [R]) (ButL.upd (List.mem_singleton.mpr rfl)) (fun z => n'.1 (List.mem_singleton.mp z).symm) (fun z => n'.2.1 (List.mem_singleton.mp z).symm) (fun z => n'.2.2 (List.mem_singleton.mp z).symm), upd_same, nums_set hn a h.nr, ⟨qs, (upd_ne h.rl.symm).trans e1, e2, e3.on (fun q xs e => ?_) (Ext.refl _)⟩, h.nR, h.nL, h.rl⟩
  rw [upd_ne (fun z => by rw [z, h.rg] at e; cases e)]
  exact e
theorem MacF.reg (h : MacF C H o dx Ah At As R L k T ns rs is) {b : Nat} (hb : b < rs.length) : ∃ n, ns[b]? = some n ∧ T[n]? = some (Nx.reg rs b) := Paired.get (F := fun (n : Nat) (t : Tr) => T[n]? = some t) h.nr (reg_get hb)
theorem natsV_set (ns : List Nat) (a n : Nat) : (natsV ns).set a (.int n) = natsV (ns.set a n) := by
  unfold natsV
  rw [List.map_set]
end
def sgV (l : List Nat) : List V := (l.map fun c => stS [c]).map V.str
theorem sgV_app (l : List Nat) (c : Nat) : sgV l ++ [.str (stS [c])] = sgV (l ++ [c]) := by
  unfold sgV
  rw [List.map_append, List.map_append]
  rfl
theorem sgV_len (l : List Nat) : (sgV l).length = l.length := by
  unfold sgV
  rw [List.length_map, List.length_map]
theorem sgV_join (l : List Nat) : Txt.join (Str.ofString "") (l.map fun c => stS [c]) = stS l := by
  rw [join_none, List.map_map]
  congr 1
  induction l with
  | nil => rfl
  | cons c r ih =>
    rw [List.map_cons, List.flatten_cons, ih]
    rfl
theorem sgV_sum (l : List Nat) : ((l.map fun c => stS [c]).map fun x : Str => x.length).sum = l.length := by
  induction l with
  | nil => rfl
  | cons c r ih =>
    rw [List.map_cons, List.map_cons, List.sum_cons, ih, List.length_cons]
    show 1 + r.length = _
    omega
def sgs (us : List Tr) : List Nat := (us.map Tr.sg).flatten
theorem sgs_cons (u : Tr) (us : List Tr) : sgs (u :: us) = u.sg ++ sgs us := by
  unfold sgs
  rw [List.map_cons, List.flatten_cons]
theorem sgs_len (us : List Tr) : us.length ≤ (sgs us).length := by
  induction us with
  | nil => exact Nat.zero_le _
  | cons u r ih =>
    rw [sgs_cons, List.length_append, List.length_cons]
    have := u.sg_len
    omega
/-- a statement, and what follows it wherever it ends -/
theorem seq_join {t1 t2 : TS} {D : Ends} {σ : L2.St} {H : Hp} (P : Hp → Prop) (h1 : ∀ nx : L2.St → Hp → Prop, (∀ X, P X → nx σ X) → t1 { D with nx := nx } σ H) (h2 : ∀ X, P X → t2 D σ X) : tSeq t1 t2 D σ H := h1 _ h2
/-! ### deep trees -/
def zigT : Nat → Tr
  | 0 => .leaf
  | n + 1 => .node (.node .leaf (zigT n)) .leaf
theorem zigT_sg : ∀ n : Nat, (zigT n).sg = repL n [49, 49, 48] ++ List.replicate (n + 1) 48
  | 0 => rfl
  | n + 1 => by
    show 49 :: ((49 :: ([48] ++ (zigT n).sg)) ++ [48]) = _
    rw [zigT_sg n, show repL (n + 1) [49, 49, 48] = [49, 49, 48] ++ repL n [49, 49, 48] by unfold repL; rw [List.replicate_succ, List.flatten_cons], List.replicate_succ' (n := n + 1)]
    simp [List.append_assoc]
theorem zigT_len (n : Nat) : (zigT n).sg.length = 4 * n + 1 := by
  rw [zigT_sg, List.length_append, repL_len, List.length_replicate]
  show n * 3 + (n + 1) = _
  omega
theorem s110 : (Str.ofString "110").cps.toList = [49, 49, 48] := by decide +kernel
theorem zig_str (n : Nat) : stS (repL n (Str.ofString "110").cps.toList) ++ stS (repL (n + 1) (Str.ofString "0").cps.toList) = (zigT n).str := by
  rw [stS_app, s110]
  show stS _ = stS _
  rw [zigT_sg, show (Str.ofString "0").cps.toList = [48] by decide +kernel, repL_one]
theorem len110' (n : Nat) : (stS (repL n (Str.ofString "110").cps.toList)).length = 3 * n := by
  rw [stS_len, repL_len, s110]
  show n * 3 = _
  omega
theorem items_numT : ∀ n : Nat, (numT n).items.length = n
  | 0 => rfl
  | n + 1 => by
    show (numT n).items.length + 1 = n + 1
    rw [items_numT n]
theorem ten_str (y : Tr) : Str.ofString "10" ++ y.str = (Tr.node .leaf y).str := by
  rw [show Str.ofString "10" = stS [49, 48] by decide +kernel]
  show stS [49, 48] ++ stS y.sg = _
  rw [stS_app]
  rfl
def deepT : Nat → Nat → Tr
  | 0, n => chT n
  | 1, n => numT n
  | _ + 2, n => zigT n
end Nx

/-! max of a tuple of whole numbers; max with a default. -/
namespace Nx
open PySem PySem.Spec PyProof.Rows L2
theorem max_intTup {prog : Program} {w : World} {A : Around} {E : Value → Shared → Prop} {s : Shared} {l : Addr} {xs : Array (Int × Tok)} {Q : Value → Shared → Prop} (hh : A.handled = none) (hl : s.heap.IsTuple l (intItems xs)) (hne : 0 < xs.size)
    (h : ∀ v h' tk, (intItems xs)[argBest (fun i j => decide (numAt xs i > numAt xs j)) (xs.size - 1)]? = some v → (∀ b o, s.heap.get? b = some o → h'.get? b = some o) → Q v { s with heap := h', toks := tk }) :
    wpAny (model prog w) A (call (.builtin "max") [.ref l]) Q E s := by
  have hlt : l < s.heap.objs.size := by obtain ⟨_, e, _⟩ := hl; exact Heap.lt_size e
  refine call_max_walk (wpAny_pyIter_tuple hl ?_)
  refine ⟨_, [_, l], [_], _, _, _, _, rfl, Walks.tuple (A := A.in1) hh _ l (Nat.ne_of_lt hlt) (intItems xs), ⟨⟨_, Heap.get?_push_size _ rfl, rfl, rfl⟩, hl.push _⟩, fun b hb => ?_, by simpa [intItems] using hne, CmpOf.ints_gt (numAt xs) (fun _ _ => intItems_at), fun v h' tk hP hk => ?_⟩
  · show b < (s.heap.push _).objs.size
    rw [Heap.size_push]
    rcases List.mem_cons.mp hb with rfl | hb
    · exact Nat.lt_succ_self _
    · rcases List.mem_cons.mp hb with rfl | hb
      · exact Nat.lt_succ_of_lt hlt
      · cases hb
  · refine h v h' tk (by simpa [intItems] using hP) fun b o e => hk b o (fun hm => ?_) (Heap.get?_push_of_some _ e)
    rcases List.mem_cons.mp hm with e1 | hm
    · exact absurd (e1 ▸ Heap.lt_size e) (Nat.lt_irrefl _)
    · cases hm
theorem max_rawT {prog : Program} {w : World} {A : Around} {E : Value → Shared → Prop} {s : Shared} {l : Addr} {its : List Value} {ns : List Int} {Q : Value → Shared → Prop} (hh : A.handled = none) (hl : s.heap.IsTuple l its.toArray) (hi : IntsAre its ns) (hne : 0 < ns.length)
    (h : ∀ h' tk M t', (∀ b o, s.heap.get? b = some o → h'.get? b = some o) → M ∈ ns → (∀ a, a ∈ ns → a ≤ M) → Q (.int M t') { s with heap := h', toks := tk }) : wpAny (model prog w) A (call (.builtin "max") [.ref l]) Q E s := by
  obtain ⟨xs, e⟩ := hi.allInts.items
  have hn : numsOf (intItems xs).toList = ns := by rw [← e]; exact hi.numsOf
  rw [nums_intItems] at hn
  subst hn
  rw [e] at hl
  have hsz : 0 < xs.size := by simpa using hne
  refine max_intTup hh hl hsz fun v h' tk hv hk => ?_
  obtain ⟨t, rfl⟩ := intItems_at hv
  obtain ⟨h1, h2⟩ := argBest_gt (numAt xs) (xs.size - 1)
  refine h h' tk _ t hk ?_ fun a ha => ?_
  · rw [numAt_eq]; exact PySem.getD_mem (by rw [List.length_map, Array.length_toList]; omega)
  · obtain ⟨j, hj, rfl⟩ := mem_getD ha
    rw [List.length_map, Array.length_toList] at hj
    rw [← numAt_eq]; exact h2 j (by omega)
def rMaxT (K : PySem.W.Frag) : List V → Hp → VK → Prop := fun vs H Q => ∃ (a : Addr) (ns : List Int), vs = [V.ref a] ∧ SqT K H a (ns.map V.int) ∧ 0 < ns.length ∧ ∀ m, m ∈ ns → (∀ y, y ∈ ns → y ≤ m) → Q (.int m) H
theorem cr_maxT {X : Cx} (hc : X.calm = true) : CallR X (.builtin "max") (rMaxT X.K) := by
  intro pins s σ H vs us Q I r h
  obtain ⟨a, ns, rfl, hs, hne, q⟩ := h
  obtain ⟨its, rv, hl, _⟩ := I.tuple hs
  rw [Vals.ref1 r]
  exact max_rawT (I.ok.hd hc) hl rv.ints hne fun h' tk m t' hk h1 h2 => ⟨.int _, H, I.kept hk, ⟨_, rfl⟩, q m h1 h2⟩
theorem max_intListD {prog : Program} {w : World} {A : Around} {E : Value → Shared → Prop} {s : Shared} {l : Addr} {xs : Array (Int × Tok)} {d : Value} {Q : Value → Shared → Prop} (hh : A.handled = none) (hl : s.heap.IsList l (intItems xs))
    (h0 : xs.size = 0 → ∀ h' tk, (∀ b o, s.heap.get? b = some o → h'.get? b = some o) → Q d { s with heap := h', toks := tk })
    (h : 0 < xs.size → ∀ v h' tk, (intItems xs)[argBest (fun i j => decide (numAt xs i > numAt xs j)) (xs.size - 1)]? = some v → (∀ b o, s.heap.get? b = some o → h'.get? b = some o) → Q v { s with heap := h', toks := tk }) :
    wpAny (model prog w) A (call (.builtin "max") [.ref l] [(Str.ofString "default", d)]) Q E s := by
  have hz : (intItems xs).size = xs.size := by simp [intItems]
  refine call_max_walkD (PySem.W.iter_listW (A := A.in1) hh hl fun s₂ e W st hfp hw hk => ?_)
  refine ⟨_, _, _, _, _, _, _, s.heap, (fun i j => decide (numAt xs i > numAt xs j)), rfl, W, st, hfp, hw, hk, fun hn s' m => ?_, fun hp => ⟨fun i j vi vj s3 Q3 E3 _ hi hj hQ => CmpOf.ints_gt (numAt xs) (fun _ _ => intItems_at) i j vi vj s3 Q3 E3 hi hj hQ, fun v s' hP m => ?_⟩⟩
  · obtain ⟨h', tk, rfl, hk'⟩ := PySem.W.moved_old e rfl m
    exact h0 (by omega) h' tk hk'
  · obtain ⟨h', tk, rfl, hk'⟩ := PySem.W.moved_old e rfl m
    rw [hz] at hP
    exact h (by omega) v h' tk hP hk'
theorem max_rawD {prog : Program} {w : World} {A : Around} {E : Value → Shared → Prop} {s : Shared} {l : Addr} {its : List Value} {ns : List Int} {d : Value} {Q : Value → Shared → Prop} (hh : A.handled = none) (hl : s.heap.IsList l its.toArray) (hi : IntsAre its ns)
    (h0 : ns = [] → ∀ h' tk, (∀ b o, s.heap.get? b = some o → h'.get? b = some o) → Q d { s with heap := h', toks := tk })
    (h : ∀ h' tk M t', (∀ b o, s.heap.get? b = some o → h'.get? b = some o) → M ∈ ns → (∀ a, a ∈ ns → a ≤ M) → Q (.int M t') { s with heap := h', toks := tk }) : wpAny (model prog w) A (call (.builtin "max") [.ref l] [(Str.ofString "default", d)]) Q E s := by
  obtain ⟨xs, e⟩ := hi.allInts.items
  have hn : numsOf (intItems xs).toList = ns := by rw [← e]; exact hi.numsOf
  rw [nums_intItems] at hn
  subst hn
  rw [e] at hl
  refine max_intListD hh hl (fun hz h' tk hk => h0 (by
    have : xs.toList = [] := List.length_eq_zero_iff.mp (by rw [Array.length_toList]; exact hz)
    rw [this]
    rfl) h' tk hk) fun hp v h' tk hv hk => ?_
  obtain ⟨t, rfl⟩ := intItems_at hv
  obtain ⟨h1, h2⟩ := argBest_gt (numAt xs) (xs.size - 1)
  refine h h' tk _ t hk ?_ fun a ha => ?_
  · rw [numAt_eq]; exact PySem.getD_mem (by rw [List.length_map, Array.length_toList]; omega)
  · obtain ⟨j, hj, rfl⟩ := mem_getD ha
    rw [List.length_map, Array.length_toList] at hj
    rw [← numAt_eq]; exact h2 j (by omega)
/-- one value -/
def onX (f : V → Hp → Prop) : List V → Hp → Prop := fun xs H => match xs with
  | [x] => f x H
  | _ => False
theorem onX_one {f : V → Hp → Prop} {xs : List V} {H : Hp} (h : onX f xs H) : ∃ x, xs = [x] ∧ f x H := by
  match xs, h with
  | [x], h => exact ⟨x, rfl, h⟩
/-- max(xs, default=d) -/
def rMaxD (K : PySem.W.Frag) (x d : V) (H : Hp) (Q : VK) : Prop := ∃ (a : Addr) (ns : List Int), x = V.ref a ∧ SqL K H a (ns.map V.int) ∧ (ns = [] → Q d H) ∧ ∀ m, m ∈ ns → (∀ y, y ∈ ns → y ≤ m) → Q (.int m) H
def tMaxD (K : PySem.W.Frag) (te td : TE) : TE := fun σ H Q => te σ H fun x H1 => td σ H1 fun d H2 => rMaxD K x d H2 Q
theorem pe_maxD {X : Cx} {e d : Expr} {p pos kp : Pos} {te td : TE} (hc : X.calm = true) (hg : Gl X "max") (hm : X.mg "max" = none) (he : PE X e te) (hd : PE X d td) (hst : starEach [e] X.env = [(false, eval e X.env)] := by rfl) :
    PE X (.Call (.Name "max" p) [e] [⟨some "default", d, kp⟩] pos) (tMaxD X.K te td) := by
  refine ⟨fun pins s σ H Q I h => ?_⟩
  refine wpAny_Call_Name_kw (ld_blt I hg hm (u := .builtin "max") (by decide +kernel) ?_ (by decide) (by decide))
  refine PyProof.Rows.callWith_kw ?_ (by rw [hst]; rfl) (by rw [hst]; rfl) rfl rfl
  have ha : PA X [e] (tCons te tNil) := pa_cons he pa_nil hst
  have hk : PK X [⟨some "default", d, kp⟩] (tCons td tNil) := pk_cons hd pk_nil
  refine thn (ha.run pos pins s σ H (onX fun x H1 => td σ H1 fun d H2 => rMaxD X.K x d H2 Q) I h) fun us s1 ⟨vs, H1, I1, r1, q1⟩ => ?_
  obtain ⟨x, rfl, q1⟩ := onX_one q1
  refine thn (hk.run pos pins s1 σ H1 (onX fun d H2 => rMaxD X.K x d H2 Q) I1 q1) fun ws s2 ⟨zs, H2, I2, r2, q2⟩ => ?_
  obtain ⟨z, rfl, a, ns, rfl, hs, q0, q2⟩ := onX_one q2
  rw [Vals.ref1 r1]
  cases r2 with
  | cons rz rn =>
    cases rn
    obtain ⟨its, rv, hl, _⟩ := I2.list hs
    exact max_rawD (I2.ok.hd hc) hl.isList rv.ints (fun h0 h' tk hk => ⟨z, H2, I2.kept hk, rz, q0 h0⟩) fun h' tk m t' hk h1 h2 => ⟨.int m, H2, I2.kept hk, ⟨_, rfl⟩, q2 m h1 h2⟩
end Nx

/-! Runs: many steps as one. -/
namespace Nx
open PySem PySem.Spec PyProof.Rows L2
/-- n steps lead from one state to another, none of them too large -/
def Rn (is : List Ins) (n k : Nat) (rs : List Tr) (k' : Nat) (rs' : List Tr) : Prop := ∀ m, go is (n + m) k rs = addN n (go is m k' rs')
section
variable {is : List Ins} {n m k k' k2 : Nat} {rs rs' rs2 : List Tr}
theorem Rn.refl (is : List Ins) (k : Nat) (rs : List Tr) : Rn is 0 k rs k rs := fun m => by rw [Nat.zero_add, addN_0]
theorem Rn.trans (a : Rn is n k rs k' rs') (b : Rn is m k' rs' k2 rs2) : Rn is (n + m) k rs k2 rs2 := fun j => by
  rw [Nat.add_assoc, a, b, addN_addN, Nat.add_comm m n]
theorem Rn.one {i : Ins} (h : is[k]? = some i) (g : bigS i rs = false) (e : stepAt i k rs = (k' : Int)) : Rn is 1 k rs k' (stepRs i rs) := fun m => by
  rw [Nat.add_comm 1 m, go_on h g, e]
  rfl
theorem Rn.cast (a : Rn is n k rs k' rs') (e1 : n = m) (e2 : rs' = rs2) (e3 : k' = k2) : Rn is m k rs k2 rs2 := by
  subst e1 e2 e3
  exact a
theorem Rn.go (a : Rn is n k rs k' rs') : go is n k rs = some (k', rs', n) := by
  have := a 0
  rw [Nat.add_zero] at this
  rw [this]
  show some (k', rs', 0 + n) = _
  rw [Nat.zero_add]
theorem Rn.big (a : Rn is n k rs k' rs') {i : Ins} (h : is[k']? = some i) (g : bigS i rs' = true) (m : Nat) : Nx.go is (n + (m + 1)) k rs = none := by
  rw [a, go_big h g]
  rfl
theorem go_pre : ∀ (n k : Nat) (rs : List Tr) {k' : Nat} {rs' : List Tr}, go is n k rs = some (k', rs', n) → k' < is.length → ∀ m, m ≤ n → ∃ k2 rs2, go is m k rs = some (k2, rs2, m) ∧ k2 < is.length
  | 0, k, rs, k', rs', e, hk, m, hm => by
    have : m = 0 := by omega
    subst this
    exact ⟨k', rs', e, hk⟩
  | n + 1, k, rs, k', rs', e, hk, m, hm => by
    cases hi : is[k]? with
    | none =>
      rw [go_end hi] at e
      cases e
    | some i =>
      have hk1 := (List.getElem?_eq_some_iff.mp hi).1
      cases hg : bigS i rs with
      | true =>
        rw [go_big hi hg] at e
        cases e
      | false =>
        cases m with
        | zero => exact ⟨k, rs, rfl, hk1⟩
        | succ m =>
          rw [go_on hi hg] at e
          cases e2 : go is n (stepAt i k rs).toNat (stepRs i rs) with
          | none =>
            rw [e2] at e
            cases e
          | some q =>
            rw [e2] at e
            obtain ⟨q1, q2, q3⟩ := q
            have e : some (q1, q2, q3 + 1) = some (k', rs', n + 1) := e
            cases e
            obtain ⟨k2, rs2, g1, g2⟩ := go_pre n _ _ e2 hk m (by omega)
            exact ⟨k2, rs2, by rw [go_on hi hg, g1]; rfl, g2⟩
theorem Rn.pre (a : Rn is n k rs k' rs') (hk : k' < is.length) (hm : m ≤ n) : ∃ k2 rs2, Nx.go is m k rs = some (k2, rs2, m) ∧ k2 < is.length := go_pre n k rs a.go hk m hm
end
theorem reg_set {rs : List Tr} {a : Nat} (t : Tr) (h : a < rs.length) : reg (rs.set a t) a = t := by
  unfold reg
  rw [List.getD_eq_getElem?_getD, List.getElem?_set_self h]
  rfl
theorem reg_ne {rs : List Tr} {a b : Nat} (t : Tr) (h : a ≠ b) : reg (rs.set a t) b = reg rs b := by
  unfold reg
  rw [List.getD_eq_getElem?_getD, List.getElem?_set_ne h, ← List.getD_eq_getElem?_getD]
/-! ### what is_program finds -/
theorem Ins.ok_of {k n j : Nat} {i : Ins} (h : Nx.rowD i.data j n = true) (hb : i.big ≤ 2 * k + 1) : i.ok 20 k j n := by
  rw [i.data_eq, rowD_is (shapes_at i), i.shape_kinds, Bool.and_eq_true] at h
  obtain ⟨_, h⟩ := h
  have r : ∀ a : Nat, fitsD 114 (.int a) j n = true → a < 20 := fun a ha => by
    have ha : (decide (0 ≤ (a : Int)) && decide ((a : Int) < 20)) = true := ha
    rw [Bool.and_eq_true] at ha
    have := of_decide_eq_true ha.2
    omega
  cases i with
  | set a t =>
    have h : (fitsD 114 (.int a) j n && (fitsD 116 (.str t.str) j n && true)) = true := h
    rw [Bool.and_eq_true] at h
    have hb : t.sg.length ≤ 2 * k + 1 := hb
    have := t.sg_len
    exact ⟨r a h.1, by omega⟩
  | move a b =>
    have h : (fitsD 114 (.int a) j n && (fitsD 114 (.int b) j n && true)) = true := h
    rw [Bool.and_eq_true, Bool.and_eq_true] at h
    exact ⟨r a h.1, r b h.2.1⟩
  | cons a b c =>
    have h : (fitsD 114 (.int a) j n && (fitsD 114 (.int b) j n && (fitsD 114 (.int c) j n && true))) = true := h
    rw [Bool.and_eq_true, Bool.and_eq_true, Bool.and_eq_true] at h
    exact ⟨r a h.1, r b h.2.1, r c h.2.2.1⟩
  | head a b =>
    have h : (fitsD 114 (.int a) j n && (fitsD 114 (.int b) j n && true)) = true := h
    rw [Bool.and_eq_true, Bool.and_eq_true] at h
    exact ⟨r a h.1, r b h.2.1⟩
  | tail a b =>
    have h : (fitsD 114 (.int a) j n && (fitsD 114 (.int b) j n && true)) = true := h
    rw [Bool.and_eq_true, Bool.and_eq_true] at h
    exact ⟨r a h.1, r b h.2.1⟩
  | jump a m =>
    have h : (fitsD 114 (.int a) j n && ((decide (0 ≤ (j : Int) + m) && decide ((j : Int) + m ≤ n)) && true)) = true := h
    rw [Bool.and_true, Bool.and_eq_true, Bool.and_eq_true] at h
    exact ⟨r a h.1, of_decide_eq_true h.2.1, of_decide_eq_true h.2.2⟩
theorem progOk_ok {is : List Ins} (h : progOk (progD is) = true) : PgOk 20 100000 is ∧ is.length ≤ 600 ∧ treesSum is ≤ 200000 := by
  have h : (decide ((is.map Ins.data).length ≤ 600) && (rowsD (is.map Ins.data).length 0 (is.map Ins.data) && (decide ((((is.map Ins.data).filterMap treeD).map Str.length).sum ≤ 200000) && ((is.map Ins.data).filterMap treeD).all fun t => isT t.cps.toList))) = true := h
  rw [fm_trees, List.length_map, Bool.and_eq_true, Bool.and_eq_true, Bool.and_eq_true] at h
  obtain ⟨h1, h2, h3, _⟩ := h
  have e3 : (((is.filterMap Ins.tree).map Tr.str).map Str.length).sum = treesSum is := by
    unfold treesSum
    rw [List.map_map]
    rfl
  rw [e3] at h3
  have h3 := of_decide_eq_true h3
  refine ⟨fun j i hi => ?_, of_decide_eq_true h1, h3⟩
  have hb : i.big ≤ treesSum is := by
    rw [treesSum_big]
    exact le_sum _ (List.mem_map.mpr ⟨i, List.mem_of_getElem? hi, rfl⟩)
  have hr := (rowsD_iff _ _ _).mp h2 j i.data (by rw [List.getElem?_map, hi]; rfl)
  rw [Int.zero_add] at hr
  exact Ins.ok_of hr (by omega)
theorem PgAt.cat {H : Hp} {p q : Addr} {is js : List Ins} (h1 : PgAt H p is) (h2 : PgAt H q js) : ∃ xs ys : List V, H p = some (.lst xs) ∧ H q = some (.lst ys) ∧ xs.length = is.length ∧ ys.length = js.length ∧ ∀ r, H r = none → PgAt (upd H r (.lst (xs ++ ys))) r (is ++ js) := by
  obtain ⟨as, a1, a2⟩ := h1
  obtain ⟨bs, b1, b2⟩ := h2
  refine ⟨_, _, a1, b1, by rw [List.length_map, Paired.len a2], by rw [List.length_map, Paired.len b2], fun r n => ⟨as ++ bs, by rw [upd_same, List.map_append], Rows.same (Same.upd n) (Paired.app a2 b2)⟩⟩
theorem PgAt.one {H : Hp} {T p : Addr} {i : Ins} (n : upd H T (.tup i.vs) p = none) : PgAt (upd (upd H T (.tup i.vs)) p (.lst [.ref T])) p [i] :=
  ⟨[T], upd_same, .cons (Same.upd n _ _ upd_same) .nil⟩
theorem PgAt.rep {H : Hp} {p : Addr} {i : Ins} (h : PgAt H p [i]) : ∃ T, H p = some (.lst [.ref T]) ∧ ∀ (n : Nat) (r : Addr), H r = none → PgAt (upd H r (.lst (List.replicate n [V.ref T]).flatten)) r (List.replicate n i) := by
  obtain ⟨as, a1, a2⟩ := h
  cases a2 with
  | cons r t =>
    cases t with
    | nil => exact ⟨_, a1, fun n q nq => ⟨List.replicate n _, by rw [upd_same, rep_ref], rows_rep (Same.upd nq _ _ r) n⟩⟩
theorem rs0_len (x : Tr) : (rs0 x).length = 20 := rfl
theorem rs0_0 (x : Tr) : reg (rs0 x) 0 = x := rfl
end Nx

/-! Programs out of programs. -/
namespace Nx
open PySem PySem.Spec PyProof.Rows L2
/-- a value that is a program -/
def PgV (H : Hp) (v : V) (is : List Ins) : Prop := ∃ p, v = .ref p ∧ PgAt H p is
abbrev PgVs (H : Hp) (vs : List V) (iss : List (List Ins)) : Prop := Paired (PgV H) vs iss
/-- a list of programs -/
def PgsAt (H : Hp) (D : Addr) (iss : List (List Ins)) : Prop := ∃ vs, H D = some (.lst vs) ∧ PgVs H vs iss
theorem PgV.same {H H' : Hp} {v : V} {is : List Ins} (h : PgV H v is) (e : Same H H') : PgV H' v is := by
  obtain ⟨p, h1, h2⟩ := h
  exact ⟨p, h1, h2.same e⟩
theorem PgVs.same {H H' : Hp} {vs : List V} {iss : List (List Ins)} (h : PgVs H vs iss) (e : Same H H') : PgVs H' vs iss := Paired.imp (fun v is q => q.same e) h
theorem PgsAt.same {H H' : Hp} {D : Addr} {iss : List (List Ins)} (h : PgsAt H D iss) (e : Same H H') : PgsAt H' D iss := by
  obtain ⟨vs, h1, h2⟩ := h
  exact ⟨vs, e _ _ h1, PgVs.same h2 e⟩
def progsD (iss : List (List Ins)) : PyData := .list (iss.map progD)
theorem pgvs_dp {K : PySem.W.Frag} {H : Hp} : ∀ {vs : List V} {iss : List (List Ins)}, PgVs H vs iss → DpAll K H vs (iss.map progD)
  | _, _, .nil => .nil
  | _, _, .cons ⟨p, e, h⟩ t => e ▸ .cons h.dp (pgvs_dp t)
theorem PgsAt.dp {K : PySem.W.Frag} {H : Hp} {D : Addr} {iss : List (List Ins)} (h : PgsAt H D iss) : Dp K H (.ref D) (progsD iss) := by
  obtain ⟨vs, h1, h2⟩ := h
  exact .lst (SqL.of h1) (pgvs_dp h2)
theorem progD_deep (is : List Ins) : (progD is).depth ≤ 2 := by
  show PyData.depthAll (is.map Ins.data) + 1 ≤ 2
  have := prog_deep is
  omega
theorem progs_lay : ∀ iss : List (List Ins), PyData.canLayAll0 (iss.map progD) = true
  | [] => rfl
  | is :: r => by
    show (PyData.canLayAll0 (is.map Ins.data) && PyData.canLayAll0 (r.map progD)) = true
    rw [prog_lay, progs_lay r]
    rfl
theorem progs_deep : ∀ iss : List (List Ins), PyData.depthAll (iss.map progD) ≤ 2
  | [] => by decide
  | is :: r => by
    show max (progD is).depth (PyData.depthAll (r.map progD)) ≤ 2
    have h1 := progs_deep r
    have h2 := progD_deep is
    omega
theorem progsD_shaped (iss : List (List Ins)) : SeqAt.shaped (progsD iss) = true := by
  show (PyData.canLayAll0 (iss.map progD) && decide (PyData.depthAll (iss.map progD) + 1 ≤ 64)) = true
  have := progs_deep iss
  rw [progs_lay, decide_eq_true (by omega)]
  rfl
/-! ### a heap without one address -/
theorem PgAt.offD {H : Hp} {p D : Addr} {is : List Ins} {xs : List V} (h : PgAt H p is) (n : p ≠ D) (hD : H D = some (.lst xs)) : PgAt (off D H) p is := by
  obtain ⟨as, h1, h2⟩ := h
  refine ⟨as, (off_at n).trans h1, Paired.imp (fun a i q => (off_at (fun z => ?_)).trans q) h2⟩
  rw [z, hD] at q
  cases q
theorem off_new2 {D : Addr} {H : Hp} (h : H D = none) : Same H (off D H) := same_off h
/-- a comprehension whose elements are programs that are drawn -/
theorem lc_progs {n : Nat} {te : TE} {vs : List Nat} {j : Nat} {σ : L2.St} {H1 : Hp} {D : Addr} {Qd : Hp → Prop} {st : Addr} (P : List Ins → Prop) (hD : H1 D = none) (s1 : Strm H1 st) (hn : n < sizeLine)
    (hw : ∀ x, wipe ((wipe σ vs).set j (some x)) vs = wipe σ vs)
    (he : ∀ (i : Nat) H', i < n → Strm H' st → ∀ Q : VK, (∀ p is H2, H' p = none → PgAt H2 p is → P is → ExS st H' H2 → Strm H2 st → Q (.ref p) H2) → te ((wipe σ vs).set j (some (.int i))) H' Q)
    (hd : ∀ iss H', iss.length = n → (∀ is ∈ iss, P is) → ExS st H1 H' → Strm H' st → PgsAt H' D iss → Qd H') :
    ∃ W : Nat → Nat → Hp → Prop, (∃ m, W 0 m (upd H1 D (.lst []))) ∧ ∀ i m H, W i m H →
      ((Itr 0 n).stop i H ∧ Qd H) ∨ ((Itr 0 n).go i H ∧ ∃ Nx : Hp → Prop, (∀ H', Nx H' → ∃ m', m' < m ∧ W (i + 1) m' H') ∧ ∀ x H', (Itr 0 n).yld i H x H' → (gName j) x (wipe σ vs) H' fun σ2 H2 => wipe σ2 vs = wipe σ vs ∧ tYes σ2 H2 fun b H3 =>
        if b = true then te σ2 H3 fun y H4 => ∃ acc, H4 D = some (.lst acc) ∧ acc.length < sizeLine ∧ Nx (upd H4 D (.lst (acc ++ [y]))) else Nx H3) := by
  have nD : D ≠ st := s1.ne hD
  refine lc_range (lo := 0) (n := n) (fun i H' => ∃ (ys : List V) (iss : List (List Ins)), iss.length = i ∧ (∀ is ∈ iss, P is) ∧ PgVs (off D H') ys iss ∧ ExS st H1 H' ∧ Strm H' st ∧ H' D = some (.lst ys)) ⟨[], [], rfl, fun _ h => (by cases h), .nil, .off nD hD .refl, s1.off hD .refl s1, upd_same⟩ (fun i H' hi p => ?_) (fun H' p => ?_)
  · obtain ⟨ys, iss, e1, e2, e3, e4, e5, e6⟩ := p
    have el := Paired.len e3
    refine ⟨hw _, ?_⟩
    simp only [tYes, ↓reduceIte]
    have e0 : (0 : Int) + (i : Int) = (i : Int) := Int.zero_add _
    show te ((wipe σ vs).set j (some (.int ((0 : Int) + (i : Int))))) H' _
    rw [e0]
    refine he i H' hi e5 _ fun p is H2 np hp hP ex st2 => ⟨ys, ex _ _ nD e6, by omega, ys ++ [.ref p], iss ++ [is], by rw [List.length_append, e1]; rfl, fun z hz => ?_, ?_, .off nD hD (e4.trans ex), s1.off hD (e4.trans ex) st2, upd_same⟩
    · rcases List.mem_append.mp hz with q | q
      · exact e2 z q
      · rw [List.mem_singleton.mp q]
        exact hP
    · rw [off_upd]
      have npD : p ≠ D := fun z => by rw [z, e6] at np; cases np
      refine Paired.app (Paired.imp (fun v is h => ?_) e3) (.cons ⟨p, rfl, hp.offD npD (ex _ _ nD e6)⟩ .nil)
      obtain ⟨q, rfl, as, h1, h2⟩ := h
      have stO : st ≠ D := nD.symm
      have hne : ∀ (a : Addr) (o : HO), off D H' a = some o → (∀ l r, o ≠ .lst (.ref l :: r) ∨ a ≠ st) → True := fun _ _ _ _ => trivial
      have exO : ExS st (off D H') (off D H2) := ⟨fun a o na h => by
        by_cases c : a = D
        · subst c
          unfold off at h
          rw [if_pos rfl] at h
          cases h
        · rw [off_at c] at h ⊢
          exact ex a o na h, fun l r h => by
        rw [off_at stO] at h
        obtain ⟨r', h'⟩ := ex.hd l r h
        exact ⟨r', by rw [off_at stO]; exact h'⟩⟩
      have stOff : Strm (off D H') st := by
        obtain ⟨l, ns, c, i, m, g1, g2, g3⟩ := e5
        refine ⟨l, ns, c, i, m, by rw [off_at stO]; exact g1, ?_, g3⟩
        by_cases c1 : l = D
        · exfalso
          obtain ⟨l1, ns1, c1', i1, m1, k1, k2, _⟩ := s1
          obtain ⟨r', hr⟩ := e4.hd l1 _ k1
          rw [g1] at hr
          have hl : l = l1 := V.ref.inj (List.cons.inj (HO.lst.inj (Option.some.inj hr))).1
          rw [← hl, c1, hD] at k2
          cases k2
        · rw [off_at c1]
          exact g2
      have hq : q ≠ st := fun z => by
        obtain ⟨l, ns, c, i, m, g1, g2, g3⟩ := stOff
        rw [z, g1] at h1
        have h4 := HO.lst.inj (Option.some.inj h1)
        cases as with
        | nil => cases h4
        | cons b r =>
          cases r with
          | nil => cases (List.cons.inj h4).2
          | cons b2 r2 => cases (List.cons.inj (List.cons.inj h4).2).1
      exact ⟨q, rfl, PgAt.exs ⟨as, h1, h2⟩ stOff hq exO⟩
  · obtain ⟨ys, iss, e1, e2, e3, e4, e5, e6⟩ := p
    exact hd iss H' e1 e2 e4 e5 ⟨ys, e6, PgVs.same e3 off_same⟩
/-- a comprehension that copies programs -/
theorem lc_copies {K : PySem.W.Frag} {a : Addr} {xs : List V} {iss : List (List Ins)} {te : TE} {vs : List Nat} {j : Nat} {σ : L2.St} {H1 : Hp} {D : Addr} {Qd : Hp → Prop} (hD : H1 D = none) (hs : SqL K H1 a xs) (hr : PgVs H1 xs iss) (hz : xs.length < sizeLine)
    (hw : ∀ x, wipe ((wipe σ vs).set j (some x)) vs = wipe σ vs) (he : ∀ (p : Addr) (is : List Ins) (H' : Hp), is ∈ iss → PgAt H1 p is → Same H1 H' → ∀ Q : VK, (∀ q H2, Same H' H2 → H' q = none → PgAt H2 q is → Q (.ref q) H2) → te ((wipe σ vs).set j (some (.ref p))) H' Q)
    (hd : ∀ H', Same H1 H' → PgsAt H' D iss → Qd H') :
    ∃ W : Nat → Nat → Hp → Prop, (∃ m, W 0 m (upd H1 D (.lst []))) ∧ ∀ i m H, W i m H →
      ((Itl K a).stop i H ∧ Qd H) ∨ ((Itl K a).go i H ∧ ∃ Nx : Hp → Prop, (∀ H', Nx H' → ∃ m', m' < m ∧ W (i + 1) m' H') ∧ ∀ x H', (Itl K a).yld i H x H' → (gName j) x (wipe σ vs) H' fun σ2 H2 => wipe σ2 vs = wipe σ vs ∧ tYes σ2 H2 fun b H3 =>
        if b = true then te σ2 H3 fun y H4 => ∃ acc, H4 D = some (.lst acc) ∧ acc.length < sizeLine ∧ Nx (upd H4 D (.lst (acc ++ [y]))) else Nx H3) := by
  have hu : ∀ {H' : Hp} {o : HO}, Same H1 H' → Same H1 (upd H' D o) := fun {H' o} e b x q => by
    rw [upd_ne (ne_of_none q hD)]
    exact e b x q
  have hlen := Paired.len hr
  refine lc_list (xs := xs) (fun i H' => Same H1 H' ∧ ∃ ys : List V, H' D = some (.lst ys) ∧ PgVs (off D H') ys (iss.take i)) ⟨hu (.refl _), [], upd_same, .nil⟩ (fun i H' _ p => p.1.seq hs) (fun i x H' hi p => ?_) (fun H' p => ?_)
  · obtain ⟨sm, ys, hD', hr'⟩ := p
    obtain ⟨is, hij⟩ : ∃ is, iss[i]? = some is := ⟨_, List.getElem?_eq_getElem (by have := (List.getElem?_eq_some_iff.mp hi).1; omega)⟩
    obtain ⟨x2, h1, p, rfl, hp⟩ := Paired.get hr hij
    rw [hi] at h1
    cases h1
    refine ⟨hw _, ?_⟩
    simp only [tYes, ↓reduceIte]
    refine he p is H' (List.mem_of_getElem? hij) hp sm _ fun q H2 s2 nq hq => ⟨ys, s2 _ _ hD', ?_, hu (sm.trans s2), ys ++ [.ref q], by rw [upd_same], ?_⟩
    · have := Paired.len hr'
      rw [List.length_take] at this
      have := (List.getElem?_eq_some_iff.mp hi).1
      omega
    · rw [off_upd, List.take_add_one, hij]
      have nqD : q ≠ D := fun z => by rw [z, hD'] at nq; cases nq
      exact Paired.app (Paired.imp (fun v js h => h.same s2.offS) hr') (.cons ⟨q, rfl, hq.offD nqD (s2 _ _ hD')⟩ .nil)
  · obtain ⟨sm, ys, hD', hr'⟩ := p
    rw [hlen, List.take_length] at hr'
    exact hd H' sm ⟨ys, hD', PgVs.same hr' off_same⟩
/-- a comprehension over a list, value by value -/
theorem lc_ix {K : PySem.W.Frag} {a : Addr} {xs ys : List V} {te : TE} {vs : List Nat} {j : Nat} {σ : L2.St} {H1 : Hp} {D : Addr} {Qd : Hp → Prop} (hl : xs.length = ys.length) (hD : H1 D = none) (hs : SqL K H1 a xs) (hz : xs.length < sizeLine)
    (hw : ∀ x, wipe ((wipe σ vs).set j (some x)) vs = wipe σ vs) (he : ∀ (i : Nat) (x y : V) (H' : Hp), xs[i]? = some x → ys[i]? = some y → Same H1 H' → ∀ Q : VK, (∀ H2, Same H' H2 → Q y H2) → te ((wipe σ vs).set j (some x)) H' Q)
    (hd : ∀ H', Same H1 H' → H' D = some (.lst ys) → Qd H') :
    ∃ W : Nat → Nat → Hp → Prop, (∃ m, W 0 m (upd H1 D (.lst []))) ∧ ∀ i m H, W i m H →
      ((Itl K a).stop i H ∧ Qd H) ∨ ((Itl K a).go i H ∧ ∃ Nx : Hp → Prop, (∀ H', Nx H' → ∃ m', m' < m ∧ W (i + 1) m' H') ∧ ∀ x H', (Itl K a).yld i H x H' → (gName j) x (wipe σ vs) H' fun σ2 H2 => wipe σ2 vs = wipe σ vs ∧ tYes σ2 H2 fun b H3 =>
        if b = true then te σ2 H3 fun y H4 => ∃ acc, H4 D = some (.lst acc) ∧ acc.length < sizeLine ∧ Nx (upd H4 D (.lst (acc ++ [y]))) else Nx H3) := by
  have hu : ∀ {H' : Hp} {o : HO}, Same H1 H' → Same H1 (upd H' D o) := fun {H' o} e b x q => by
    rw [upd_ne (ne_of_none q hD)]
    exact e b x q
  refine lc_list (xs := xs) (fun i H' => Same H1 H' ∧ H' D = some (.lst (ys.take i))) ⟨hu (.refl _), upd_same⟩ (fun i H' _ p => p.1.seq hs) (fun i x H' hi p => ?_) (fun H' p => ?_)
  · have hil : i < ys.length := by
      have := (List.getElem?_eq_some_iff.mp hi).1
      omega
    have hy := List.getElem?_eq_getElem hil
    refine ⟨hw x, ?_⟩
    simp only [tYes, ↓reduceIte]
    refine he i x _ H' hi hy p.1 _ fun H2 e2 => ⟨_, e2 _ _ p.2, ?_, hu (p.1.trans e2), ?_⟩
    · rw [List.length_take]
      omega
    · rw [upd_same, List.take_add_one, hy]
      rfl
  · have e := p.2
    rw [hl, List.take_length] at e
    exact hd H' p.1 e
/-- a comprehension over a range whose elements are instructions -/
theorem lc_rows {lo : Int} {n : Nat} {te : TE} {vs : List Nat} {j : Nat} {σ : L2.St} {H1 : Hp} {D : Addr} {Qd : Hp → Prop} (f : Nat → Ins) (hD : H1 D = none) (hn : n < sizeLine)
    (hw : ∀ x, wipe ((wipe σ vs).set j (some x)) vs = wipe σ vs)
    (he : ∀ (i : Nat) H', i < n → Same H1 H' → ∀ Q : VK, (∀ T H2, Same H' H2 → H2 T = some (.tup (f i).vs) → Q (.ref T) H2) → te ((wipe σ vs).set j (some (.int (lo + i)))) H' Q)
    (hd : ∀ H', Same H1 H' → PgAt H' D ((List.range n).map f) → Qd H') :
    ∃ W : Nat → Nat → Hp → Prop, (∃ m, W 0 m (upd H1 D (.lst []))) ∧ ∀ i m H, W i m H →
      ((Itr lo n).stop i H ∧ Qd H) ∨ ((Itr lo n).go i H ∧ ∃ Nx : Hp → Prop, (∀ H', Nx H' → ∃ m', m' < m ∧ W (i + 1) m' H') ∧ ∀ x H', (Itr lo n).yld i H x H' → (gName j) x (wipe σ vs) H' fun σ2 H2 => wipe σ2 vs = wipe σ vs ∧ tYes σ2 H2 fun b H3 =>
        if b = true then te σ2 H3 fun y H4 => ∃ acc, H4 D = some (.lst acc) ∧ acc.length < sizeLine ∧ Nx (upd H4 D (.lst (acc ++ [y]))) else Nx H3) := by
  have hu : ∀ {H' : Hp} {o : HO}, Same H1 H' → Same H1 (upd H' D o) := fun {H' o} e b x q => by
    rw [upd_ne (ne_of_none q hD)]
    exact e b x q
  refine lc_range (lo := lo) (n := n) (fun i H' => Same H1 H' ∧ ∃ as : List Addr, H' D = some (.lst (as.map V.ref)) ∧ Rows H' as ((List.range i).map f)) ⟨hu (.refl _), [], upd_same, .nil⟩ (fun i H' hi p => ?_) (fun H' p => ?_)
  · obtain ⟨sm, as, hD', hr⟩ := p
    refine ⟨hw _, ?_⟩
    simp only [tYes, ↓reduceIte]
    refine he i H' hi sm _ fun T H2 s2 hT => ⟨_, s2 _ _ hD', ?_, hu (sm.trans s2), as ++ [T], by rw [upd_same, List.map_append]; rfl, ?_⟩
    · have := Paired.len hr
      rw [List.length_map, List.length_range] at this
      rw [List.length_map]
      omega
    · rw [List.range_succ, List.map_append]
      have hD2 := s2 _ _ hD'
      refine Paired.app (Paired.imp (fun a i q => ?_) (Rows.same s2 hr)) (.cons ?_ .nil)
      · exact (upd_ne (fun z => by rw [z, hD2] at q; cases q)).trans q
      · exact (upd_ne (fun z => by rw [z, hD2] at hT; cases hT)).trans hT
  · obtain ⟨sm, as, h1, h2⟩ := p
    exact hd H' sm ⟨as, h1, h2⟩
/-! ### the mathematics -/
/-- the cleaning of a program of this width -/
def cln (w : Nat) : List Ins := (List.range (w - 1)).map fun k => .set (k + 1) .leaf
theorem cln_len (w : Nat) : (cln w).length = w - 1 := by
  unfold cln
  rw [List.length_map, List.length_range]
def gw (iss : List (List Ins)) : Nat := (iss.map wid).foldl max 1
def chainP : List (List Ins) → List Ins
  | [] => []
  | p :: r => p ++ (r.flatMap fun q => cln (wid q) ++ q)
/-- what within_limits lets pass -/
def Fits (is : List Ins) : Prop := is.length ≤ 600 ∧ treesSum is ≤ 200000
theorem foldl_max_le {m : Nat} : ∀ (l : List Nat) (g : Nat), l.foldl max g ≤ m ↔ g ≤ m ∧ ∀ x ∈ l, x ≤ m
  | [], g => by simp
  | x :: l, g => by
    rw [List.foldl_cons, foldl_max_le l (max g x)]
    constructor
    · rintro ⟨h1, h2⟩
      refine ⟨by omega, fun y hy => ?_⟩
      rcases List.mem_cons.mp hy with rfl | hy
      · omega
      · exact h2 y hy
    · rintro ⟨h1, h2⟩
      have := h2 x (List.mem_cons_self ..)
      exact ⟨by omega, fun y hy => h2 y (List.mem_cons_of_mem _ hy)⟩
theorem foldl_max_mem : ∀ (l : List Nat) (g : Nat), l.foldl max g = g ∨ l.foldl max g ∈ l
  | [], g => .inl rfl
  | x :: l, g => by
    rw [List.foldl_cons]
    rcases foldl_max_mem l (max g x) with h | h
    · rw [h]
      rcases Nat.le_total g x with c | c
      · rw [Nat.max_eq_right c]
        exact .inr (List.mem_cons_self ..)
      · rw [Nat.max_eq_left c]
        exact .inl rfl
    · exact .inr (List.mem_cons_of_mem _ h)
theorem wid_pos (is : List Ins) : 1 ≤ wid is := Nat.succ_le_succ (Nat.zero_le _)
theorem gw_le {m : Nat} {iss : List (List Ins)} (hm : 1 ≤ m) : gw iss ≤ m ↔ ∀ is ∈ iss, wid is ≤ m := by
  unfold gw
  rw [foldl_max_le]
  constructor
  · rintro ⟨_, h⟩ is hi
    exact h _ (List.mem_map.mpr ⟨is, hi, rfl⟩)
  · intro h
    refine ⟨hm, fun x hx => ?_⟩
    obtain ⟨is, hi, rfl⟩ := List.mem_map.mp hx
    exact h is hi
/-- the greatest of the widths, as max finds it -/
theorem gw_is {iss : List (List Ins)} {m : Int} (h1 : m ∈ iss.map fun is => ((wid is : Nat) : Int)) (h2 : ∀ y ∈ iss.map fun is => ((wid is : Nat) : Int), y ≤ m) : m = (gw iss : Nat) := by
  obtain ⟨is, hi, rfl⟩ := List.mem_map.mp h1
  have h3 : ∀ js ∈ iss, wid js ≤ wid is := fun js hj => by
    have := h2 _ (List.mem_map.mpr ⟨js, hj, rfl⟩)
    omega
  have h4 : gw iss ≤ wid is := (gw_le (wid_pos is)).mpr h3
  have h5 := (gw_le (m := gw iss) (by
    rcases Nat.lt_or_ge (gw iss) 1 with c | c
    · have : gw iss ≤ gw iss := Nat.le_refl _
      unfold gw at this c
      have := ((foldl_max_le _ _).mp this).1
      omega
    · exact c)).mp (Nat.le_refl _) is hi
  omega
theorem gst_le {m : Nat} {is : List Ins} : wid is ≤ m + 1 ↔ ∀ i ∈ is, ∀ r ∈ i.regs, r ≤ m := by
  unfold wid gst
  rw [Nat.succ_le_succ_iff, foldl_max_le]
  constructor
  · rintro ⟨_, h⟩ i hi r hr
    exact h r (List.mem_flatMap.mpr ⟨i, hi, hr⟩)
  · intro h
    refine ⟨Nat.zero_le _, fun r hr => ?_⟩
    obtain ⟨i, hi, hr⟩ := List.mem_flatMap.mp hr
    exact h i hi r hr
theorem wid_below {n : Nat} {is : List Ins} (hn : 0 < n) : wid is ≤ n ↔ ∀ i ∈ is, i.below n := by
  obtain ⟨m, rfl⟩ : ∃ m, n = m + 1 := ⟨n - 1, by omega⟩
  rw [gst_le]
  exact ⟨fun h i hi r hr => Nat.lt_succ_of_le (h i hi r hr), fun h i hi r hr => Nat.le_of_lt_succ (h i hi r hr)⟩
theorem treesSum_app (a b : List Ins) : treesSum (a ++ b) = treesSum a + treesSum b := by
  rw [treesSum_big, treesSum_big, treesSum_big, List.map_append, List.sum_append]
theorem chainP_snoc (l : List (List Ins)) (q : List Ins) : chainP (l ++ [q]) = if l = [] then q else chainP l ++ (cln (wid q) ++ q) := by
  cases l with
  | nil =>
    rw [if_pos rfl]
    show q ++ [] = q
    rw [List.append_nil]
  | cons p r =>
    rw [if_neg (by intro z; cases z)]
    show p ++ ((r ++ [q]).flatMap fun q => cln (wid q) ++ q) = (p ++ r.flatMap fun q => cln (wid q) ++ q) ++ (cln (wid q) ++ q)
    rw [List.flatMap_append, List.append_assoc]
    congr 2
    show (cln (wid q) ++ q) ++ [] = _
    rw [List.append_nil]
theorem chainP_take {l : List (List Ins)} {j : Nat} {q : List Ins} (h : l[j]? = some q) : chainP (l.take (j + 1)) = if j = 0 then q else chainP (l.take j) ++ (cln (wid q) ++ q) := by
  rw [List.take_add_one, h]
  show chainP (l.take j ++ [q]) = _
  rw [chainP_snoc]
  have hl := (List.getElem?_eq_some_iff.mp h).1
  by_cases c : j = 0
  · subst c
    rfl
  · rw [if_neg c, if_neg]
    intro z
    have := congrArg List.length z
    rw [List.length_take] at this
    have h0 : ([] : List (List Ins)).length = 0 := rfl
    omega
theorem chainP_le (l : List (List Ins)) : ∀ (n j : Nat), l.length - j = n → j ≤ l.length → (chainP (l.take j)).length ≤ (chainP l).length
  | 0, j, h, hj => by
    rw [List.take_of_length_le (by omega)]
    exact Nat.le_refl _
  | n + 1, j, h, hj => by
    have hl : j < l.length := by omega
    refine Nat.le_trans ?_ (chainP_le l n (j + 1) (by omega) (by omega))
    rw [chainP_take (List.getElem?_eq_getElem hl)]
    by_cases c : j = 0
    · subst c
      rw [if_pos rfl]
      exact Nat.zero_le _
    · rw [if_neg c, List.length_append]
      omega
theorem chainP_take_le (l : List (List Ins)) {j : Nat} (hj : j ≤ l.length) : (chainP (l.take j)).length ≤ (chainP l).length := chainP_le l _ j rfl hj
theorem cln_mem {w : Nat} {i : Ins} (h : i ∈ cln w) : ∃ k, k < w - 1 ∧ i = .set (k + 1) .leaf := by
  obtain ⟨k, h1, h2⟩ := List.mem_map.mp h
  exact ⟨k, List.mem_range.mp h1, h2.symm⟩
theorem chainP_mem {l : List (List Ins)} {i : Ins} (h : i ∈ chainP l) : (∃ is ∈ l, i ∈ is) ∨ ∃ is ∈ l, i ∈ cln (wid is) := by
  cases l with
  | nil => cases h
  | cons p r =>
    rcases List.mem_append.mp h with h | h
    · exact .inl ⟨p, List.mem_cons_self .., h⟩
    · obtain ⟨q, hq, h⟩ := List.mem_flatMap.mp h
      rcases List.mem_append.mp h with h | h
      · exact .inr ⟨q, List.mem_cons_of_mem _ hq, h⟩
      · exact .inl ⟨q, List.mem_cons_of_mem _ hq, h⟩
theorem cln_big {w : Nat} {i : Ins} (h : i ∈ cln w) : i.big = 1 := by
  obtain ⟨k, _, rfl⟩ := cln_mem h
  rfl
/-- what stood before a new list was made stands when that list is changed -/
theorem _root_.L2.Same.but_new {H0 H H' : Hp} {g : Addr} (s : Same H0 H) (n : H0 g = none) (e : But g H H') : Same H0 H' := fun a o h => e a o (ne_of_none h n) (s a o h)
theorem But.upd {g : Addr} {H : Hp} {o : HO} : But g H (upd H g o) := fun b x n h => (upd_ne n).trans h
theorem same_new {H H' : Hp} {a : Addr} (s : Same H H') (n : H' a = none) : H a = none := by
  cases c : H a with
  | none => rfl
  | some o =>
    have := s _ _ c
    rw [n] at this
    cases this
theorem PgOk.app {w k : Nat} {a b : List Ins} (ha : PgOk w k a) (hb : PgOk w k b) : PgOk w k (a ++ b) := fun i x h => by
  rw [List.length_append]
  by_cases c : i < a.length
  · rw [List.getElem?_append_left c] at h
    have := ha i x h
    cases x with
    | jump r m => exact ⟨this.1, this.2.1, by have := this.2.2; omega⟩
    | _ => exact this
  · rw [List.getElem?_append_right (by omega)] at h
    have h1 := hb _ x h
    cases x with
    | jump r m => exact ⟨h1.1, by have := h1.2.1; omega, by have := h1.2.2; omega⟩
    | _ => exact h1
theorem PgOk.nil {w k : Nat} : PgOk w k [] := fun i x h => by simp at h
theorem PgOk.wide {w v k : Nat} {is : List Ins} (h : PgOk w k is) (hw : w ≤ v) : PgOk v k is := fun j x hx => by
  have h := h j x hx
  cases x with
  | set a t => exact ⟨Nat.lt_of_lt_of_le h.1 hw, h.2⟩
  | move a b => exact ⟨Nat.lt_of_lt_of_le h.1 hw, Nat.lt_of_lt_of_le h.2 hw⟩
  | head a b => exact ⟨Nat.lt_of_lt_of_le h.1 hw, Nat.lt_of_lt_of_le h.2 hw⟩
  | tail a b => exact ⟨Nat.lt_of_lt_of_le h.1 hw, Nat.lt_of_lt_of_le h.2 hw⟩
  | cons a b c => exact ⟨Nat.lt_of_lt_of_le h.1 hw, Nat.lt_of_lt_of_le h.2.1 hw, Nat.lt_of_lt_of_le h.2.2 hw⟩
  | jump a m => exact ⟨Nat.lt_of_lt_of_le h.1 hw, h.2⟩
theorem PgOk.wid {w k : Nat} {is : List Ins} (h : PgOk w k is) (hw : 0 < w) : Nx.wid is ≤ w := (wid_below hw).mpr fun i hi => by
  obtain ⟨j, hj⟩ := List.getElem?_of_mem hi
  exact Ins.ok_below (h j i hj)
theorem cln_ok {w v k : Nat} (hw : w ≤ v) : PgOk v k (cln w) := fun j x h => by
  obtain ⟨m, hm, rfl⟩ := cln_mem (List.mem_of_getElem? h)
  exact ⟨by omega, Nat.zero_le _⟩
theorem chainP_ok {w k : Nat} {iss : List (List Ins)} (h : ∀ is ∈ iss, PgOk w k is) (hw : 0 < w) : PgOk w k (chainP iss) := by
  have key : ∀ r : List (List Ins), (∀ is ∈ r, PgOk w k is) → PgOk w k (r.flatMap fun q => cln (Nx.wid q) ++ q) := fun r => by
    induction r with
    | nil => exact fun _ => PgOk.nil
    | cons q r ih =>
      intro hr
      rw [List.flatMap_cons]
      have hq := hr q (List.mem_cons_self ..)
      exact ((cln_ok (hq.wid hw)).app hq).app (ih fun is hi => hr is (List.mem_cons_of_mem _ hi))
  cases iss with
  | nil => exact PgOk.nil
  | cons p r => exact (h p (List.mem_cons_self ..)).app (key r fun is hi => h is (List.mem_cons_of_mem _ hi))
theorem chainP_bound {a b : Nat} {iss : List (List Ins)} (h : ∀ is ∈ iss, is.length ≤ a ∧ Nx.wid is ≤ b) : (chainP iss).length ≤ iss.length * (a + b) := by
  have key : ∀ r : List (List Ins), (∀ is ∈ r, is.length ≤ a ∧ Nx.wid is ≤ b) → (r.flatMap fun q => cln (Nx.wid q) ++ q).length ≤ r.length * (a + b) := fun r => by
    induction r with
    | nil => exact fun _ => Nat.zero_le _
    | cons q r ih =>
      intro hr
      have h1 := hr q (List.mem_cons_self ..)
      have h2 := ih fun is hi => hr is (List.mem_cons_of_mem _ hi)
      rw [List.flatMap_cons, List.length_append, List.length_append, cln_len, List.length_cons, Nat.succ_mul]
      omega
  cases iss with
  | nil => exact Nat.zero_le _
  | cons p r =>
    have h1 := h p (List.mem_cons_self ..)
    have h2 := key r fun is hi => h is (List.mem_cons_of_mem _ hi)
    show (p ++ _).length ≤ _
    rw [List.length_append, List.length_cons, Nat.succ_mul]
    omega
theorem trees_le {m : Nat} (l : List Ins) (h : ∀ i ∈ l, i.big ≤ m) : treesSum l ≤ l.length * m := by
  rw [treesSum_big]
  exact sum_le _ _ _ h
/-! ### towers -/
def towT : List (List Ins) → Tr → Tr
  | [], x => x
  | p :: r, x => .node (codeT p) (towT r x)
theorem towT_sg : ∀ (iss : List (List Ins)) (x : Tr), (towT iss x).sg = (iss.map fun is => 49 :: (codeT is).sg).flatten ++ x.sg
  | [], x => rfl
  | p :: r, x => by
    show 49 :: ((codeT p).sg ++ (towT r x).sg) = _
    rw [towT_sg r x, List.map_cons, List.flatten_cons, List.append_assoc]
    rfl
theorem towT_ge {iss : List (List Ins)} {is : List Ins} (x : Tr) (h : is ∈ iss) : (codeT is).sg.length < (towT iss x).sg.length := by
  induction iss with
  | nil => cases h
  | cons p r ih =>
    show _ < (Tr.node (codeT p) (towT r x)).sg.length
    rw [node_len]
    rcases List.mem_cons.mp h with rfl | h
    · omega
    · have := ih h
      omega
theorem towT_app (a b : List (List Ins)) (x : Tr) : towT (a ++ b) x = towT a (towT b x) := by
  induction a with
  | nil => rfl
  | cons p r ih =>
    show Tr.node (codeT p) (towT (r ++ b) x) = .node (codeT p) (towT r (towT b x))
    rw [ih]
theorem towT_le {m : Nat} {iss : List (List Ins)} (x : Tr) (h : ∀ is ∈ iss, (codeT is).sg.length ≤ m) : (towT iss x).sg.length ≤ iss.length * (m + 1) + x.sg.length := by
  induction iss with
  | nil =>
    show x.sg.length ≤ _
    omega
  | cons p r ih =>
    have h1 := h p (List.mem_cons_self ..)
    have h2 := ih fun is hi => h is (List.mem_cons_of_mem _ hi)
    show (Tr.node (codeT p) (towT r x)).sg.length ≤ _
    rw [node_len, List.length_cons, Nat.succ_mul]
    omega
end Nx

/-! Lines: instructions, marks, and jumps to marks. -/
namespace Nx
open PySem PySem.Spec PyProof.Rows L2
inductive Line where
  | ins (i : Ins)
  | mark (n : Str)
  | jmp (a : Nat) (n : Str)
def Line.vs : Line → List V
  | .ins i => i.vs
  | .mark n => [.str "mark", .str n]
  | .jmp a n => [.str "jump", .int a, .str n]
def LnR (H : Hp) (v : V) (l : Line) : Prop := ∃ a, v = .ref a ∧ H a = some (.tup l.vs)
abbrev Lns (H : Hp) (vs : List V) (ls : List Line) : Prop := Paired (LnR H) vs ls
theorem LnR.same {H H' : Hp} {v : V} {l : Line} (h : LnR H v l) (e : Same H H') : LnR H' v l := by
  obtain ⟨a, h1, h2⟩ := h
  exact ⟨a, h1, e _ _ h2⟩
theorem Lns.same {H H' : Hp} {vs : List V} {ls : List Line} (h : Lns H vs ls) (e : Same H H') : Lns H' vs ls := Paired.imp (fun v l q => q.same e) h
theorem rows_lns {H : Hp} : ∀ {as : List Addr} {is : List Ins}, Rows H as is → Lns H (as.map V.ref) (is.map Line.ins)
  | _, _, .nil => .nil
  | _, _, .cons r t => .cons ⟨_, rfl, r⟩ (rows_lns t)
def Line.isM : Line → Bool
  | .mark _ => true
  | _ => false
/-- how many instructions these lines are -/
def cnt (ls : List Line) : Nat := (ls.filter fun l => !l.isM).length
theorem cnt_nil : cnt [] = 0 := rfl
theorem cnt_app (a b : List Line) : cnt (a ++ b) = cnt a + cnt b := by
  unfold cnt
  rw [List.filter_append, List.length_append]
theorem cnt_ins (is : List Ins) : cnt (is.map Line.ins) = is.length := by
  unfold cnt
  rw [List.filter_eq_self.mpr (fun l hl => by
    obtain ⟨i, _, rfl⟩ := List.mem_map.mp hl
    rfl), List.length_map]
theorem cnt_le (ls : List Line) : cnt ls ≤ ls.length := List.length_filter_le _ _
def mstep (n : Str) (p : Nat × Option Nat) (l : Line) : Nat × Option Nat := match l with
  | .mark m => (p.1, if n = m then some p.1 else p.2)
  | _ => (p.1 + 1, p.2)
def mst (n : Str) (p : Nat × Option Nat) (ls : List Line) : Nat × Option Nat := ls.foldl (mstep n) p
/-- where the mark of this name stands -/
def mval (ls : List Line) (n : Str) : Option Nat := (mst n (0, none) ls).2
theorem mst_fst (n : Str) : ∀ (ls : List Line) (p : Nat × Option Nat), (mst n p ls).1 = p.1 + cnt ls
  | [], p => rfl
  | l :: r, p => by
    show (mst n (mstep n p l) r).1 = _
    rw [mst_fst n r, show (l :: r) = [l] ++ r from rfl, cnt_app]
    cases l with
    | mark m => show p.1 + cnt r = p.1 + (0 + cnt r); omega
    | ins i => show p.1 + 1 + cnt r = p.1 + (1 + cnt r); omega
    | jmp a m => show p.1 + 1 + cnt r = p.1 + (1 + cnt r); omega
theorem mst_app (n : Str) (a b : List Line) (p : Nat × Option Nat) : mst n p (a ++ b) = mst n (mst n p a) b := List.foldl_append
theorem mst_cons (n : Str) (l : Line) (b : List Line) (p : Nat × Option Nat) : mst n p (l :: b) = mst n (mstep n p l) b := rfl
theorem mst_nil (n : Str) (p : Nat × Option Nat) : mst n p [] = p := rfl
theorem mst_ins (n : Str) : ∀ (is : List Ins) (p : Nat × Option Nat), mst n p (is.map Line.ins) = (p.1 + is.length, p.2)
  | [], p => rfl
  | i :: r, p => by
    show mst n (p.1 + 1, p.2) (r.map Line.ins) = _
    rw [mst_ins n r]
    show (p.1 + 1 + r.length, p.2) = (p.1 + (r.length + 1), p.2)
    rw [show p.1 + 1 + r.length = p.1 + (r.length + 1) by omega]
theorem mval_snoc (ls : List Line) (l : Line) (n : Str) : mval (ls ++ [l]) n = match l with
    | .mark m => if n = m then some (cnt ls) else mval ls n
    | _ => mval ls n := by
  unfold mval
  rw [mst_app]
  have h := mst_fst n ls (0, none)
  cases l with
  | mark m =>
    show (if n = m then some (mst n (0, none) ls).1 else (mst n (0, none) ls).2) = _
    rw [h, Nat.zero_add]
  | ins i => rfl
  | jmp a m => rfl
/-- the instructions that the lines stand for -/
def plc (d : Str → Nat) : Nat → List Line → List Ins
  | _, [] => []
  | k, .ins i :: r => i :: plc d (k + 1) r
  | k, .jmp a n :: r => .jump a ((d n : Int) - k) :: plc d (k + 1) r
  | k, .mark _ :: r => plc d k r
theorem plc_app (d : Str → Nat) : ∀ (a b : List Line) (k : Nat), plc d k (a ++ b) = plc d k a ++ plc d (k + cnt a) b
  | [], b, k => rfl
  | l :: a, b, k => by
    have hc : cnt (l :: a) = cnt [l] + cnt a := cnt_app [l] a
    cases l with
    | ins i =>
      show i :: plc d (k + 1) (a ++ b) = i :: (plc d (k + 1) a ++ plc d (k + cnt (.ins i :: a)) b)
      rw [plc_app d a b, hc, show k + 1 + cnt a = k + (cnt [.ins i] + cnt a) by show k + 1 + cnt a = k + (1 + cnt a); omega]
    | jmp r m =>
      show _ :: plc d (k + 1) (a ++ b) = _ :: (plc d (k + 1) a ++ plc d (k + cnt (.jmp r m :: a)) b)
      rw [plc_app d a b, hc, show k + 1 + cnt a = k + (cnt [.jmp r m] + cnt a) by show k + 1 + cnt a = k + (1 + cnt a); omega]
    | mark m =>
      show plc d k (a ++ b) = plc d k a ++ plc d (k + cnt (.mark m :: a)) b
      rw [plc_app d a b, hc, show k + cnt a = k + (cnt [.mark m] + cnt a) by show k + cnt a = k + (0 + cnt a); omega]
theorem plc_ins (d : Str → Nat) : ∀ (is : List Ins) (k : Nat), plc d k (is.map Line.ins) = is
  | [], k => rfl
  | i :: r, k => by
    show i :: plc d (k + 1) (r.map Line.ins) = _
    rw [plc_ins d r]
theorem plc_len (d : Str → Nat) : ∀ (ls : List Line) (k : Nat), (plc d k ls).length = cnt ls
  | [], k => rfl
  | l :: r, k => by
    have hc : cnt (l :: r) = cnt [l] + cnt r := cnt_app [l] r
    cases l with
    | ins i =>
      show (plc d (k + 1) r).length + 1 = _
      rw [plc_len d r, hc]
      show _ = 1 + cnt r
      omega
    | jmp a m =>
      show (plc d (k + 1) r).length + 1 = _
      rw [plc_len d r, hc]
      show _ = 1 + cnt r
      omega
    | mark m =>
      show (plc d k r).length = _
      rw [plc_len d r, hc]
      show _ = 0 + cnt r
      omega
end Nx

/-! The programs of point 10. -/
namespace Nx
open PySem PySem.Spec PyProof.Rows L2
abbrev p100 : Tr := .node .leaf .leaf
def bothP (w : Nat) (p q : List Ins) : List Ins := .move w 0 :: (p ++ (.move (w + 1) 0 :: .move 0 w :: (cln (wid q) ++ (q ++ [.cons 0 (w + 1) 0]))))
def partL (p : List Ins) : Nat := (cln (wid p)).length + p.length
def choiceP (w : Nat) (c p q : List Ins) : List Ins :=
  .move w 0 :: (c ++ (.jump 0 ((partL q : Nat) + 4) :: .move 0 w :: (cln (wid q) ++ (q ++ (.set w p100 :: .jump w ((partL p : Nat) + 2) :: .move 0 w :: (cln (wid p) ++ p))))))
def choiceL (w : Nat) (c p q : List Ins) : List Line :=
  .ins (.move w 0) :: (c.map Line.ins ++ (.jmp 0 "first" :: .ins (.move 0 w) :: ((cln (wid q)).map Line.ins ++ (q.map Line.ins ++ (.ins (.set w p100) :: .jmp w "end" :: .mark "first" :: .ins (.move 0 w) :: ((cln (wid p)).map Line.ins ++ (p.map Line.ins ++ [.mark "end"])))))))
def loopP (w : Nat) (c p : List Ins) : List Ins :=
  .move w 0 :: (cln (wid c) ++ (c ++ (.jump 0 4 :: .move 0 w :: .set w p100 :: .jump w ((partL p : Nat) + 4) :: .move 0 w :: (cln (wid p) ++ (p ++ [.set w p100, .jump w (-((partL c : Nat) + (partL p : Nat) + 7))])))))
def loopL (w : Nat) (c p : List Ins) : List Line :=
  .mark "again" :: .ins (.move w 0) :: ((cln (wid c)).map Line.ins ++ (c.map Line.ins ++ (.jmp 0 "body" :: .ins (.move 0 w) :: .ins (.set w p100) :: .jmp w "end" :: .mark "body" :: .ins (.move 0 w) :: ((cln (wid p)).map Line.ins ++ (p.map Line.ins ++ [.ins (.set w p100), .jmp w "again", .mark "end"])))))
theorem n_fe : ¬ Str.ofString "first" = Str.ofString "end" := by decide +kernel
theorem n_ef : ¬ Str.ofString "end" = Str.ofString "first" := by decide +kernel
theorem n_ab : ¬ Str.ofString "again" = Str.ofString "body" := by decide +kernel
theorem n_ae : ¬ Str.ofString "again" = Str.ofString "end" := by decide +kernel
theorem n_ba : ¬ Str.ofString "body" = Str.ofString "again" := by decide +kernel
theorem n_be : ¬ Str.ofString "body" = Str.ofString "end" := by decide +kernel
theorem n_ea : ¬ Str.ofString "end" = Str.ofString "again" := by decide +kernel
theorem n_eb : ¬ Str.ofString "end" = Str.ofString "body" := by decide +kernel
theorem choice_first (w : Nat) (c p q : List Ins) : mval (choiceL w c p q) "first" = some (c.length + partL q + 5) := by
  unfold mval choiceL partL
  simp only [mst_cons, mst_app, mst_ins, mst_nil, mstep, if_neg n_fe, if_true]
  congr 1
  omega
theorem choice_end (w : Nat) (c p q : List Ins) : mval (choiceL w c p q) "end" = some (c.length + partL q + partL p + 6) := by
  unfold mval choiceL partL
  simp only [mst_cons, mst_app, mst_ins, mst_nil, mstep, if_neg n_ef, if_true]
  congr 1
  omega
def choiceD (c p q : List Ins) (n : Str) : Nat := if n = "first" then c.length + partL q + 5 else c.length + partL q + partL p + 6
theorem choice_is (w : Nat) (c p q : List Ins) : plc (choiceD c p q) 0 (choiceL w c p q) = choiceP w c p q := by
  have d1 : choiceD c p q "first" = c.length + partL q + 5 := if_pos rfl
  have d2 : choiceD c p q "end" = c.length + partL q + partL p + 6 := if_neg n_ef
  unfold choiceL choiceP
  simp only [plc, plc_app, plc_ins, cnt_ins, d1, d2, List.append_nil]
  congr 2
  have e1 : (((c.length + partL q + 5 : Nat) : Int) - ((0 + 1 + c.length : Nat) : Int)) = (partL q : Nat) + 4 := by omega
  have e2 : ∀ k : Nat, k = partL q → (((c.length + partL q + partL p + 6 : Nat) : Int) - ((0 + 1 + c.length + 1 + 1 + k + 1 : Nat) : Int)) = (partL p : Nat) + 2 := fun k hk => by omega
  rw [e1]
  congr 5
  have := e2 ((cln (wid q)).length + q.length) rfl
  rw [show 0 + 1 + c.length + 1 + 1 + ((cln (wid q)).length + q.length) + 1 = 0 + 1 + c.length + 1 + 1 + (cln (wid q)).length + q.length + 1 by omega] at this
  rw [this]
theorem loop_again (w : Nat) (c p : List Ins) : mval (loopL w c p) "again" = some 0 := by
  unfold mval loopL
  simp only [mst_cons, mst_app, mst_ins, mst_nil, mstep, if_neg n_ab, if_neg n_ae, if_true]
theorem loop_body (w : Nat) (c p : List Ins) : mval (loopL w c p) "body" = some (partL c + 5) := by
  unfold mval loopL partL
  simp only [mst_cons, mst_app, mst_ins, mst_nil, mstep, if_neg n_ba, if_neg n_be, if_true]
  congr 1
  omega
theorem loop_end (w : Nat) (c p : List Ins) : mval (loopL w c p) "end" = some (partL c + partL p + 8) := by
  unfold mval loopL partL
  simp only [mst_cons, mst_app, mst_ins, mst_nil, mstep, if_neg n_ea, if_neg n_eb, if_true]
  congr 1
  omega
def loopD (c p : List Ins) (n : Str) : Nat := if n = "again" then 0 else if n = "body" then partL c + 5 else partL c + partL p + 8
theorem loop_is (w : Nat) (c p : List Ins) : plc (loopD c p) 0 (loopL w c p) = loopP w c p := by
  have d1 : loopD c p "again" = 0 := if_pos rfl
  have d2 : loopD c p "body" = partL c + 5 := (if_neg n_ba).trans (if_pos rfl)
  have d3 : loopD c p "end" = partL c + partL p + 8 := (if_neg n_ea).trans (if_neg n_eb)
  unfold loopL loopP
  simp only [plc, plc_app, plc_ins, cnt_ins, d1, d2, d3, List.append_nil]
  have hc : partL c = (cln (wid c)).length + c.length := rfl
  have hp : partL p = (cln (wid p)).length + p.length := rfl
  have e1 : (((partL c + 5 : Nat) : Int) - ((0 + 1 + (cln (wid c)).length + c.length : Nat) : Int)) = 4 := by omega
  have e2 : (((partL c + partL p + 8 : Nat) : Int) - ((0 + 1 + (cln (wid c)).length + c.length + 1 + 1 + 1 : Nat) : Int)) = (partL p : Nat) + 4 := by omega
  have e3 : (((0 : Nat) : Int) - ((0 + 1 + (cln (wid c)).length + c.length + 1 + 1 + 1 + 1 + 1 + (cln (wid p)).length + p.length + 1 : Nat) : Int)) = -((partL c : Nat) + (partL p : Nat) + 7) := by omega
  rw [e1, e2, e3]
theorem nuMax2_nat (a b : Nat) : nuMax2 (.int a) (.int b) = some (.int (max a b : Nat)) := by
  show some (if decide ((a : Int) < (b : Int)) = true then V.int b else V.int a) = _
  by_cases c : a < b
  · rw [if_pos (decide_eq_true (by omega)), Nat.max_eq_right (by omega)]
  · rw [if_neg (fun z => c (by have := of_decide_eq_true z; omega)), Nat.max_eq_left (by omega)]
theorem nuMax3_nat (a b c : Nat) : nuMax3 (.int a) (.int b) (.int c) = some (.int (max (max a b) c : Nat)) := by
  unfold nuMax3
  rw [nuMax2_nat]
  exact nuMax2_nat _ _
theorem gw_two (p q : List Ins) : gw [p, q] = max (wid p) (wid q) := by
  show max (max 1 (wid p)) (wid q) = _
  rw [Nat.max_eq_right (wid_pos p)]
theorem gw_three (c p q : List Ins) : gw [c, p, q] = max (max (wid c) (wid p)) (wid q) := by
  show max (max (max 1 (wid c)) (wid p)) (wid q) = _
  rw [Nat.max_eq_right (wid_pos c)]
/-! ### they are programs -/
/-- instructions from the index o on, in a program of n -/
def OkAt (w k n o : Nat) (is : List Ins) : Prop := ∀ (i : Nat) (x : Ins), is[i]? = some x → x.ok w k (o + i) n
theorem OkAt.nil {w k n o : Nat} : OkAt w k n o [] := fun i x h => by simp at h
theorem OkAt.cons {w k n o : Nat} {x : Ins} {r : List Ins} (h : x.ok w k o n) (t : OkAt w k n (o + 1) r) : OkAt w k n o (x :: r) := fun i y hy => by
  cases i with
  | zero =>
    have hy : some x = some y := hy
    rw [← Option.some.inj hy]
    exact h
  | succ i =>
    have := t i y hy
    rw [show o + 1 + i = o + (i + 1) by omega] at this
    exact this
theorem OkAt.app {w k n o : Nat} {a b : List Ins} (ha : OkAt w k n o a) (hb : OkAt w k n (o + a.length) b) : OkAt w k n o (a ++ b) := fun i x h => by
  by_cases c : i < a.length
  · rw [List.getElem?_append_left c] at h
    exact ha i x h
  · rw [List.getElem?_append_right (by omega)] at h
    have := hb _ x h
    rw [show o + a.length + (i - a.length) = o + i by omega] at this
    exact this
theorem PgOk.at_ {v w k n o : Nat} {p : List Ins} (h : PgOk v k p) (hw : v ≤ w) (ho : o + p.length ≤ n) : OkAt w k n o p := fun i x hx => by
  have := (h.wide hw) i x hx
  cases x with
  | jump a m => exact ⟨this.1, by have := this.2.1; omega, by have := this.2.2; omega⟩
  | _ => exact this
theorem OkAt.all {w k : Nat} {is : List Ins} (h : OkAt w k is.length 0 is) : PgOk w k is := fun i x hx => by
  have := h i x hx
  rw [Nat.zero_add] at this
  exact this
section
variable {w k : Nat} {c p q : List Ins}
theorem bothP_ok (hw : w ≤ 16) (hp : PgOk 16 k p) (hq : PgOk 16 k q) : PgOk 20 k (bothP w p q) := by
  have hwq := hq.wid (by decide)
  have e := cln_len (wid q)
  refine OkAt.all ?_
  have hl : (bothP w p q).length = 4 + p.length + (cln (wid q)).length + q.length := by
    unfold bothP
    simp only [List.length_cons, List.length_append, List.length_nil]
    omega
  rw [hl]
  refine .cons ⟨by omega, by decide⟩ (.app (hp.at_ (by decide) (by omega)) (.cons ⟨by omega, by decide⟩ (.cons ⟨by decide, by omega⟩ (.app ((cln_ok hwq).at_ (by decide) (by omega)) (.app (hq.at_ (by decide) (by omega)) (.cons ⟨by decide, by omega, by decide⟩ .nil))))))
theorem choiceP_ok (hw : w ≤ 16) (hk : 1 ≤ k) (hc : PgOk 16 k c) (hp : PgOk 16 k p) (hq : PgOk 16 k q) : PgOk 20 k (choiceP w c p q) := by
  have hwq := hq.wid (by decide)
  have hwp := hp.wid (by decide)
  have ep : partL p = (cln (wid p)).length + p.length := rfl
  have eq : partL q = (cln (wid q)).length + q.length := rfl
  refine OkAt.all ?_
  have hl : (choiceP w c p q).length = 6 + c.length + partL q + partL p := by
    unfold choiceP
    simp only [List.length_cons, List.length_append]
    omega
  rw [hl]
  refine .cons ⟨by omega, by decide⟩ (.app (hc.at_ (by decide) (by omega)) (.cons ⟨by decide, by omega, by omega⟩ (.cons ⟨by decide, by omega⟩ (.app ((cln_ok hwq).at_ (by decide) (by omega)) (.app (hq.at_ (by decide) (by omega)) (.cons ⟨by omega, hk⟩ (.cons ⟨by omega, by omega, by omega⟩ (.cons ⟨by decide, by omega⟩ (.app ((cln_ok hwp).at_ (by decide) (by omega)) (hp.at_ (by decide) (by omega)))))))))))
theorem loopP_ok (hw : w ≤ 16) (hk : 1 ≤ k) (hc : PgOk 16 k c) (hp : PgOk 16 k p) : PgOk 20 k (loopP w c p) := by
  have hwc := hc.wid (by decide)
  have hwp := hp.wid (by decide)
  have ep : partL p = (cln (wid p)).length + p.length := rfl
  have ec : partL c = (cln (wid c)).length + c.length := rfl
  refine OkAt.all ?_
  have hl : (loopP w c p).length = 8 + partL c + partL p := by
    unfold loopP
    simp only [List.length_cons, List.length_append, List.length_nil]
    omega
  rw [hl]
  refine .cons ⟨by omega, by decide⟩ (.app ((cln_ok hwc).at_ (by decide) (by omega)) (.app (hc.at_ (by decide) (by omega)) (.cons ⟨by decide, by omega, by omega⟩ (.cons ⟨by decide, by omega⟩ (.cons ⟨by omega, hk⟩ (.cons ⟨by omega, by omega, by omega⟩ (.cons ⟨by decide, by omega⟩ (.app ((cln_ok hwp).at_ (by decide) (by omega)) (.app (hp.at_ (by decide) (by omega)) (.cons ⟨by omega, hk⟩ (.cons ⟨by omega, by omega, by omega⟩ .nil)))))))))))
theorem bothP_len : (bothP w p q).length = 4 + p.length + partL q := by
  unfold bothP partL
  simp only [List.length_cons, List.length_append, List.length_nil]
  omega
theorem choiceP_len : (choiceP w c p q).length = 6 + c.length + partL q + partL p := by
  unfold choiceP partL
  simp only [List.length_cons, List.length_append]
  omega
theorem loopP_len : (loopP w c p).length = 8 + partL c + partL p := by
  unfold loopP partL
  simp only [List.length_cons, List.length_append, List.length_nil]
  omega
end
/-! ### what is kept while lists are lengthened -/
theorem PgAt.butL {rs : List Addr} {H H' : Hp} {p : Addr} {is : List Ins} (h : PgAt H p is) (n : p ∉ rs) (e : ButL rs H H') (hr : ∀ r ∈ rs, ∃ ys, H r = some (.lst ys)) : PgAt H' p is := by
  obtain ⟨as, h1, h2⟩ := h
  refine ⟨as, e _ _ n h1, Paired.imp (fun a i q => e a _ (fun z => ?_) q) h2⟩
  obtain ⟨ys, hy⟩ := hr a z
  rw [hy] at q
  cases q
theorem ButL.same_new {rs : List Addr} {H0 H H' : Hp} (s : Same H0 H) (n : ∀ r ∈ rs, H0 r = none) (e : ButL rs H H') : Same H0 H' := fun a o h => e a o (fun z => by rw [n a z] at h; cases h) (s a o h)
theorem ButL.sub {rs ss : List Addr} {H H' : Hp} (h : ∀ r ∈ rs, r ∈ ss) (e : ButL rs H H') : ButL ss H H' := fun a o n q => e a o (fun z => n (h a z)) q
theorem pgs_three {H : Hp} {D : Addr} {c p q : List Ins} (h : PgsAt H D [c, p, q]) : ∃ a1 a2 a3, H D = some (.lst [.ref a1, .ref a2, .ref a3]) ∧ PgAt H a1 c ∧ PgAt H a2 p ∧ PgAt H a3 q := by
  obtain ⟨vs, h1, h2⟩ := h
  cases h2 with
  | cons r1 t1 =>
    cases t1 with
    | cons r2 t2 =>
      cases t2 with
      | cons r3 t3 =>
        cases t3
        obtain ⟨a1, rfl, e1⟩ := r1
        obtain ⟨a2, rfl, e2⟩ := r2
        obtain ⟨a3, rfl, e3⟩ := r3
        exact ⟨a1, a2, a3, h1, e1, e2, e3⟩
theorem PgAt.some {H : Hp} {p : Addr} {is : List Ins} (h : PgAt H p is) : H p ≠ none := fun z => by
  obtain ⟨as, h1, _⟩ := h
  rw [z] at h1
  cases h1
theorem PgAt.apart {H : Hp} {p r : Addr} {is : List Ins} (h : PgAt H p is) (n : H r = none) : p ≠ r := fun z => h.some (by rw [z]; exact n)
def callP : Nat → List Ins → List Ins → List Ins → List Ins
  | 0, a, b, c => chainP [a, b, c]
  | 1, a, b, _ => bothP (gw [a, b]) a b
  | 2, a, b, c => choiceP (gw [a, b, c]) a b c
  | _, a, b, _ => loopP (gw [a, b]) a b
def callW : Nat → List Ins → List Ins → List Ins → Nat
  | 0, a, b, c => gw [a, b, c]
  | 1, a, b, _ => gw [a, b]
  | 2, a, b, c => gw [a, b, c]
  | _, a, b, _ => gw [a, b]
end Nx

/-! Runs of composed programs. -/
namespace Nx
open PySem PySem.Spec PyProof.Rows L2
/-- n steps, none of them too large -/
inductive St (is : List Ins) : Nat → Nat → List Tr → Nat → List Tr → Prop where
  | refl (k : Nat) (rs : List Tr) : St is 0 k rs k rs
  | step {n k k1 k' : Nat} {rs rs' : List Tr} {i : Ins} (h : is[k]? = some i) (g : bigS i rs = false) (e : stepAt i k rs = (k1 : Int)) (t : St is n k1 (stepRs i rs) k' rs') : St is (n + 1) k rs k' rs'
section
variable {is A B : List Ins} {n m k k' k2 : Nat} {rs rs' rs2 : List Tr}
theorem St.rn (s : St is n k rs k' rs') : Rn is n k rs k' rs' := by
  induction s with
  | refl k rs => exact Rn.refl _ _ _
  | step h g e t ih => exact ((Rn.one h g e).trans ih).cast (Nat.add_comm _ _) rfl rfl
theorem St.trans (s : St is n k rs k' rs') (t : St is m k' rs' k2 rs2) : St is (n + m) k rs k2 rs2 := by
  induction s with
  | refl k rs =>
    rw [Nat.zero_add]
    exact t
  | @step n k k1 k' rs rs' i h g e _ ih =>
    rw [show n + 1 + m = (n + m) + 1 by omega]
    exact .step h g e (ih t)
theorem St.cast (s : St is n k rs k' rs') (e1 : n = m) (e2 : k' = k2) : St is m k rs k2 rs' := by
  subst e1 e2
  exact s
theorem St.len (s : St is n k rs k' rs') : rs'.length = rs.length := by
  induction s with
  | refl k rs => rfl
  | step h g e t ih => rw [ih, stepRs_len]
theorem St.left (s : St A n k rs k' rs') (B : List Ins) : St (A ++ B) n k rs k' rs' := by
  induction s with
  | refl k rs => exact .refl _ _
  | step h g e t ih =>
    have hl := (List.getElem?_eq_some_iff.mp h).1
    exact .step (by rw [List.getElem?_append_left hl]; exact h) g e ih
theorem stepAt_shift (i : Ins) (a : Nat) (k : Nat) (rs : List Tr) : stepAt i ((a + k : Nat) : Int) rs = (a : Int) + stepAt i (k : Nat) rs := by
  cases i with
  | jump r m =>
    show (if reg rs r = .leaf then _ else _) = _ + (if reg rs r = .leaf then _ else _)
    split <;> omega
  | _ => show ((a + k : Nat) : Int) + 1 = (a : Int) + ((k : Int) + 1); omega
theorem St.right (s : St B n k rs k' rs') (A : List Ins) : St (A ++ B) n (A.length + k) rs (A.length + k') rs' := by
  induction s with
  | refl k rs => exact .refl _ _
  | @step n k k1 k' rs rs' i h g e _ ih =>
    refine .step (k1 := A.length + k1) (by rw [List.getElem?_append_right (by omega), Nat.add_sub_cancel_left]; exact h) g ?_ ih
    rw [stepAt_shift, e]
    omega
theorem go_st (hJ : JOk is) : ∀ (n k : Nat) (rs : List Tr) {k' d : Nat} {rs' : List Tr}, go is n k rs = some (k', rs', d) → St is d k rs k' rs'
  | 0, k, rs, k', d, rs', e => by
    cases e
    exact .refl _ _
  | n + 1, k, rs, k', d, rs', e => by
    cases hi : is[k]? with
    | none =>
      rw [go_end hi] at e
      cases e
      exact .refl _ _
    | some i =>
      cases hg : bigS i rs with
      | true =>
        rw [go_big hi hg] at e
        cases e
      | false =>
        rw [go_on hi hg] at e
        cases e2 : go is n (stepAt i k rs).toNat (stepRs i rs) with
        | none =>
          rw [e2] at e
          cases e
        | some q =>
          rw [e2] at e
          obtain ⟨q1, q2, q3⟩ := q
          have e : some (q1, q2, q3 + 1) = some (k', rs', d) := e
          cases e
          obtain ⟨j2, h1, _⟩ := hJ k i rs hi
          exact .step hi hg (k1 := (stepAt i k rs).toNat) (by rw [h1]; rfl) (go_st hJ n _ _ e2)
/-- at the end -/
theorem St.go_end (s : St is n k rs is.length rs') (h : n ≤ m) : go is m k rs = some (is.length, rs', n) := by
  have := s.rn (m - n)
  rw [show n + (m - n) = m by omega, Nx.go_end (List.getElem?_eq_none (Nat.le_refl _))] at this
  rw [this]
  show some (is.length, rs', 0 + n) = _
  rw [Nat.zero_add]
/-- what runs behind A stays there -/
theorem St.inR (hB : JOk B) (s : St (A ++ B) n (A.length + k) rs k2 rs') : ∃ k', k2 = A.length + k' ∧ St B n k rs k' rs' := by
  generalize hx : A.length + k = x at s
  generalize hI : A ++ B = I at s
  induction s generalizing k with
  | refl y rs => exact ⟨k, hx.symm, .refl _ _⟩
  | @step n y k1 k' rs rs' i h g e _ ih =>
    subst hx hI
    rw [List.getElem?_append_right (by omega), Nat.add_sub_cancel_left] at h
    obtain ⟨j2, h1, h2⟩ := hB k i rs h
    rw [stepAt_shift, h1] at e
    obtain ⟨k3, e3, t3⟩ := ih (k := j2) (by omega)
    exact ⟨k3, e3, .step h g h1 t3⟩
/-- a run through A ++ B is one through A and one through B -/
theorem St.split (hA : JOk A) (hB : JOk B) (s : St (A ++ B) n k rs k2 rs') (hk : k ≤ A.length) (hk2 : A.length ≤ k2) : ∃ n1 n2 rs1 k3, n = n1 + n2 ∧ St A n1 k rs A.length rs1 ∧ St B n2 0 rs1 k3 rs' ∧ k2 = A.length + k3 := by
  generalize hI : A ++ B = I at s
  induction s with
  | refl y rs =>
    have : y = A.length := by omega
    subst this
    exact ⟨0, 0, rs, 0, rfl, .refl _ _, .refl _ _, rfl⟩
  | @step n y k1 k' rs rs' i h g e t ih =>
    subst hI
    by_cases c : y < A.length
    · rw [List.getElem?_append_left c] at h
      obtain ⟨j2, h1, h2⟩ := hA y i rs h
      rw [h1] at e
      have : j2 = k1 := by omega
      subst this
      obtain ⟨n1, n2, rs1, k3, e1, s1, s2, e2⟩ := ih h2 hk2
      exact ⟨n1 + 1, n2, rs1, k3, by omega, .step h g h1 s1, s2, e2⟩
    · have : y = A.length := by omega
      subst this
      have s : St (A ++ B) (n + 1) (A.length + 0) rs k' rs' := .step h g e t
      obtain ⟨k3, e3, t3⟩ := s.inR hB
      exact ⟨0, n + 1, rs, k3, by omega, .refl _ _, t3, e3⟩
/-- one behind the other -/
theorem St.seq {n1 n2 : Nat} {rs1 : List Tr} (a : St A n1 0 rs A.length rs1) (b : St B n2 0 rs1 k' rs') : St (A ++ B) (n1 + n2) 0 rs (A.length + k') rs' := (a.left B).trans (b.right A)
end
theorem JOk.app {A B : List Ins} (hA : JOk A) (hB : JOk B) : JOk (A ++ B) := fun j i rs h => by
  rw [List.length_append]
  by_cases c : j < A.length
  · rw [List.getElem?_append_left c] at h
    obtain ⟨j2, h1, h2⟩ := hA j i rs h
    exact ⟨j2, h1, by omega⟩
  · rw [List.getElem?_append_right (by omega)] at h
    obtain ⟨j2, h1, h2⟩ := hB _ i rs h
    refine ⟨A.length + j2, ?_, by omega⟩
    have := stepAt_shift i A.length (j - A.length) rs
    rw [show A.length + (j - A.length) = j by omega] at this
    rw [this, h1]
    omega
theorem PgOk.jok {w k : Nat} {is : List Ins} (h : PgOk w k is) : JOk is := fun _ _ _ hi => stepAt_ok h hi
/-! ### what the further registers hold does not matter -/
def Ag (w : Nat) (rs us : List Tr) : Prop := ∀ i, i < w → reg rs i = reg us i
section
variable {w : Nat} {i : Ins} {rs us : List Tr}
theorem Ag.big (h : Ag w rs us) (hb : i.below w) : bigS i rs = bigS i us := by
  cases i with
  | cons a b c =>
    show decide (200000 < (Tr.node (reg rs b) (reg rs c)).sg.length) = decide (200000 < (Tr.node (reg us b) (reg us c)).sg.length)
    rw [h b (hb b (by simp [Ins.regs])), h c (hb c (by simp [Ins.regs]))]
  | _ => rfl
theorem Ag.at_ (h : Ag w rs us) (hb : i.below w) (k : Int) : stepAt i k rs = stepAt i k us := by
  cases i with
  | jump a m =>
    show (if reg rs a = .leaf then _ else _) = (if reg us a = .leaf then _ else _)
    rw [h a (hb a (by simp [Ins.regs]))]
  | _ => rfl
theorem Ag.new (h : Ag w rs us) (hb : i.below w) : newT i rs = newT i us := by
  cases i with
  | set a t => rfl
  | jump a m => rfl
  | move a b => exact h b (hb b (by simp [Ins.regs]))
  | head a b => exact congrArg Tr.hd (h b (hb b (by simp [Ins.regs])))
  | tail a b => exact congrArg Tr.tl (h b (hb b (by simp [Ins.regs])))
  | cons a b c =>
    show Tr.node (reg rs b) (reg rs c) = .node (reg us b) (reg us c)
    rw [h b (hb b (by simp [Ins.regs])), h c (hb c (by simp [Ins.regs]))]
theorem reg_set_all {rs : List Tr} {a : Nat} (t : Tr) (j : Nat) (h : a < rs.length) : reg (rs.set a t) j = if a = j then t else reg rs j := by
  by_cases c : a = j
  · subst c
    rw [if_pos rfl, reg_set t h]
  · rw [if_neg c, reg_ne t c]
theorem Ag.step (h : Ag w rs us) (hb : i.below w) (l1 : w ≤ rs.length) (l2 : w ≤ us.length) : Ag w (stepRs i rs) (stepRs i us) := by
  cases hj : i.isJ with
  | true =>
    cases i with
    | jump a m => exact h
    | _ => cases hj
  | false =>
    have ha := Ins.below_a hb
    intro j hj2
    rw [stepRs_no hj, stepRs_no hj, reg_set_all _ _ (by omega), reg_set_all _ _ (by omega), h.new hb, h j hj2]
theorem step_out (hb : i.below w) {j : Nat} (hj : w ≤ j) : reg (stepRs i rs) j = reg rs j := by
  cases h : i.isJ with
  | true =>
    cases i with
    | jump a m => rfl
    | _ => cases h
  | false =>
    have ha := Ins.below_a hb
    rw [stepRs_no h, reg_ne _ (by omega)]
end
theorem St.agree {is : List Ins} {w n k k' : Nat} {rs rs' us : List Tr} (s : St is n k rs k' rs') (hb : ∀ i ∈ is, i.below w) (h : Ag w rs us) (l1 : w ≤ rs.length) (l2 : w ≤ us.length) : ∃ us', St is n k us k' us' ∧ Ag w rs' us' ∧ us'.length = us.length ∧ ∀ j, w ≤ j → reg us' j = reg us j := by
  induction s generalizing us with
  | refl k rs => exact ⟨us, .refl _ _, h, rfl, fun _ _ => rfl⟩
  | @step n k k1 k' rs rs' i hi g e _ ih =>
    have hbi := hb i (List.mem_of_getElem? hi)
    obtain ⟨us', s', a', l', o'⟩ := ih (us := stepRs i us) (h.step hbi l1 l2) (by rw [stepRs_len]; exact l1) (by rw [stepRs_len]; exact l2)
    exact ⟨us', .step hi (by rw [← h.big hbi]; exact g) (by rw [← h.at_ hbi]; exact e) s', a', by rw [l', stepRs_len], fun j hj => by rw [o' j hj, step_out hbi hj]⟩
theorem St.out {is : List Ins} {w n k k' : Nat} {rs rs' : List Tr} (s : St is n k rs k' rs') (hb : ∀ i ∈ is, i.below w) {j : Nat} (hj : w ≤ j) : reg rs' j = reg rs j := by
  induction s with
  | refl k rs => rfl
  | step hi g e _ ih => rw [ih, step_out (hb _ (List.mem_of_getElem? hi)) hj]
/-! ### cleanings -/
theorem cln_at {w j : Nat} (h : j < w - 1) : (cln w)[j]? = some (.set (j + 1) .leaf) := by
  unfold cln
  rw [List.getElem?_map, List.getElem?_range h]
  rfl
theorem cln_run (w : Nat) (rs : List Tr) (hw : w ≤ rs.length) : ∃ us, St (cln w) (w - 1) 0 rs (cln w).length us ∧ us.length = rs.length ∧ ∀ j, reg us j = if 1 ≤ j ∧ j < w then .leaf else reg rs j := by
  have key : ∀ m, m ≤ w - 1 → ∃ us, St (cln w) m 0 rs m us ∧ us.length = rs.length ∧ ∀ j, reg us j = if 1 ≤ j ∧ j < m + 1 then .leaf else reg rs j := fun m => by
    induction m with
    | zero => exact fun _ => ⟨rs, .refl _ _, rfl, fun j => by rw [if_neg (by omega)]⟩
    | succ m ih =>
      intro hm
      obtain ⟨us, s, l, r⟩ := ih (by omega)
      have one : St (cln w) 1 m us (m + 1) (stepRs (.set (m + 1) .leaf) us) := .step (cln_at (by omega)) rfl (k1 := m + 1) rfl (.refl _ _)
      refine ⟨_, s.trans one, by rw [stepRs_len, l], fun j => ?_⟩
      show reg (us.set (m + 1) .leaf) j = _
      rw [reg_set_all _ _ (by omega), r j]
      by_cases c : m + 1 = j
      · rw [if_pos c, if_pos (by omega)]
      · rw [if_neg c]
        by_cases c2 : 1 ≤ j ∧ j < m + 1
        · rw [if_pos c2, if_pos (by omega)]
        · rw [if_neg c2, if_neg (by omega)]
  obtain ⟨us, s, l, r⟩ := key (w - 1) (Nat.le_refl _)
  refine ⟨us, s.cast rfl (cln_len w).symm, l, fun j => ?_⟩
  rw [r j]
  by_cases c : 1 ≤ j ∧ j < w
  · rw [if_pos c, if_pos (by omega)]
  · rw [if_neg c, if_neg (by omega)]
/-- all runs of a cleaning -/
theorem cln_only {w n : Nat} {rs rs' : List Tr} (s : St (cln w) n 0 rs (cln w).length rs') (hw : w ≤ rs.length) : n = w - 1 ∧ ∀ j, reg rs' j = if 1 ≤ j ∧ j < w then .leaf else reg rs j := by
  obtain ⟨us, s2, _, r⟩ := cln_run w rs hw
  have e1 := s.go_end (m := n + (w - 1)) (by omega)
  have e2 := s2.go_end (m := n + (w - 1)) (by omega)
  rw [e1] at e2
  cases e2
  exact ⟨rfl, r⟩
/-! ### what a program returns -/
/-- from the first state on: n steps, none too large, to the end, where register 0 holds y -/
def Ret (is : List Ins) (n : Nat) (x y : Tr) : Prop := ∃ us, St is n 0 (rs0 x) is.length us ∧ reg us 0 = y
theorem rs0_reg (x : Tr) (j : Nat) : reg (rs0 x) j = if j = 0 then x else .leaf := by
  match j with
  | 0 => rfl
  | j + 1 =>
    rw [if_neg (by omega)]
    show (x :: List.replicate 19 Tr.leaf).getD (j + 1) .leaf = .leaf
    rw [List.getD_cons_succ, List.getD_eq_getElem?_getD, List.getElem?_replicate]
    split <;> rfl
section
variable {is A B : List Ins} {n m w : Nat} {x y z : Tr}
theorem Ret.of_go (hJ : JOk is) {d : Nat} {rs' : List Tr} (e : go is m 0 (rs0 x) = some (is.length, rs', d)) : Ret is d x (reg rs' 0) := ⟨rs', go_st hJ _ _ _ e, rfl⟩
theorem Ret.go (h : Ret is n x y) (hm : n ≤ m) : ∃ us, go is m 0 (rs0 x) = some (is.length, us, n) ∧ reg us 0 = y := by
  obtain ⟨us, s, e⟩ := h
  exact ⟨us, s.go_end hm, e⟩
theorem Ret.nil (x : Tr) : Ret [] 0 x x := ⟨rs0 x, .refl _ _, rfl⟩
theorem St.l20 {k k' : Nat} {us : List Tr} (s : St is n k (rs0 x) k' us) : us.length = 20 := s.len
theorem cln_ag {us vs : List Tr} (h : reg us 0 = y) (r : ∀ j, reg vs j = if 1 ≤ j ∧ j < w then .leaf else reg us j) : Ag w (rs0 y) vs := fun i hi => by
  rw [r i, rs0_reg]
  by_cases c : i = 0
  · subst c
    rw [if_pos rfl, if_neg (by omega), h]
  · rw [if_neg c, if_pos (by omega)]
theorem Ret.chain (hB : ∀ i ∈ B, i.below w) (h1 : 1 ≤ w) (hw : w ≤ 20) (a : Ret A n x y) (b : Ret B m y z) : Ret (A ++ (cln w ++ B)) (n + (w - 1 + m)) x z := by
  obtain ⟨us, sa, ea⟩ := a
  obtain ⟨zs, sb, eb⟩ := b
  obtain ⟨vs, sc, lc, rc⟩ := cln_run w us (by rw [sa.l20]; exact hw)
  obtain ⟨ws, sd, ag, _, _⟩ := sb.agree hB (cln_ag ea rc) hw (by rw [lc, sa.l20]; exact hw)
  refine ⟨ws, (sa.seq (sc.seq sd)).cast rfl ?_, ?_⟩
  · rw [List.length_append, List.length_append]
  · rw [← ag 0 h1, eb]
theorem cln_jok (w : Nat) : JOk (cln w) := (cln_ok (k := 0) (Nat.le_refl w)).jok
theorem Ret.parts (jA : JOk A) (jB : JOk B) (hB : ∀ i ∈ B, i.below w) (h1 : 1 ≤ w) (hw : w ≤ 20) {N : Nat} (h : Ret (A ++ (cln w ++ B)) N x z) : ∃ n m y, N = n + (w - 1 + m) ∧ Ret A n x y ∧ Ret B m y z := by
  obtain ⟨us, s, e⟩ := h
  obtain ⟨n1, n2, rs1, k3, e1, s1, s2, e2⟩ := s.split jA ((cln_jok w).app jB) (Nat.zero_le _) (by rw [List.length_append]; omega)
  have e3 : k3 = (cln w ++ B).length := by
    rw [List.length_append] at e2
    omega
  subst e3
  obtain ⟨n3, n4, rs2, k4, e4, s3, s4, e5⟩ := s2.split (cln_jok w) jB (Nat.zero_le _) (by rw [List.length_append]; omega)
  have e6 : k4 = B.length := by
    rw [List.length_append] at e5
    omega
  subst e6
  obtain ⟨e7, r⟩ := cln_only s3 (by rw [s1.l20]; exact hw)
  have ag : Ag w (rs0 (reg rs1 0)) rs2 := cln_ag rfl r
  obtain ⟨zs, sz, az, _, _⟩ := s4.agree hB (fun i hi => (ag i hi).symm) (by rw [s3.len, s1.l20]; exact hw) hw
  exact ⟨n1, n4, reg rs1 0, by omega, ⟨rs1, s1, rfl⟩, ⟨zs, sz, by rw [← az 0 h1, e]⟩⟩
end
theorem wid_bel (is : List Ins) : ∀ i ∈ is, i.below (wid is) := (wid_below (wid_pos is)).mp (Nat.le_refl _)
theorem chain2_is (p q : List Ins) : chainP [p, q] = p ++ (cln (wid q) ++ q) := by simp [chainP]
theorem chain3_is (p q r : List Ins) : chainP [p, q, r] = p ++ (cln (wid q) ++ (q ++ (cln (wid r) ++ r))) := by simp [chainP]
theorem chain_l (p q r : List Ins) : chainP [chainP [p, q], r] = chainP [p, q, r] := by simp [chainP]
theorem wid_nil : wid [] = 1 := rfl
theorem cln_1 : cln 1 = [] := rfl
theorem chain_e (p q r : List Ins) : chainP [p, [], q, r] = chainP [p, q, r] := by simp [chainP, wid_nil, cln_1]
theorem chain_n (p q r : List Ins) : chainP [[], p, q, [], r, []] = [] ++ (cln (wid p) ++ chainP [p, q, r]) := by simp [chainP, wid_nil, cln_1]
theorem bel_le {l : List Ins} {w : Nat} (h : wid l ≤ w) : ∀ i ∈ l, i.below w := (wid_below (Nat.le_trans (wid_pos l) h)).mp h
/-- three programs behind one another -/
theorem chain3_of {p q r : List Ins} {d : Nat} {x y : Tr} (jp : JOk p) (jq : JOk q) (jr : JOk r) (wq : wid q ≤ 20) (wr : wid r ≤ 20) (h : Ret (chainP [p, q, r]) d x y) : ∃ n m l s t, d = n + (wid q - 1 + m) + (wid r - 1 + l) ∧ Ret p n x s ∧ Ret q m s t ∧ Ret r l t y := by
  have e : chainP [p, q, r] = (p ++ (cln (wid q) ++ q)) ++ (cln (wid r) ++ r) := by simp [chainP]
  rw [e] at h
  obtain ⟨n, l, t, e1, a, c⟩ := h.parts (jp.app ((cln_jok _).app jq)) jr (wid_bel r) (wid_pos r) wr
  obtain ⟨n, m, s, e2, a, b⟩ := a.parts jp jq (wid_bel q) (wid_pos q) wq
  exact ⟨n, m, l, s, t, by omega, a, b, c⟩
theorem chain2_to {p q : List Ins} {n m : Nat} {x s t : Tr} (wq : wid q ≤ 20) (a : Ret p n x s) (b : Ret q m s t) : Ret (chainP [p, q]) (n + (wid q - 1 + m)) x t := by
  rw [chain2_is]
  exact a.chain (wid_bel q) (wid_pos q) wq b
/-- as point 11 says -/
theorem chain_r {p q r : List Ins} {k d : Nat} {x y : Tr} (hp : PgOk 4 k p) (hq : PgOk 4 k q) (hr : PgOk 4 k r) (h : Ret (chainP [p, q, r]) d x y) : ∃ n, n ≤ d + 6 ∧ Ret (chainP [p, chainP [q, r]]) n x y := by
  have h4 : ∀ {l : List Ins}, PgOk 4 k l → wid l ≤ 4 := fun hl => hl.wid (by decide)
  have w2 := h4 hq
  have w3 := h4 hr
  have w4 := h4 (chainP_ok (iss := [q, r]) (fun is hi => by simp at hi; rcases hi with rfl | rfl; exact hq; exact hr) (by decide))
  obtain ⟨n, m, l, s, t, e, a, b, c⟩ := chain3_of hp.jok hq.jok hr.jok (by omega) (by omega) h
  exact ⟨_, by omega, chain2_to (by omega) a (chain2_to (by omega) b c)⟩
theorem chain_s {p q r : List Ins} {k d : Nat} {x y : Tr} (hp : PgOk 4 k p) (hq : PgOk 4 k q) (hr : PgOk 4 k r) (h : Ret (chainP [p, q, r]) d x y) : ∃ n, n ≤ d + 6 ∧ Ret (chainP [[], p, q, [], r, []]) n x y := by
  have h4 : ∀ {l : List Ins}, PgOk 4 k l → wid l ≤ 4 := fun hl => hl.wid (by decide)
  have w1 := h4 hp
  have w2 := h4 hq
  have w3 := h4 hr
  obtain ⟨n, m, l, s, t, e, a, b, c⟩ := chain3_of hp.jok hq.jok hr.jok (by omega) (by omega) h
  have e2 : chainP [[], p, q, [], r, []] = (([] ++ (cln (wid p) ++ p)) ++ (cln (wid q) ++ q)) ++ (cln (wid r) ++ r) := by simp [chainP, wid_nil, cln_1]
  rw [e2]
  exact ⟨_, by omega, (((Ret.nil x).chain (wid_bel p) (wid_pos p) (by omega) a).chain (wid_bel q) (wid_pos q) (by omega) b).chain (wid_bel r) (wid_pos r) (by omega) c⟩
theorem pst {X : Hp} {st q : Addr} {js : List Ins} (hs : Strm X st) (hq : PgAt X q js) : q ≠ st := fun z => by
  obtain ⟨l, ns, c, i, m, g1, g2, g3⟩ := hs
  obtain ⟨as, h1, _⟩ := hq
  rw [z, g1] at h1
  have h4 := HO.lst.inj (Option.some.inj h1)
  cases as with
  | nil => cases h4
  | cons b r =>
    cases r with
    | nil => cases (List.cons.inj h4).2
    | cons b2 r2 => cases (List.cons.inj (List.cons.inj h4).2).1
theorem PgAt.draw {H H' : Hp} {st p : Addr} {is : List Ins} (h : PgAt H p is) (s : Strm H st) (e : ExS st H H') : PgAt H' p is := h.exs s (pst s h) e
theorem bigSum_mul {m : Nat} : ∀ l : List Ins, (∀ i ∈ l, i.big ≤ m) → bigSum l ≤ l.length * m
  | [], _ => Nat.zero_le _
  | i :: r, h => by
    have h1 := bigSum_mul r fun j hj => h j (.tail _ hj)
    have h2 := h i (.head _)
    have e : bigSum (i :: r) = i.big + bigSum r := by unfold bigSum; simp
    rw [e, List.length_cons, Nat.succ_mul]
    omega
theorem go_d {is : List Ins} : ∀ (n k : Nat) (rs : List Tr) {k' d : Nat} {rs' : List Tr}, go is n k rs = some (k', rs', d) → d ≤ n
  | 0, k, rs, k', d, rs', e => by
    cases e
    exact Nat.le_refl _
  | n + 1, k, rs, k', d, rs', e => by
    cases hi : is[k]? with
    | none =>
      rw [go_end hi] at e
      cases e
      exact Nat.zero_le _
    | some i =>
      cases hg : bigS i rs with
      | true =>
        rw [go_big hi hg] at e
        cases e
      | false =>
        rw [go_on hi hg] at e
        cases e2 : go is n (stepAt i k rs).toNat (stepRs i rs) with
        | none =>
          rw [e2] at e
          cases e
        | some q =>
          rw [e2] at e
          obtain ⟨q1, q2, q3⟩ := q
          have e : some (q1, q2, q3 + 1) = some (k', rs', d) := e
          cases e
          exact Nat.succ_le_succ (go_d n _ _ e2)
theorem chain2_len {p q : List Ins} (hq : wid q ≤ 4) : (chainP [p, q]).length ≤ p.length + q.length + 3 := by
  rw [chain2_is, List.length_append, List.length_append, cln_len]
  omega
end Nx

/-! What composed programs return. -/
namespace Nx
open PySem PySem.Spec PyProof.Rows L2
/-- not at the end after n steps, none of them too large -/
def Out (is : List Ins) (n : Nat) (x : Tr) : Prop := ∃ k us, St is n 0 (rs0 x) k us ∧ k < is.length
section
variable {is A B M N : List Ins} {n m k k' : Nat} {rs us : List Tr} {x y z : Tr}
theorem Out.go (h : Out is n x) (hm : m ≤ n) : ∃ k2 rs2, go is m 0 (rs0 x) = some (k2, rs2, m) ∧ k2 < is.length := by
  obtain ⟨k, us, s, hk⟩ := h
  exact s.rn.pre hk hm
theorem St.last (s : St is (n + 1) k rs k' us) : ∃ k1 rs1, St is n k rs k1 rs1 ∧ k1 < is.length := by
  generalize hN : n + 1 = N at s
  induction s generalizing n with
  | refl k rs => cases hN
  | @step j k k1 k' rs rs' i h g e t ih =>
    cases n with
    | zero => exact ⟨k, rs, .refl _ _, (List.getElem?_eq_some_iff.mp h).1⟩
    | succ n =>
      obtain ⟨k2, rs2, s2, h2⟩ := ih (n := n) (by omega)
      exact ⟨k2, rs2, .step h g e s2, h2⟩
/-- one step less is not enough -/
theorem Ret.less (h : Ret is (n + 1) x y) : Out is n x := by
  obtain ⟨us, s, _⟩ := h
  obtain ⟨k1, rs1, s1, h1⟩ := s.last
  exact ⟨k1, rs1, s1, h1⟩
theorem Out.of_go (hJ : JOk is) (e : Nx.go is n 0 (rs0 x) = some (k, us, n)) (hk : k < is.length) : Out is n x := ⟨k, us, go_st hJ _ _ _ e, hk⟩
/-- one instruction that is no jump -/
theorem St.one {i : Ins} (hj : i.isJ = false) (g : bigS i rs = false) : St [i] 1 0 rs 1 (stepRs i rs) := by
  refine .step (k1 := 1) rfl g ?_ (.refl _ _)
  cases i with
  | jump a m => cases hj
  | _ => rfl
/-- a jump that is not taken -/
theorem St.stay {r : Nat} {d : Int} (h : reg rs r = .leaf) : St [.jump r d] 1 0 rs 1 rs := by
  refine .step (k1 := 1) rfl rfl ?_ (.refl _ _)
  show (if reg rs r = .leaf then _ else _) = _
  rw [if_pos h]
  rfl
/-- a jump over M -/
theorem St.over {r : Nat} {d : Int} (h : reg rs r ≠ .leaf) (hd : d = (M.length : Nat) + 1) (b : St N n 0 rs k' us) : St (.jump r d :: (M ++ N)) (n + 1) 0 rs (M.length + 1 + k') us := by
  refine .step (k1 := M.length + 1) rfl rfl ?_ ?_
  · show (if reg rs r = .leaf then _ else _) = _
    rw [if_neg h, hd]
    omega
  · have := b.right (.jump r d :: M)
    rw [List.length_cons] at this
    exact this
theorem St.cons1 {i : Ins} (hj : i.isJ = false) (g : bigS i rs = false) (b : St N n 0 (stepRs i rs) k' us) : St (i :: N) (n + 1) 0 rs (1 + k') us := by
  have := (St.one (rs := rs) hj g).seq b
  rw [Nat.add_comm 1 n] at this
  exact this
theorem St.app {n1 n2 : Nat} {rs1 : List Tr} {e : Nat} (a : St A n1 0 rs e rs1) (he : e = A.length) (b : St B n2 0 rs1 k' us) : St (A ++ B) (n1 + n2) 0 rs (e + k') us := by
  subst he
  exact a.seq b
theorem St.inA {e : Nat} (a : St A n 0 rs e us) : St (A ++ B) n 0 rs e us := a.left B
end
/-! ### pieces -/
section
variable {p : List Ins} {n : Nat} {x y : Tr} {us : List Tr}
/-- p, where its registers are as at the start -/
theorem pc_run (h : Ret p n x y) (hw : wid p ≤ 20) (l : us.length = 20) (ag : Ag (wid p) (rs0 x) us) : ∃ vs, St p n 0 us p.length vs ∧ reg vs 0 = y ∧ vs.length = 20 ∧ ∀ j, wid p ≤ j → reg vs j = reg us j := by
  obtain ⟨zs, s, e⟩ := h
  obtain ⟨vs, s2, a2, l2, o2⟩ := s.agree (wid_bel p) ag hw (by omega)
  exact ⟨vs, s2, by rw [← a2 0 (wid_pos p), e], by omega, o2⟩
theorem pc_out (h : Out p n x) (hw : wid p ≤ 20) (l : us.length = 20) (ag : Ag (wid p) (rs0 x) us) : ∃ k vs, St p n 0 us k vs ∧ k < p.length := by
  obtain ⟨k, zs, s, e⟩ := h
  obtain ⟨vs, s2, _⟩ := s.agree (wid_bel p) ag hw (by omega)
  exact ⟨k, vs, s2, e⟩
/-- cleaned before -/
theorem pl_run (h : Ret p n x y) (hw : wid p ≤ 20) (l : us.length = 20) (e0 : reg us 0 = x) : ∃ vs, St (cln (wid p) ++ p) (wid p - 1 + n) 0 us (partL p) vs ∧ reg vs 0 = y ∧ vs.length = 20 ∧ ∀ j, wid p ≤ j → reg vs j = reg us j := by
  obtain ⟨zs, s, lz, rz⟩ := cln_run (wid p) us (by omega)
  obtain ⟨vs, s2, e2, l2, o2⟩ := pc_run h hw (by omega) (cln_ag e0 rz)
  refine ⟨vs, s.seq s2, e2, l2, fun j hj => ?_⟩
  rw [o2 j hj, rz j, if_neg (by omega)]
theorem pl_out (h : Out p n x) (hw : wid p ≤ 20) (l : us.length = 20) (e0 : reg us 0 = x) : ∃ k vs, St (cln (wid p) ++ p) (wid p - 1 + n) 0 us k vs ∧ k < partL p := by
  obtain ⟨zs, s, lz, rz⟩ := cln_run (wid p) us (by omega)
  obtain ⟨k, vs, s2, e2⟩ := pc_out h hw (by omega) (cln_ag e0 rz)
  exact ⟨_, vs, s.seq s2, by unfold partL; omega⟩
end
theorem reg_mv {us : List Tr} {a b : Nat} (j : Nat) (l : us.length = 20) (ha : a < 20) : reg (stepRs (.move a b) us) j = if a = j then reg us b else reg us j := reg_set_all _ _ (by show a < us.length; omega)
theorem reg_st {us : List Tr} {a : Nat} {t : Tr} (j : Nat) (l : us.length = 20) (ha : a < 20) : reg (stepRs (.set a t) us) j = if a = j then t else reg us j := reg_set_all _ _ (by show a < us.length; omega)
theorem ag_mv {x : Tr} {w v : Nat} (h : v ≤ w) (hw : w < 20) : Ag v (rs0 x) (stepRs (.move w 0) (rs0 x)) := fun i hi => by
  rw [reg_mv i (rs0_len x) hw, if_neg (by omega)]
/-! ### both -/
section
variable {w n m : Nat} {c p q : List Ins} {x y z : Tr}
theorem both_is : bothP w p q = .move w 0 :: (p ++ (.move (w + 1) 0 :: .move 0 w :: ((cln (wid q) ++ q) ++ [.cons 0 (w + 1) 0]))) := by simp [bothP]
theorem both_ret (hw : w ≤ 16) (wp : wid p ≤ w) (wq : wid q ≤ w) (hp : Ret p n x y) (hq : Ret q m x z) (hs : (Tr.node y z).sg.length ≤ 200000) : Ret (bothP w p q) (n + m + 4 + (wid q - 1)) x (.node y z) := by
  rw [both_is]
  have l0 := rs0_len x
  have h1 : reg (stepRs (.move w 0) (rs0 x)) w = x := by rw [reg_mv w l0 (by omega), if_pos rfl]; rfl
  have l1 : (stepRs (.move w 0) (rs0 x)).length = 20 := by rw [stepRs_len, l0]
  obtain ⟨v1, s1, e1, l2, o1⟩ := pc_run hp (by omega) l1 (ag_mv wp (by omega))
  have e2 : reg (stepRs (.move (w + 1) 0) v1) (w + 1) = y := by rw [reg_mv _ l2 (by omega), if_pos rfl, e1]
  have e3 : reg (stepRs (.move (w + 1) 0) v1) w = x := by rw [reg_mv _ l2 (by omega), if_neg (by omega), o1 w wp, h1]
  have l3 : (stepRs (.move (w + 1) 0) v1).length = 20 := by rw [stepRs_len, l2]
  generalize hv2 : stepRs (.move (w + 1) 0) v1 = v2 at e2 e3 l3
  have e4 : reg (stepRs (.move 0 w) v2) 0 = x := by rw [reg_mv _ l3 (by omega), if_pos rfl, e3]
  have e5 : reg (stepRs (.move 0 w) v2) (w + 1) = y := by rw [reg_mv _ l3 (by omega), if_neg (by omega), e2]
  have l4 : (stepRs (.move 0 w) v2).length = 20 := by rw [stepRs_len, l3]
  generalize hv3 : stepRs (.move 0 w) v2 = v3 at e4 e5 l4
  obtain ⟨v4, s4, e6, l5, o4⟩ := pl_run hq (by omega) l4 e4
  have e7 : reg v4 (w + 1) = y := by rw [o4 _ (by omega), e5]
  have s5 : St [.cons 0 (w + 1) 0] 1 0 v4 1 (stepRs (.cons 0 (w + 1) 0) v4) := .one rfl (by
    show decide (200000 < (Tr.node (reg v4 (w + 1)) (reg v4 0)).sg.length) = false
    rw [e7, e6]
    exact decide_eq_false (by omega))
  have s6 := s4.app (by unfold partL; rw [List.length_append]) s5
  subst hv3
  have s7 := St.cons1 (i := .move 0 w) rfl rfl s6
  subst hv2
  have s8 := St.cons1 (i := .move (w + 1) 0) rfl rfl s7
  have s9 := s1.seq s8
  have s10 := St.cons1 (i := .move w 0) (rs := rs0 x) rfl rfl s9
  refine ⟨_, s10.cast (by omega) ?_, ?_⟩
  · simp only [List.length_cons, List.length_append, List.length_nil, partL]
    omega
  · show reg (v4.set 0 (.node (reg v4 (w + 1)) (reg v4 0))) 0 = _
    rw [reg_set _ (by omega), e7, e6]
theorem both_out1 (hw : w ≤ 16) (wp : wid p ≤ w) (hp : Out p n x) : Out (bothP w p q) (n + 1) x := by
  rw [both_is]
  have l0 := rs0_len x
  have l1 : (stepRs (.move w 0) (rs0 x)).length = 20 := by rw [stepRs_len, l0]
  obtain ⟨k, v1, s1, e1⟩ := pc_out hp (by omega) l1 (ag_mv wp (by omega))
  refine ⟨_, _, St.cons1 (i := .move w 0) (rs := rs0 x) rfl rfl (s1.inA (B := _)), ?_⟩
  simp only [List.length_cons, List.length_append]
  omega
theorem both_out2 (hw : w ≤ 16) (wp : wid p ≤ w) (wq : wid q ≤ w) (hp : Ret p n x y) (hq : Out q m x) : Out (bothP w p q) (n + m + 3 + (wid q - 1)) x := by
  rw [both_is]
  have l0 := rs0_len x
  have h1 : reg (stepRs (.move w 0) (rs0 x)) w = x := by rw [reg_mv w l0 (by omega), if_pos rfl]; rfl
  have l1 : (stepRs (.move w 0) (rs0 x)).length = 20 := by rw [stepRs_len, l0]
  obtain ⟨v1, s1, e1, l2, o1⟩ := pc_run hp (by omega) l1 (ag_mv wp (by omega))
  have e3 : reg (stepRs (.move (w + 1) 0) v1) w = x := by rw [reg_mv _ l2 (by omega), if_neg (by omega), o1 w wp, h1]
  have l3 : (stepRs (.move (w + 1) 0) v1).length = 20 := by rw [stepRs_len, l2]
  generalize hv2 : stepRs (.move (w + 1) 0) v1 = v2 at e3 l3
  have e4 : reg (stepRs (.move 0 w) v2) 0 = x := by rw [reg_mv _ l3 (by omega), if_pos rfl, e3]
  have l4 : (stepRs (.move 0 w) v2).length = 20 := by rw [stepRs_len, l3]
  generalize hv3 : stepRs (.move 0 w) v2 = v3 at e4 l4
  obtain ⟨k, v4, s4, hk⟩ := pl_out hq (by omega) l4 e4
  have s6 := s4.inA (B := [.cons 0 (w + 1) 0])
  subst hv3
  have s7 := St.cons1 (i := .move 0 w) rfl rfl s6
  subst hv2
  have s8 := St.cons1 (i := .move (w + 1) 0) rfl rfl s7
  have s9 := s1.seq s8
  have s10 := St.cons1 (i := .move w 0) (rs := rs0 x) rfl rfl s9
  refine ⟨_, _, s10.cast (by omega) rfl, ?_⟩
  unfold partL at hk
  simp only [List.length_cons, List.length_append, List.length_nil]
  omega
end
/-! ### choice -/
section
variable {w n m : Nat} {c p q : List Ins} {t x y z : Tr}
theorem choice_t : choiceP w c p q = .move w 0 :: (c ++ (.jump 0 ((partL q : Nat) + 4) :: ((.move 0 w :: ((cln (wid q) ++ q) ++ [.set w p100, .jump w ((partL p : Nat) + 2)])) ++ (.move 0 w :: (cln (wid p) ++ p))))) := by simp [choiceP]
theorem choice_s : choiceP w c p q = .move w 0 :: (c ++ ([.jump 0 ((partL q : Nat) + 4)] ++ (.move 0 w :: ((cln (wid q) ++ q) ++ (.set w p100 :: (.jump w ((partL p : Nat) + 2) :: ((.move 0 w :: (cln (wid p) ++ p)) ++ []))))))) := by simp [choiceP]
theorem choice_o : choiceP w c p q = .move w 0 :: (c ++ (.jump 0 ((partL q : Nat) + 4) :: .move 0 w :: (cln (wid q) ++ (q ++ (.set w p100 :: .jump w ((partL p : Nat) + 2) :: .move 0 w :: (cln (wid p) ++ p)))))) := rfl
theorem choice_m : ((.move 0 w :: ((cln (wid q) ++ q) ++ [.set w p100, .jump w ((partL p : Nat) + 2)])) : List Ins).length = partL q + 3 := by
  simp only [List.length_cons, List.length_append, List.length_nil, partL]
theorem choice_n : ((.move 0 w :: (cln (wid p) ++ p)) : List Ins).length = partL p + 1 := by
  simp only [List.length_cons, List.length_append, partL]
theorem choice_out (hw : w ≤ 16) (wc : wid c ≤ w) (hc : Out c n x) : Out (choiceP w c p q) (n + 1) x := by
  rw [choice_o]
  have l0 := rs0_len x
  have l1 : (stepRs (.move w 0) (rs0 x)).length = 20 := by rw [stepRs_len, l0]
  obtain ⟨k, v1, s1, e1⟩ := pc_out hc (by omega) l1 (ag_mv wc (by omega))
  refine ⟨_, _, St.cons1 (i := .move w 0) (rs := rs0 x) rfl rfl (s1.inA (B := _)), ?_⟩
  simp only [List.length_cons, List.length_append, List.length_nil]
  omega
theorem choice_rt (hw : w ≤ 16) (wc : wid c ≤ w) (wp : wid p ≤ w) (hc : Ret c n x t) (ht : t ≠ .leaf) (hp : Ret p m x y) : Ret (choiceP w c p q) (3 + n + (wid p - 1) + m) x y := by
  rw [choice_t]
  have l0 := rs0_len x
  have h1 : reg (stepRs (.move w 0) (rs0 x)) w = x := by rw [reg_mv w l0 (by omega), if_pos rfl]; rfl
  have l1 : (stepRs (.move w 0) (rs0 x)).length = 20 := by rw [stepRs_len, l0]
  obtain ⟨v1, s1, e1, l2, o1⟩ := pc_run hc (by omega) l1 (ag_mv wc (by omega))
  have e3 : reg v1 w = x := by rw [o1 w wc, h1]
  have e4 : reg (stepRs (.move 0 w) v1) 0 = x := by rw [reg_mv _ l2 (by omega), if_pos rfl, e3]
  have l4 : (stepRs (.move 0 w) v1).length = 20 := by rw [stepRs_len, l2]
  generalize hv3 : stepRs (.move 0 w) v1 = v3 at e4 l4
  obtain ⟨v4, s4, e6, l5, o4⟩ := pl_run hp (by omega) l4 e4
  subst hv3
  have s7 := St.cons1 (i := .move 0 w) rfl rfl s4
  have s8 := St.over (d := (partL q : Nat) + 4) (M := .move 0 w :: ((cln (wid q) ++ q) ++ [.set w p100, .jump w ((partL p : Nat) + 2)])) (r := 0) (by rw [e1]; exact ht) (by rw [choice_m]; omega) s7
  have s10 := St.cons1 (i := .move w 0) (rs := rs0 x) rfl rfl (s1.seq s8)
  refine ⟨_, s10.cast (by omega) ?_, e6⟩
  simp only [List.length_cons, List.length_append, List.length_nil, partL]
  omega
theorem choice_rto (hw : w ≤ 16) (wc : wid c ≤ w) (wp : wid p ≤ w) (hc : Ret c n x t) (ht : t ≠ .leaf) (hp : Out p m x) : Out (choiceP w c p q) (3 + n + (wid p - 1) + m) x := by
  rw [choice_t]
  have l0 := rs0_len x
  have h1 : reg (stepRs (.move w 0) (rs0 x)) w = x := by rw [reg_mv w l0 (by omega), if_pos rfl]; rfl
  have l1 : (stepRs (.move w 0) (rs0 x)).length = 20 := by rw [stepRs_len, l0]
  obtain ⟨v1, s1, e1, l2, o1⟩ := pc_run hc (by omega) l1 (ag_mv wc (by omega))
  have e3 : reg v1 w = x := by rw [o1 w wc, h1]
  have e4 : reg (stepRs (.move 0 w) v1) 0 = x := by rw [reg_mv _ l2 (by omega), if_pos rfl, e3]
  have l4 : (stepRs (.move 0 w) v1).length = 20 := by rw [stepRs_len, l2]
  generalize hv3 : stepRs (.move 0 w) v1 = v3 at e4 l4
  obtain ⟨k, v4, s4, hk⟩ := pl_out hp (by omega) l4 e4
  subst hv3
  have s7 := St.cons1 (i := .move 0 w) rfl rfl s4
  have s8 := St.over (d := (partL q : Nat) + 4) (M := .move 0 w :: ((cln (wid q) ++ q) ++ [.set w p100, .jump w ((partL p : Nat) + 2)])) (r := 0) (by rw [e1]; exact ht) (by rw [choice_m]; omega) s7
  have s10 := St.cons1 (i := .move w 0) (rs := rs0 x) rfl rfl (s1.seq s8)
  refine ⟨_, _, s10.cast (by omega) rfl, ?_⟩
  unfold partL at hk
  simp only [List.length_cons, List.length_append, List.length_nil]
  omega
theorem choice_rf (hw : w ≤ 16) (wc : wid c ≤ w) (wq : wid q ≤ w) (hc : Ret c n x .leaf) (hq : Ret q m x y) : Ret (choiceP w c p q) (3 + n + (wid q - 1) + m + 2) x y := by
  rw [choice_s]
  have l0 := rs0_len x
  have h1 : reg (stepRs (.move w 0) (rs0 x)) w = x := by rw [reg_mv w l0 (by omega), if_pos rfl]; rfl
  have l1 : (stepRs (.move w 0) (rs0 x)).length = 20 := by rw [stepRs_len, l0]
  obtain ⟨v1, s1, e1, l2, o1⟩ := pc_run hc (by omega) l1 (ag_mv wc (by omega))
  have e3 : reg v1 w = x := by rw [o1 w wc, h1]
  have e4 : reg (stepRs (.move 0 w) v1) 0 = x := by rw [reg_mv _ l2 (by omega), if_pos rfl, e3]
  have l4 : (stepRs (.move 0 w) v1).length = 20 := by rw [stepRs_len, l2]
  generalize hv3 : stepRs (.move 0 w) v1 = v3 at e4 l4
  obtain ⟨v4, s4, e6, l5, o4⟩ := pl_run hq (by omega) l4 e4
  have e7 : reg (stepRs (.set w p100) v4) w = p100 := by rw [reg_st _ l5 (by omega), if_pos rfl]
  have e8 : reg (stepRs (.set w p100) v4) 0 = y := by rw [reg_st _ l5 (by omega), if_neg (by have := wid_pos q; omega), e6]
  have s5 := St.over (d := (partL p : Nat) + 2) (M := .move 0 w :: (cln (wid p) ++ p)) (N := []) (r := w) (by rw [e7]; exact fun z => by cases z) (by rw [choice_n]; omega) (.refl 0 (stepRs (.set w p100) v4))
  have s6 := s4.app (by unfold partL; rw [List.length_append]) (St.cons1 (i := .set w p100) rfl rfl s5)
  subst hv3
  have s7 := (St.stay (d := (partL q : Nat) + 4) (r := 0) e1).app rfl (St.cons1 (i := .move 0 w) rfl rfl s6)
  have s10 := St.cons1 (i := .move w 0) (rs := rs0 x) rfl rfl (s1.seq s7)
  refine ⟨_, s10.cast (by omega) ?_, e8⟩
  simp only [List.length_cons, List.length_append, List.length_nil, partL]
  omega
theorem choice_rfo (hw : w ≤ 16) (wc : wid c ≤ w) (wq : wid q ≤ w) (hc : Ret c n x .leaf) (hq : Out q m x) : Out (choiceP w c p q) (3 + n + (wid q - 1) + m) x := by
  rw [choice_s]
  have l0 := rs0_len x
  have h1 : reg (stepRs (.move w 0) (rs0 x)) w = x := by rw [reg_mv w l0 (by omega), if_pos rfl]; rfl
  have l1 : (stepRs (.move w 0) (rs0 x)).length = 20 := by rw [stepRs_len, l0]
  obtain ⟨v1, s1, e1, l2, o1⟩ := pc_run hc (by omega) l1 (ag_mv wc (by omega))
  have e3 : reg v1 w = x := by rw [o1 w wc, h1]
  have e4 : reg (stepRs (.move 0 w) v1) 0 = x := by rw [reg_mv _ l2 (by omega), if_pos rfl, e3]
  have l4 : (stepRs (.move 0 w) v1).length = 20 := by rw [stepRs_len, l2]
  generalize hv3 : stepRs (.move 0 w) v1 = v3 at e4 l4
  obtain ⟨k, v4, s4, hk⟩ := pl_out hq (by omega) l4 e4
  have s6 := s4.inA (B := .set w p100 :: (.jump w ((partL p : Nat) + 2) :: ((.move 0 w :: (cln (wid p) ++ p)) ++ [])))
  subst hv3
  have s7 := (St.stay (d := (partL q : Nat) + 4) (r := 0) e1).app rfl (St.cons1 (i := .move 0 w) rfl rfl s6)
  have s10 := St.cons1 (i := .move w 0) (rs := rs0 x) rfl rfl (s1.seq s7)
  refine ⟨_, _, s10.cast (by omega) rfl, ?_⟩
  unfold partL at hk
  simp only [List.length_cons, List.length_append, List.length_nil]
  omega
end
/-! ### loop: from a state with x in register 0 -/
section
variable {w n m : Nat} {c p : List Ins} {t x y z : Tr} {us : List Tr}
def Lup (is : List Ins) (n : Nat) (us vs : List Tr) (k : Nat) : Prop := St is n 0 us k vs
theorem loop_t : loopP w c p = (.move w 0 :: ((cln (wid c) ++ c) ++ (.jump 0 4 :: ([.move 0 w, .set w p100, .jump w ((partL p : Nat) + 4)] ++ (.move 0 w :: ((cln (wid p) ++ p) ++ [.set w p100])))))) ++ [.jump w (-((partL c : Nat) + (partL p : Nat) + 7))] := by simp [loopP]
theorem loop_s : loopP w c p = .move w 0 :: ((cln (wid c) ++ c) ++ ([.jump 0 4] ++ (.move 0 w :: .set w p100 :: (.jump w ((partL p : Nat) + 4) :: ((.move 0 w :: ((cln (wid p) ++ p) ++ [.set w p100, .jump w (-((partL c : Nat) + (partL p : Nat) + 7))])) ++ []))))) := by simp [loopP]
theorem loop_o : loopP w c p = .move w 0 :: ((cln (wid c) ++ c) ++ (.jump 0 4 :: .move 0 w :: .set w p100 :: .jump w ((partL p : Nat) + 4) :: .move 0 w :: (cln (wid p) ++ (p ++ [.set w p100, .jump w (-((partL c : Nat) + (partL p : Nat) + 7))])))) := by simp [loopP]
theorem loop_po : loopP w c p = .move w 0 :: ((cln (wid c) ++ c) ++ (.jump 0 4 :: ([.move 0 w, .set w p100, .jump w ((partL p : Nat) + 4)] ++ (.move 0 w :: ((cln (wid p) ++ p) ++ [.set w p100, .jump w (-((partL c : Nat) + (partL p : Nat) + 7))]))))) := by simp [loopP]
theorem loop_out (hw : w ≤ 16) (wc : wid c ≤ w) (l0 : us.length = 20) (e0 : reg us 0 = x) (hc : Out c n x) : ∃ k vs, St (loopP w c p) (1 + (wid c - 1) + n) 0 us k vs ∧ k < (loopP w c p).length := by
  rw [loop_o]
  have h1 : reg (stepRs (.move w 0) us) w = x := by rw [reg_mv w l0 (by omega), if_pos rfl, e0]
  have h0 : reg (stepRs (.move w 0) us) 0 = x := by rw [reg_mv 0 l0 (by omega), e0]; split <;> rfl
  have l1 : (stepRs (.move w 0) us).length = 20 := by rw [stepRs_len, l0]
  obtain ⟨k, v1, s1, hk⟩ := pl_out hc (by omega) l1 h0
  refine ⟨_, _, (St.cons1 (i := .move w 0) (rs := us) rfl rfl (s1.inA (B := _))).cast (by omega) rfl, ?_⟩
  unfold partL at hk
  simp only [List.length_cons, List.length_append]
  omega
theorem loop_end' (hw : w ≤ 16) (wc : wid c ≤ w) (w0 : 0 < w) (l0 : us.length = 20) (e0 : reg us 0 = x) (hc : Ret c n x .leaf) : ∃ vs, St (loopP w c p) (2 + (wid c - 1) + n + 3) 0 us (loopP w c p).length vs ∧ reg vs 0 = x := by
  rw [loop_s]
  have h1 : reg (stepRs (.move w 0) us) w = x := by rw [reg_mv w l0 (by omega), if_pos rfl, e0]
  have h0 : reg (stepRs (.move w 0) us) 0 = x := by rw [reg_mv 0 l0 (by omega), e0]; split <;> rfl
  have l1 : (stepRs (.move w 0) us).length = 20 := by rw [stepRs_len, l0]
  obtain ⟨v1, s1, e1, l2, o1⟩ := pl_run hc (by omega) l1 h0
  have e3 : reg v1 w = x := by rw [o1 w wc, h1]
  have e4 : reg (stepRs (.move 0 w) v1) 0 = x := by rw [reg_mv _ l2 (by omega), if_pos rfl, e3]
  have e5 : reg (stepRs (.move 0 w) v1) w = x := by
    rw [reg_mv _ l2 (by omega), e3]
    split <;> rfl
  have l4 : (stepRs (.move 0 w) v1).length = 20 := by rw [stepRs_len, l2]
  have e7 : reg (stepRs (.set w p100) (stepRs (.move 0 w) v1)) w = p100 := by rw [reg_st _ l4 (by omega), if_pos rfl]
  have e8 : reg (stepRs (.set w p100) (stepRs (.move 0 w) v1)) 0 = x := by rw [reg_st _ l4 (by omega), if_neg (by omega), e4]
  have s5 := St.over (d := (partL p : Nat) + 4) (M := .move 0 w :: ((cln (wid p) ++ p) ++ [.set w p100, .jump w (-((partL c : Nat) + (partL p : Nat) + 7))])) (N := []) (r := w) (by rw [e7]; exact fun z => by cases z) (by simp only [List.length_cons, List.length_append, List.length_nil, partL]; omega) (.refl 0 (stepRs (.set w p100) (stepRs (.move 0 w) v1)))
  have s7 := (St.stay (d := 4) (r := 0) e1).app rfl (St.cons1 (i := .move 0 w) rfl rfl (St.cons1 (i := .set w p100) rfl rfl s5))
  have s10 := St.cons1 (i := .move w 0) (rs := us) rfl rfl (s1.app (by unfold partL; rw [List.length_append]) s7)
  refine ⟨_, s10.cast (by omega) ?_, e8⟩
  simp only [List.length_cons, List.length_append, List.length_nil, partL]
  omega
theorem loop_pout (hw : w ≤ 16) (wc : wid c ≤ w) (wp : wid p ≤ w) (l0 : us.length = 20) (e0 : reg us 0 = x) (hc : Ret c n x t) (ht : t ≠ .leaf) (hp : Out p m x) : ∃ k vs, St (loopP w c p) (2 + (wid c - 1) + n + 1 + (wid p - 1) + m) 0 us k vs ∧ k < (loopP w c p).length := by
  rw [loop_po]
  have h1 : reg (stepRs (.move w 0) us) w = x := by rw [reg_mv w l0 (by omega), if_pos rfl, e0]
  have h0 : reg (stepRs (.move w 0) us) 0 = x := by rw [reg_mv 0 l0 (by omega), e0]; split <;> rfl
  have l1 : (stepRs (.move w 0) us).length = 20 := by rw [stepRs_len, l0]
  obtain ⟨v1, s1, e1, l2, o1⟩ := pl_run hc (by omega) l1 h0
  have e3 : reg v1 w = x := by rw [o1 w wc, h1]
  have e4 : reg (stepRs (.move 0 w) v1) 0 = x := by rw [reg_mv _ l2 (by omega), if_pos rfl, e3]
  have e5 : reg (stepRs (.move 0 w) v1) w = x := by
    rw [reg_mv _ l2 (by omega), e3]
    split <;> rfl
  have l4 : (stepRs (.move 0 w) v1).length = 20 := by rw [stepRs_len, l2]
  obtain ⟨k, v4, s4, hk⟩ := pl_out hp (by omega) l4 e4
  have s5 := St.cons1 (i := .move 0 w) rfl rfl (s4.inA (B := [.set w p100, .jump w (-((partL c : Nat) + (partL p : Nat) + 7))]))
  have s8 := St.over (d := 4) (M := [.move 0 w, .set w p100, .jump w ((partL p : Nat) + 4)]) (r := 0) (by rw [e1]; exact ht) rfl s5
  have s10 := St.cons1 (i := .move w 0) (rs := us) rfl rfl (s1.app (by unfold partL; rw [List.length_append]) s8)
  refine ⟨_, _, s10.cast (by omega) rfl, ?_⟩
  unfold partL at hk ⊢
  simp only [List.length_cons, List.length_append, List.length_nil]
  omega
theorem loop_round (hw : w ≤ 16) (wc : wid c ≤ w) (wp : wid p ≤ w) (w0 : 0 < w) (l0 : us.length = 20) (e0 : reg us 0 = x) (hc : Ret c n x t) (ht : t ≠ .leaf) (hp : Ret p m x y) : ∃ vs, St (loopP w c p) (2 + (wid c - 1) + n + (3 + (wid p - 1) + m)) 0 us 0 vs ∧ reg vs 0 = y ∧ vs.length = 20 := by
  rw [loop_t]
  have h1 : reg (stepRs (.move w 0) us) w = x := by rw [reg_mv w l0 (by omega), if_pos rfl, e0]
  have h0 : reg (stepRs (.move w 0) us) 0 = x := by rw [reg_mv 0 l0 (by omega), e0]; split <;> rfl
  have l1 : (stepRs (.move w 0) us).length = 20 := by rw [stepRs_len, l0]
  obtain ⟨v1, s1, e1, l2, o1⟩ := pl_run hc (by omega) l1 h0
  have e3 : reg v1 w = x := by rw [o1 w wc, h1]
  have e4 : reg (stepRs (.move 0 w) v1) 0 = x := by rw [reg_mv _ l2 (by omega), if_pos rfl, e3]
  have e5 : reg (stepRs (.move 0 w) v1) w = x := by
    rw [reg_mv _ l2 (by omega), e3]
    split <;> rfl
  have l4 : (stepRs (.move 0 w) v1).length = 20 := by rw [stepRs_len, l2]
  obtain ⟨v4, s4, e6, l5, o4⟩ := pl_run hp (by omega) l4 e4
  have e7 : reg (stepRs (.set w p100) v4) w = p100 := by rw [reg_st _ l5 (by omega), if_pos rfl]
  have e8 : reg (stepRs (.set w p100) v4) 0 = y := by rw [reg_st _ l5 (by omega), if_neg (by omega), e6]
  have l6 : (stepRs (.set w p100) v4).length = 20 := by rw [stepRs_len, l5]
  have s5 := St.cons1 (i := .move 0 w) rfl rfl (s4.app (by unfold partL; rw [List.length_append]) (St.one (i := .set w p100) rfl rfl))
  have s8 := St.over (d := 4) (M := [.move 0 w, .set w p100, .jump w ((partL p : Nat) + 4)]) (r := 0) (by rw [e1]; exact ht) rfl s5
  have s10 := St.cons1 (i := .move w 0) (rs := us) rfl rfl (s1.app (by unfold partL; rw [List.length_append]) s8)
  generalize hA : (Ins.move w 0 :: ((cln (wid c) ++ c) ++ (.jump 0 4 :: ([.move 0 w, .set w p100, .jump w ((partL p : Nat) + 4)] ++ (.move 0 w :: ((cln (wid p) ++ p) ++ [.set w p100])))))) = A at s10 ⊢
  have lA : A.length = partL c + partL p + 7 := by
    rw [← hA]
    simp only [List.length_cons, List.length_append, List.length_nil, partL]
    omega
  have s11 : St [Ins.jump w (-((partL c : Nat) + (partL p : Nat) + 7))] 0 0 (stepRs (.set w p100) v4) 0 (stepRs (.set w p100) v4) := .refl _ _
  have s12 := s10.inA (B := [Ins.jump w (-((partL c : Nat) + (partL p : Nat) + 7))])
  have s13 : St (A ++ [Ins.jump w (-((partL c : Nat) + (partL p : Nat) + 7))]) 1 A.length (stepRs (.set w p100) v4) 0 (stepRs (.set w p100) v4) := by
    refine .step (k1 := 0) List.getElem?_concat_length rfl ?_ (.refl _ _)
    show (if reg (stepRs (.set w p100) v4) w = .leaf then _ else _) = _
    rw [if_neg (by rw [e7]; exact fun z => by cases z), lA]
    omega
  refine ⟨_, ((s12.cast rfl ?_).trans s13).cast (by omega) rfl, e8, l6⟩
  rw [lA]
  simp only [List.length_cons, List.length_nil]
  omega
end
/-! ### what is told of a run: the result and the number of steps -/
inductive Res (is : List Ins) (x : Tr) : V → Nat → Prop where
  | large : Res is x (.str "large") 0
  | out {n : Nat} (hn : 200 ≤ n) (h : Out is n x) : Res is x .non 0
  | ret {d : Nat} {y : Tr} (h : Ret is d x y) (hd : d ≤ 200) (hy : y.sg.length ≤ 3000) : Res is x (.str y.str) d
/-- what a program that was put together is said to do -/
inductive Fin (is : List Ins) (x : Tr) : V → Nat → Prop where
  | out {n d : Nat} (hn : 200 ≤ n) (h : Out is n x) : Fin is x .non d
  | ret {d : Nat} {y : Tr} (h : Ret is d x y) : Fin is x (.str y.str) d
theorem not_large (t : Tr) : ¬ V.str "large" = V.str t.str := fun z => by
  have h1 := (notTold_tree t).2.2.1
  rw [← V.str.inj z] at h1
  revert h1
  decide +kernel
theorem trV_0 {rs : List Tr} (h : 0 < rs.length) : (trV rs)[0]? = some (.str (reg rs 0).str) := by
  cases rs with
  | nil => cases h
  | cons t r => rfl
theorem eqv_large (t : Tr) : PyData.eqv (.str t.str) (.str "large") = false := by
  cases e : PyData.eqv (.str t.str) (.str "large") with
  | false => rfl
  | true =>
    have e : (t.str == Str.ofString "large") = true := e
    exact absurd (congrArg V.str (eq_of_beq e).symm) (not_large t)
theorem leaf_str : Tr.leaf.str = Str.ofString "0" := by decide +kernel
theorem eqv_zero {t : Tr} (h : t ≠ .leaf) : PyData.eqv (.str t.str) (.str "0") = false := by
  cases e : PyData.eqv (.str t.str) (.str "0") with
  | false => rfl
  | true =>
    have e : (t.str == Str.ofString "0") = true := e
    exact absurd (Tr.str_inj ((eq_of_beq e).trans leaf_str.symm)) h
inductive LRes (is : List Ins) (x : Tr) : V → Nat → Prop where
  | large : LRes is x (.str "large") 0
  | fin {v : V} {d : Nat} (h : Fin is x v d) (hd : d ≤ 30000) : LRes is x v d
/-! ### a list of programs with what they are said to do -/
def FinAt (R : Addr) (H : Hp) (x : Tr) (v : V) : Prop := ∃ (t pr : Addr) (is : List Ins) (val : V) (d : Nat), v = .ref t ∧ H t = some (.tup [.ref pr, val, .int d]) ∧ pr ≠ R ∧ PgAt H pr is ∧ Fin is x val d ∧ d ≤ 30000 ∧ is.length ≤ 100 ∧ PgOk 20 1500 is
structure RowsAt (H0 : Hp) (R : Addr) (x : Tr) (n : Nat) (H : Hp) : Prop where
  new : H0 R = none
  sm : Same H0 H
  rows : ∃ vs, H R = some (.lst vs) ∧ vs.length ≤ n ∧ ∀ v ∈ vs, FinAt R H x v
theorem FinAt.same {R : Addr} {H H' : Hp} {x : Tr} {v : V} (h : FinAt R H x v) (e : Same H H') : FinAt R H' x v := by
  obtain ⟨t, pr, is, val, d, h1, h2, h3, h4, h5⟩ := h
  exact ⟨t, pr, is, val, d, h1, e _ _ h2, h3, h4.same e, h5⟩
theorem FinAt.put {R : Addr} {H : Hp} {x : Tr} {v : V} {vs ws : List V} (h : FinAt R H x v) (hR : H R = some (.lst vs)) : FinAt R (upd H R (.lst ws)) x v := by
  obtain ⟨t, pr, is, val, d, h1, h2, h3, h4, h5⟩ := h
  have nt : t ≠ R := fun z => by
    rw [z, hR] at h2
    cases h2
  exact ⟨t, pr, is, val, d, h1, by rw [upd_ne nt]; exact h2, h3, h4.but h3 .upd hR, h5⟩
theorem RowsAt.same {H0 H H' : Hp} {R : Addr} {x : Tr} {n : Nat} (h : RowsAt H0 R x n H) (e : Same H H') : RowsAt H0 R x n H' := by
  obtain ⟨vs, h1, h2, h3⟩ := h.rows
  exact ⟨h.new, h.sm.trans e, vs, e _ _ h1, h2, fun v hv => (h3 v hv).same e⟩
theorem RowsAt.up {H0 H : Hp} {R : Addr} {x : Tr} {n m : Nat} (h : RowsAt H0 R x n H) (e : n ≤ m) : RowsAt H0 R x m H := by
  obtain ⟨vs, h1, h2, h3⟩ := h.rows
  exact ⟨h.new, h.sm, vs, h1, Nat.le_trans h2 e, h3⟩
/-- one more -/
theorem RowsAt.push {H0 H : Hp} {R t pr : Addr} {x : Tr} {n d : Nat} {vs : List V} {val : V} {is : List Ins} (h : RowsAt H0 R x n H) (hR : H R = some (.lst vs)) (nt : H t = none) (npr : pr ≠ R) (hp : PgAt H pr is) (hf : Fin is x val d) (hd : d ≤ 30000) (hl : is.length ≤ 100) (ho : PgOk 20 1500 is) :
    RowsAt H0 R x (n + 1) (upd (upd H t (.tup [.ref pr, val, .int d])) R (.lst (vs ++ [.ref t]))) := by
  obtain ⟨vs2, h1, h2, h3⟩ := h.rows
  rw [hR] at h1
  cases h1
  have s1 := Same.upd (o := .tup [.ref pr, val, .int d]) nt
  have hR1 := s1 _ _ hR
  refine ⟨h.new, (h.sm.trans s1).but_new h.new .upd, _, upd_same, by rw [List.length_append]; show vs.length + 1 ≤ n + 1; omega, fun v hv => ?_⟩
  rcases List.mem_append.mp hv with hv | hv
  · exact ((h3 v hv).same s1).put hR1
  · cases List.mem_singleton.mp hv
    have : FinAt R (upd H t (.tup [.ref pr, val, .int d])) x (.ref t) := ⟨t, pr, is, val, d, rfl, upd_same, npr, hp.same s1, hf, hd, hl, ho⟩
    exact this.put hR1
theorem const_ret (x : Tr) : Ret [.set 0 x] 1 x x := ⟨_, St.one rfl rfl, by
  show reg ((rs0 x).set 0 x) 0 = x
  rw [reg_set _ (by rw [rs0_len]; decide)]⟩
theorem chain_fin {p q : List Ins} {x y : Tr} {d m : Nat} {v : V} (wq : wid q ≤ 20) (hp : Ret p d x y) (hq : Res q y v m) (hv : v ≠ .str "large") : Fin (chainP [p, q]) x v (d + (wid q - 1 + m)) := by
  cases hq with
  | large => exact absurd rfl hv
  | @out n hn ho =>
    refine .out (n := d + (wid q - 1 + n)) (by omega) ?_
    obtain ⟨k, us, s, hk⟩ := ho
    obtain ⟨vs, sp, e⟩ := hp
    rw [chain2_is]
    obtain ⟨k2, zs, s2, hk2⟩ := pl_out (p := q) (us := vs) ⟨k, us, s, hk⟩ wq sp.l20 e
    refine ⟨_, zs, sp.seq s2, ?_⟩
    unfold partL at hk2
    rw [List.length_append, List.length_append]
    omega
  | ret h hd hy =>
    exact .ret (chain2_to wq hp h)
theorem chain_fout {p q : List Ins} {x : Tr} {n d : Nat} (hn : 200 ≤ n) (hp : Out p n x) : Fin (chainP [p, q]) x .non d := by
  obtain ⟨k, us, s, hk⟩ := hp
  rw [chain2_is]
  exact .out hn ⟨k, us, s.inA, by rw [List.length_append]; omega⟩
theorem inV3 {a v1 v2 v3 : V} (h : ¬ inV a [v1, v2, v3] = true) (ha : eqV a a = true) : v1 ≠ a ∧ v2 ≠ a ∧ v3 ≠ a := by
  refine ⟨fun z => h ?_, fun z => h ?_, fun z => h ?_⟩
  · subst z
    show (eqV v1 v1 || (eqV v2 v1 || (eqV v3 v1 || false))) = true
    rw [ha]
    rfl
  · subst z
    show (eqV v1 v2 || (eqV v2 v2 || (eqV v3 v2 || false))) = true
    rw [ha]
    simp
  · subst z
    show (eqV v1 v3 || (eqV v2 v3 || (eqV v3 v3 || false))) = true
    rw [ha]
    simp
theorem Res.flat {is : List Ins} {x : Tr} {v : V} {d : Nat} (h : Res is x v d) : flatV v = true ∧ d ≤ 200 := by
  cases h with
  | large => exact ⟨rfl, Nat.zero_le _⟩
  | out => exact ⟨rfl, Nat.zero_le _⟩
  | ret h hd hy => exact ⟨rfl, hd⟩
def VF (v : V) : Prop := v = .str "large" ∨ v = .non ∨ ∃ t : Tr, v = .str t.str
theorem Res.vf {is : List Ins} {x : Tr} {v : V} {d : Nat} (h : Res is x v d) : VF v := by
  cases h with
  | large => exact .inl rfl
  | out => exact .inr (.inl rfl)
  | ret h hd hy => exact .inr (.inr ⟨_, rfl⟩)
theorem VF.dp {K : PySem.W.Frag} {H : Hp} {v : V} (h : VF v) (n : v ≠ .str "large") : ∃ d, Dp K H v d ∧ SeqAt.shaped d = true ∧ PyData.eqv d (.str "large") = false := by
  rcases h with h | h | ⟨t, h⟩
  · exact absurd h n
  · subst h
    exact ⟨.none, .non, by decide +kernel, by decide +kernel⟩
  · subst h
    exact ⟨.str t.str, .str _, shaped_01 t.sg_01, eqv_large t⟩
theorem PgOk.more {w k l : Nat} {is : List Ins} (h : PgOk w k is) (hk : k ≤ l) : PgOk w l is := fun j x hx => by
  have h2 := h j x hx
  cases x with
  | set a t => exact ⟨h2.1, Nat.le_trans h2.2 hk⟩
  | _ => exact h2
end Nx

/-! The world of the later laws: trees by their numbers, each tree once. -/
namespace Nx
open PySem PySem.Spec PyProof.Rows L2
def wKV (Ah At As Ap : Addr) : List (Key × V) := [(.inr "heads", .ref Ah), (.inr "tails", .ref At), (.inr "sizes", .ref As), (.inr "pairs", .ref Ap)]
theorem wKV_h {Ah At As Ap : Addr} : L2.valV (wKV Ah At As Ap) (.inr "heads") = some (.ref Ah) := valV_pos rfl
theorem wKV_t {Ah At As Ap : Addr} : L2.valV (wKV Ah At As Ap) (.inr "tails") = some (.ref At) :=
  (valV_neg (show ¬ (Sum.inr ("heads" : Str) : Key) = .inr ("tails" : Str) by decide +kernel)).trans (valV_pos rfl)
theorem wKV_s {Ah At As Ap : Addr} : L2.valV (wKV Ah At As Ap) (.inr "sizes") = some (.ref As) :=
  (valV_neg (show ¬ (Sum.inr ("heads" : Str) : Key) = .inr ("sizes" : Str) by decide +kernel)).trans ((valV_neg (show ¬ (Sum.inr ("tails" : Str) : Key) = .inr ("sizes" : Str) by decide +kernel)).trans (valV_pos rfl))
theorem wKV_p {Ah At As Ap : Addr} : L2.valV (wKV Ah At As Ap) (.inr "pairs") = some (.ref Ap) :=
  (valV_neg (show ¬ (Sum.inr ("heads" : Str) : Key) = .inr ("pairs" : Str) by decide +kernel)).trans ((valV_neg (show ¬ (Sum.inr ("tails" : Str) : Key) = .inr ("pairs" : Str) by decide +kernel)).trans ((valV_neg (show ¬ (Sum.inr ("sizes" : Str) : Key) = .inr ("pairs" : Str) by decide +kernel)).trans (valV_pos rfl)))
theorem wk_h {H : Hp} {W Ah At As Ap : Addr} (h : H W = some (.dK (wKV Ah At As Ap))) : DGet H W (.str "heads") (some (.ref Ah)) := by
  have := DGet.k (k := .inr "heads") h
  rwa [wKV_h] at this
theorem wk_t {H : Hp} {W Ah At As Ap : Addr} (h : H W = some (.dK (wKV Ah At As Ap))) : DGet H W (.str "tails") (some (.ref At)) := by
  have := DGet.k (k := .inr "tails") h
  rwa [wKV_t] at this
theorem wk_s {H : Hp} {W Ah At As Ap : Addr} (h : H W = some (.dK (wKV Ah At As Ap))) : DGet H W (.str "sizes") (some (.ref As)) := by
  have := DGet.k (k := .inr "sizes") h
  rwa [wKV_s] at this
theorem wk_p {H : Hp} {W Ah At As Ap : Addr} (h : H W = some (.dK (wKV Ah At As Ap))) : DGet H W (.str "pairs") (some (.ref Ap)) := by
  have := DGet.k (k := .inr "pairs") h
  rwa [wKV_p] at this
theorem wKV_merge {Ah At As Ap : Addr} : mergeK [] (wKV Ah At As Ap) = wKV Ah At As Ap := by
  show putK (putK (putK (putK ([] : List (Key × V)) (Sum.inr ("heads" : Str) : Key) (.ref Ah)) (Sum.inr ("tails" : Str) : Key) (.ref At)) (Sum.inr ("sizes" : Str) : Key) (.ref As)) (Sum.inr ("pairs" : Str) : Key) (.ref Ap) = _
  rw [putK_new (.ref Ah) valV_nil]
  show putK (putK (putK [(.inr "heads", .ref Ah)] (Sum.inr ("tails" : Str) : Key) (.ref At)) (Sum.inr ("sizes" : Str) : Key) (.ref As)) (Sum.inr ("pairs" : Str) : Key) (.ref Ap) = _
  rw [putK_new (.ref At) ((valV_neg (show ¬ (Sum.inr ("heads" : Str) : Key) = .inr ("tails" : Str) by decide +kernel)).trans valV_nil)]
  show putK (putK [(.inr "heads", .ref Ah), (.inr "tails", .ref At)] (Sum.inr ("sizes" : Str) : Key) (.ref As)) (Sum.inr ("pairs" : Str) : Key) (.ref Ap) = _
  rw [putK_new (.ref As) ((valV_neg (show ¬ (Sum.inr ("heads" : Str) : Key) = .inr ("sizes" : Str) by decide +kernel)).trans ((valV_neg (show ¬ (Sum.inr ("tails" : Str) : Key) = .inr ("sizes" : Str) by decide +kernel)).trans valV_nil))]
  show putK [(.inr "heads", .ref Ah), (.inr "tails", .ref At), (.inr "sizes", .ref As)] (Sum.inr ("pairs" : Str) : Key) (.ref Ap) = _
  rw [putK_new (.ref Ap) ((valV_neg (show ¬ (Sum.inr ("heads" : Str) : Key) = .inr ("pairs" : Str) by decide +kernel)).trans ((valV_neg (show ¬ (Sum.inr ("tails" : Str) : Key) = .inr ("pairs" : Str) by decide +kernel)).trans ((valV_neg (show ¬ (Sum.inr ("sizes" : Str) : Key) = .inr ("pairs" : Str) by decide +kernel)).trans valV_nil)))]
  rfl
def pK (a b : Nat) : List Key := [.inl (a : Int), .inl (b : Int)]
theorem pK_inj {a b c d : Nat} (h : pK a b = pK c d) : a = c ∧ b = d := by
  unfold pK at h
  simp only [List.cons.injEq, Sum.inl.injEq, and_true] at h
  exact ⟨by omega, by omega⟩
/-- what the pairs' dict says of the table -/
structure PsOk (kvs : List (List Key × V)) (T : List Tr) : Prop where
  len : kvs.length ≤ T.length
  val : ∀ (a b : Nat) (v : V), L2.valV kvs (pK a b) = some v → ∃ (n : Nat) (s t : Tr), v = .int n ∧ T[a]? = some s ∧ T[b]? = some t ∧ T[n]? = some (.node s t)
  has : ∀ (n : Nat) (s t : Tr), T[n]? = some (.node s t) → ∃ a b : Nat, T[a]? = some s ∧ T[b]? = some t ∧ (L2.valV kvs (pK a b)).isSome = true
structure WAt (H : Hp) (W Ah At As Ap : Addr) (T : List Tr) : Prop where
  ob : H W = some (.dK (wKV Ah At As Ap))
  tb : MacAt H Ah At As T
  nd : ∀ (m n : Nat) (t : Tr), T[m]? = some t → T[n]? = some t → m = n
  ps : ∃ kvs : List (List Key × V), H Ap = some (.dT kvs) ∧ PsOk kvs T
theorem nd_one : ∀ (m n : Nat) (t : Tr), [Tr.leaf][m]? = some t → [Tr.leaf][n]? = some t → m = n := fun m n t h1 h2 => by
  rw [(one_at h1).1, (one_at h2).1]
theorem PsOk.new : PsOk [] [.leaf] := ⟨by decide, fun a b v h => (by cases h), fun n s t h => (by
  have := (one_at h).2
  cases this)⟩
theorem last_at {T : List Tr} {u x : Tr} {n : Nat} (h : (T ++ [u])[n]? = some x) : T[n]? = some x ∨ (n = T.length ∧ x = u) := by
  have hl := (List.getElem?_eq_some_iff.mp h).1
  rw [List.length_append, List.length_singleton] at hl
  by_cases c : n < T.length
  · rw [List.getElem?_append_left c] at h
    exact .inl h
  · have c2 : n = T.length := by omega
    rw [c2, List.getElem?_append_right (Nat.le_refl _), Nat.sub_self] at h
    exact .inr ⟨c2, (Option.some.inj h).symm⟩
theorem at_last (T : List Tr) (u : Tr) : (T ++ [u])[T.length]? = some u := by
  rw [List.getElem?_append_right (Nat.le_refl _), Nat.sub_self]
  rfl
theorem PsOk.no {kvs : List (List Key × V)} {T : List Tr} (p : PsOk kvs T) (nd : ∀ (m n : Nat) (t : Tr), T[m]? = some t → T[n]? = some t → m = n) {a b : Nat} {s t : Tr} (ha : T[a]? = some s) (hb : T[b]? = some t) (h : L2.valV kvs (pK a b) = none) : ∀ n : Nat, T[n]? ≠ some (Tr.node s t) := fun n hn => by
  obtain ⟨c, d, h1, h2, h3⟩ := p.has n s t hn
  rw [nd c a s h1 ha, nd d b t h2 hb, h] at h3
  cases h3
theorem PsOk.put {kvs : List (List Key × V)} {T : List Tr} (p : PsOk kvs T) {a b : Nat} {s t : Tr} (ha : T[a]? = some s) (hb : T[b]? = some t) (h : L2.valV kvs (pK a b) = none) : PsOk (putK kvs (pK a b) (.int T.length)) (T ++ [.node s t]) := by
  have e := Ext.app T [.node s t]
  refine ⟨by rw [putK_new _ h, List.length_append, List.length_append]; exact Nat.add_le_add_right p.len 1, fun c d v hv => ?_, fun n s' t' hn => ?_⟩
  · rw [valV_put] at hv
    by_cases q : pK c d = pK a b
    · rw [if_pos q] at hv
      cases hv
      obtain ⟨rfl, rfl⟩ := pK_inj q
      exact ⟨T.length, s, t, rfl, e _ _ ha, e _ _ hb, at_last _ _⟩
    · rw [if_neg q] at hv
      obtain ⟨n, s', t', h1, h2, h3, h4⟩ := p.val c d v hv
      exact ⟨n, s', t', h1, e _ _ h2, e _ _ h3, e _ _ h4⟩
  · rcases last_at hn with hn | ⟨_, hn⟩
    · obtain ⟨c, d, h1, h2, h3⟩ := p.has n s' t' hn
      refine ⟨c, d, e _ _ h1, e _ _ h2, ?_⟩
      rw [valV_put]
      split
      · rfl
      · exact h3
    · injection hn with h1 h2
      subst h1 h2
      refine ⟨a, b, e _ _ ha, e _ _ hb, ?_⟩
      rw [valV_put, if_pos rfl]
      rfl
theorem nd_put {T : List Tr} {u : Tr} (nd : ∀ (m n : Nat) (t : Tr), T[m]? = some t → T[n]? = some t → m = n) (no : ∀ n : Nat, T[n]? ≠ some u) : ∀ (m n : Nat) (t : Tr), (T ++ [u])[m]? = some t → (T ++ [u])[n]? = some t → m = n := fun m n t h1 h2 => by
  rcases last_at h1 with g1 | ⟨e1, q1⟩
  · rcases last_at h2 with g2 | ⟨e2, q2⟩
    · exact nd m n t g1 g2
    · exact absurd (q2 ▸ g1) (no m)
  · rcases last_at h2 with g2 | ⟨e2, q2⟩
    · exact absurd (q1 ▸ g2) (no n)
    · rw [e1, e2]
section
variable {H H' : Hp} {W Ah At As Ap : Addr} {T T' : List Tr}
theorem WAt.notA (h : WAt H W Ah At As Ap T) : W ∉ [Ah, At, As] := fun z => by
  obtain ⟨hs, ts, h1, h2, h3, g⟩ := h.tb.get
  have ho := h.ob
  simp only [List.mem_cons, List.not_mem_nil, or_false] at z
  rcases z with rfl | rfl | rfl
  · rw [h1] at ho; cases ho
  · rw [h2] at ho; cases ho
  · rw [h3] at ho; cases ho
theorem WAt.pA (h : WAt H W Ah At As Ap T) : Ap ∉ [Ah, At, As] := fun z => by
  obtain ⟨hs, ts, h1, h2, h3, g⟩ := h.tb.get
  obtain ⟨kvs, ho, _⟩ := h.ps
  simp only [List.mem_cons, List.not_mem_nil, or_false] at z
  rcases z with rfl | rfl | rfl
  · rw [h1] at ho; cases ho
  · rw [h2] at ho; cases ho
  · rw [h3] at ho; cases ho
theorem WAt.WP (h : WAt H W Ah At As Ap T) : W ≠ Ap := fun z => by
  obtain ⟨kvs, ho, _⟩ := h.ps
  have h1 := h.ob
  rw [z, ho] at h1
  cases h1
abbrev wL (Ah At As Ap : Addr) : List Addr := [Ah, At, As, Ap]
theorem WAt.W4 (h : WAt H W Ah At As Ap T) : W ∉ wL Ah At As Ap := fun z => by
  have h1 := h.notA
  have h2 := h.WP
  simp only [wL, List.mem_cons, List.not_mem_nil, or_false, not_or] at z h1
  rcases z with z | z | z | z
  · exact h1.1 z
  · exact h1.2.1 z
  · exact h1.2.2 z
  · exact h2 z
/-- changes elsewhere -/
theorem WAt.but {as : List Addr} (h : WAt H W Ah At As Ap T) (e : ButL as H H') (n : ∀ b ∈ W :: wL Ah At As Ap, b ∉ as) : WAt H' W Ah At As Ap T := by
  obtain ⟨kvs, h1, h2⟩ := h.ps
  exact ⟨e _ _ (n W (by simp)) h.ob, h.tb.but e (n _ (by simp)) (n _ (by simp)) (n _ (by simp)), h.nd, kvs, e _ _ (n Ap (by simp)) h1, h2⟩
theorem WAt.same (h : WAt H W Ah At As Ap T) (e : Same H H') : WAt H' W Ah At As Ap T := h.but (as := []) e.butL (fun _ _ z => by cases z)
/-- what is tracked as something else is none of the world's -/
theorem WAt.none (h : WAt H W Ah At As Ap T) {b : Addr} (hb : H b = none) : b ∉ W :: wL Ah At As Ap := fun z => by
  obtain ⟨hs, ts, h1, h2, h3, g⟩ := h.tb.get
  obtain ⟨kvs, h4, _⟩ := h.ps
  have h5 := h.ob
  simp only [wL, List.mem_cons, List.not_mem_nil, or_false] at z
  rcases z with rfl | rfl | rfl | rfl | rfl
  · rw [h5] at hb; cases hb
  · rw [h1] at hb; cases hb
  · rw [h2] at hb; cases hb
  · rw [h3] at hb; cases hb
  · rw [h4] at hb; cases hb
theorem WAt.tup (h : WAt H W Ah At As Ap T) {b : Addr} {xs : List V} (hb : H b = some (.tup xs)) : b ∉ W :: wL Ah At As Ap := fun z => by
  obtain ⟨hs, ts, h1, h2, h3, g⟩ := h.tb.get
  obtain ⟨kvs, h4, _⟩ := h.ps
  have h5 := h.ob
  simp only [wL, List.mem_cons, List.not_mem_nil, or_false] at z
  rcases z with rfl | rfl | rfl | rfl | rfl
  · rw [h5] at hb; cases hb
  · rw [h1] at hb; cases hb
  · rw [h2] at hb; cases hb
  · rw [h3] at hb; cases hb
  · rw [h4] at hb; cases hb
theorem WAt.gh (h : WAt H W Ah At As Ap T) : DGet H W (.str "heads") (some (.ref Ah)) := wk_h h.ob
theorem WAt.gt (h : WAt H W Ah At As Ap T) : DGet H W (.str "tails") (some (.ref At)) := wk_t h.ob
theorem WAt.gs (h : WAt H W Ah At As Ap T) : DGet H W (.str "sizes") (some (.ref As)) := wk_s h.ob
theorem WAt.gp (h : WAt H W Ah At As Ap T) : DGet H W (.str "pairs") (some (.ref Ap)) := wk_p h.ob
theorem not4 {b : Addr} (h : b ∉ W :: wL Ah At As Ap) : b ∉ wL Ah At As Ap := fun z => h (.tail _ z)
end
end Nx

/-! Programs whose rows may be the module's own constants. -/
namespace Nx
open PySem PySem.Spec PyProof.Rows L2
abbrev RowsK (K : PySem.W.Frag) (H : Hp) : List Addr → List Ins → Prop := Paired fun a i => SqT K H a i.vs
def PgK (K : PySem.W.Frag) (H : Hp) (p : Addr) (is : List Ins) : Prop := ∃ as : List Addr, H p = some (.lst (as.map V.ref)) ∧ RowsK K H as is
section
variable {K : PySem.W.Frag} {H H' : Hp} {p : Addr} {is : List Ins}
theorem PgAt.k (h : PgAt H p is) : PgK K H p is := by
  obtain ⟨as, h1, h2⟩ := h
  exact ⟨as, h1, Paired.imp (fun _ _ q => SqT.of q) h2⟩
instance : Coe (PgAt H p is) (PgK K H p is) := ⟨PgAt.k⟩
theorem PgK.same (h : PgK K H p is) (e : Same H H') : PgK K H' p is := by
  obtain ⟨as, h1, h2⟩ := h
  exact ⟨as, e _ _ h1, Paired.imp (fun _ _ q => Same.seqT e q) h2⟩
theorem PgK.len (h : PgK K H p is) : ∃ xs, H p = some (.lst xs) ∧ xs.length = is.length := by
  obtain ⟨as, h1, h2⟩ := h
  exact ⟨_, h1, by rw [List.length_map, Paired.len h2]⟩
theorem PgK.has (h : PgK K H p is) : H p ≠ none := fun z => by
  obtain ⟨as, h1, _⟩ := h
  rw [h1] at z
  cases z
theorem PgK.apart {r : Addr} (h : PgK K H p is) (n : H r = none) : p ≠ r := fun z => h.has (by rw [z]; exact n)
/-- an item of a program -/
theorem PgK.get (h : PgK K H p is) : ∃ xs : List V, H p = some (.lst xs) ∧ xs.length = is.length ∧ ∀ (i : Nat) (x : Ins), is[i]? = some x → ∃ a : Addr, xs[i]? = some (V.ref a) ∧ SqT K H a x.vs := by
  obtain ⟨as, h1, h2⟩ := h
  refine ⟨_, h1, by rw [List.length_map, Paired.len h2], fun i x hi => ?_⟩
  obtain ⟨a, e1, e2⟩ := Paired.get h2 hi
  exact ⟨a, by rw [List.getElem?_map, e1]; rfl, e2⟩
theorem Ins.dpK {a : Addr} {i : Ins} (h : SqT K H a i.vs) : Dp K H (.ref a) i.data := by
  refine .tup h (.cons (.str _) ?_)
  cases i with
  | set a t => exact .cons (.int _) (.cons (.str _) .nil)
  | move a b => exact .cons (.int _) (.cons (.int _) .nil)
  | cons a b c => exact .cons (.int _) (.cons (.int _) (.cons (.int _) .nil))
  | head a b => exact .cons (.int _) (.cons (.int _) .nil)
  | tail a b => exact .cons (.int _) (.cons (.int _) .nil)
  | jump a n => exact .cons (.int _) (.cons (.int _) .nil)
theorem rowsK_dp : ∀ {as : List Addr} {is : List Ins}, RowsK K H as is → DpAll K H (as.map V.ref) (is.map Ins.data)
  | _, _, .nil => .nil
  | _, _, .cons r t => .cons (Ins.dpK r) (rowsK_dp t)
theorem PgK.dp (h : PgK K H p is) : Dp K H (.ref p) (progD is) := by
  obtain ⟨as, h1, h2⟩ := h
  exact .lst (SqL.of h1) (rowsK_dp h2)
/-- no tuple stands at these -/
def NoT (H : Hp) (as : List Addr) : Prop := ∀ b ∈ as, (∀ ys, H b ≠ some (.tup ys)) ∧ ∀ o ys, H b ≠ some (.frz o (.tup ys))
theorem _root_.L2.SqT.butL {as : List Addr} {a : Addr} {xs : List V} (h : SqT K H a xs) (e : ButL as H H') (n : NoT H as) : SqT K H' a xs := by
  rcases h with (h | ⟨o, h⟩) | h
  · exact .inl (.inl (e _ _ (fun z => (n a z).1 xs h) h))
  · exact .inl (.inr ⟨o, e _ _ (fun z => (n a z).2 o xs h) h⟩)
  · exact .inr h
theorem PgK.butL {as : List Addr} (h : PgK K H p is) (e : ButL as H H') (n : NoT H as) (np : p ∉ as) : PgK K H' p is := by
  obtain ⟨qs, h1, h2⟩ := h
  exact ⟨qs, e _ _ np h1, Paired.imp (fun _ _ q => SqT.butL q e n) h2⟩
theorem NoT.lst {b : Addr} {xs : List V} {as : List Addr} (h : H b = some (.lst xs)) (n : NoT H as) : NoT H (b :: as) := fun c hc => by
  rcases List.mem_cons.mp hc with rfl | hc
  · rw [h]
    exact ⟨fun _ z => (by cases z), fun _ _ z => (by cases z)⟩
  · exact n c hc
theorem NoT.nil : NoT H [] := fun _ h => by cases h
theorem Strm.noT {st : Addr} (h : Strm H st) : NoT H [st] := by
  obtain ⟨l, ns, c, i, m, h1, _⟩ := h
  exact NoT.lst h1 .nil
theorem ExS.butL {st : Addr} (e : ExS st H H') : ButL [st] H H' := fun b o n h => e.k b o (fun z => n (by rw [z]; exact List.mem_singleton.mpr rfl)) h
theorem PgK.nst {st : Addr} (h : PgK K H p is) (s : Strm H st) : p ≠ st := fun z => by
  obtain ⟨as, h1, _⟩ := h
  obtain ⟨l, ns, c, i, m, h2, _⟩ := s
  rw [z, h2] at h1
  have h1 := HO.lst.inj (Option.some.inj h1)
  match as, h1 with
  | _ :: [], h1 => cases h1
  | _ :: _ :: _, h1 =>
    have := (List.cons.inj (List.cons.inj h1).2).1
    cases this
theorem PgK.draw {st : Addr} (h : PgK K H p is) (s : Strm H st) (e : ExS st H H') : PgK K H' p is := h.butL e.butL s.noT (fun z => h.nst s (List.mem_singleton.mp z))
section
variable {W Ah At As Ap : Addr} {T T' : List Tr}
theorem WAt.noT (h : WAt H W Ah At As Ap T) : NoT H (wL Ah At As Ap) := by
  obtain ⟨hs, ts, h1, h2, h3, g⟩ := h.tb.get
  obtain ⟨kvs, h4, _⟩ := h.ps
  refine NoT.lst h1 (NoT.lst h2 (NoT.lst h3 ?_))
  intro b hb
  cases List.mem_singleton.mp hb
  rw [h4]
  exact ⟨fun _ z => (by cases z), fun _ _ z => (by cases z)⟩
theorem WAt.noT5 (h : WAt H W Ah At As Ap T) : NoT H (W :: wL Ah At As Ap) := fun b hb => by
  rcases List.mem_cons.mp hb with rfl | hb
  · rw [h.ob]
    exact ⟨fun _ z => (by cases z), fun _ _ z => (by cases z)⟩
  · exact h.noT b hb
/-- a list of objects is none of the world's -/
theorem WAt.refs (h : WAt H W Ah At As Ap T) {as : List Addr} (hp : H p = some (.lst (as.map V.ref))) : p ∉ W :: wL Ah At As Ap := fun z => by
  obtain ⟨hs, ts, h1, h2, h3, g⟩ := h.tb.get
  obtain ⟨kvs, h4, _⟩ := h.ps
  have h5 := h.ob
  have l0 := (List.getElem?_eq_some_iff.mp g.z).1
  have no : ∀ (ns : List Nat), ns.length = T.length → H p ≠ some (.lst (natsV ns)) := fun ns hl e => by
    rw [hp] at e
    have e := HO.lst.inj (Option.some.inj e)
    match as, ns, e, hl with
    | [], [], _, hl => simp at hl; omega
    | a :: as, n :: ns, e, _ => cases (List.cons.inj e).1
  simp only [wL, List.mem_cons, List.not_mem_nil, or_false] at z
  rcases z with rfl | rfl | rfl | rfl | rfl
  · rw [h5] at hp; cases hp
  · exact no hs g.lh h1
  · exact no ts g.lt h2
  · rw [h3] at hp
    have e := HO.lst.inj (Option.some.inj hp)
    match as, T, e, l0 with
    | [], t :: T, e, _ => cases e
    | a :: as, t :: T, e, _ => cases (List.cons.inj e).1
  · rw [h4] at hp; cases hp
theorem WAt.pg (h : WAt H W Ah At As Ap T) (hp : PgK K H p is) : p ∉ W :: wL Ah At As Ap := by
  obtain ⟨as, h1, _⟩ := hp
  exact h.refs h1
theorem PgK.wld (hp : PgK K H p is) (h : WAt H W Ah At As Ap T) (e : ButL (wL Ah At As Ap) H H') : PgK K H' p is := hp.butL e h.noT (not4 (h.pg hp))
end
end
theorem sl_anyK {K : PySem.W.Frag} {H : Hp} {a : Addr} {xs : List V} {lo hi : Option Int} {Q : VK} (h : SqT K H a xs) (q : ∀ b H', Same H H' → SqT K H' b (cutV xs lo hi) → Q (.ref b) H') : rSlA K (.ref a) lo hi H Q := by
  refine ⟨a, xs, rfl, h, fun hw => q a H (.refl _) ?_, fun _ p np => q p _ (Same.upd np) (SqT.of upd_same)⟩
  have : cutV xs lo hi = xs := by
    unfold cutV
    rw [hw.1, hw.2, List.drop_zero, Nat.sub_zero]
    exact List.take_of_length_le (Nat.le_refl _)
  rw [this]
  exact h
/-! ### a program as the law's own runs hold it -/
def ldV (i : Ins) (n : Nat) : List V := match i with
  | .set a _ => [.str "set", .int a, .int n]
  | i => i.vs
def LdAt (K : PySem.W.Frag) (H : Hp) (T : List Tr) (L : Addr) (is : List Ins) : Prop := ∃ qs : List Addr, H L = some (.lst (qs.map V.ref)) ∧ qs.length = is.length ∧ ∀ (j : Nat) (i : Ins), is[j]? = some i → ∃ (q : Addr) (n : Nat), qs[j]? = some q ∧ SqT K H q (ldV i n) ∧ SetN T i n
theorem LdAt.on {K : PySem.W.Frag} {H H' : Hp} {T T' : List Tr} {L : Addr} {is : List Ins} {as : List Addr} (h : LdAt K H T L is) (e : ButL as H H') (n : NoT H as) (nL : L ∉ as) (x : Ext T T') : LdAt K H' T' L is := by
  obtain ⟨qs, h1, h2, h3⟩ := h
  refine ⟨qs, e _ _ nL h1, h2, fun j i hi => ?_⟩
  obtain ⟨q, m, a, b, c⟩ := h3 j i hi
  exact ⟨q, m, a, b.butL e n, c.ext x⟩
/-! ### a program that is drawn, its trees of at most t pairs -/
structure PIn (t : Nat) (H2 : Hp) (st p : Addr) (wide many : Nat) (as : List Addr) (is : List Ins) (H' : Hp) : Prop where
  at_ : H' p = some (.lst (as.map V.ref))
  rows : Rows H' as is
  ok : ∀ (j : Nat) (x : Ins), is[j]? = some x → x.ok wide t j many
  ex : ExS st H2 H'
  sm : Strm H' st
theorem PIn.go {t : Nat} {H2 H5 H6 : Hp} {st p : Addr} {wide many : Nat} {as : List Addr} {is : List Ins} (np : p ≠ st) (h : PIn t H2 st p wide many as is H5) (e : ExS st H5 H6) (s : Strm H6 st) : PIn t H2 st p wide many as is H6 :=
  ⟨e _ _ np h.at_, Rows.exs h.sm e h.rows, h.ok, h.ex.trans e, s⟩
theorem PIn.push {t : Nat} {H2 H5 : Hp} {st p T : Addr} {wide many : Nat} {as : List Addr} {is : List Ins} {x : Ins} (hp : H2 p = none) (s2 : Strm H2 st) (h : PIn t H2 st p wide many as is H5) (hx : x.ok wide t is.length many) (hT : H5 T = none) :
    PIn t H2 st p wide many (as ++ [T]) (is ++ [x]) (upd (upd H5 T (.tup x.vs)) p (.lst (as.map V.ref ++ [.ref T]))) := by
  have np : p ≠ st := s2.ne hp
  have smT := Same.upd (o := .tup x.vs) hT
  have e1 : ExS st H2 (upd H5 T (.tup x.vs)) := h.ex.trans smT.exs
  refine ⟨?_, Rows.push h.rows h.at_ hT, fun j y hj => ?_, .off np hp e1, s2.off hp e1 (smT.strm h.sm)⟩
  · rw [upd_same, List.map_append]
    rfl
  · by_cases c : j < is.length
    · rw [List.getElem?_append_left c] at hj
      exact h.ok j y hj
    · have c2 : j = is.length := by
        have := (List.getElem?_eq_some_iff.mp hj).1
        rw [List.length_append] at this
        have h1 : ([x] : List Ins).length = 1 := rfl
        omega
      subst c2
      rw [List.getElem?_append_right (Nat.le_refl _), Nat.sub_self] at hj
      have : x = y := by simpa using hj
      rw [← this]
      exact hx
theorem PIn.done {t : Nat} {H2 H' : Hp} {st p : Addr} {wide many : Nat} {as : List Addr} {is : List Ins} (h : PIn t H2 st p wide many as is H') (hl : is.length = many) : PgAt H' p is ∧ PgOk wide t is :=
  ⟨⟨as, h.at_, h.rows⟩, fun i x hi => by
    rw [hl]
    exact h.ok i x hi⟩
theorem PIn.size {t : Nat} {H2 H' : Hp} {st p : Addr} {wide many : Nat} {as : List Addr} {is : List Ins} (h : PIn t H2 st p wide many as is H') : (as.map V.ref).length = is.length := by
  rw [List.length_map, Paired.len h.rows]
/-! ### the stream beside a world -/
structure Free (H : Hp) (st : Addr) (as : List Addr) : Prop where
  sm : Strm H st
  n1 : st ∉ as
  n2 : ∀ l r, H st = some (.lst (.ref l :: r)) → l ∉ as
theorem Free.draw {H H' : Hp} {st : Addr} {as : List Addr} (h : Free H st as) (e : ExS st H H') (s : Strm H' st) : Free H' st as := by
  refine ⟨s, h.n1, fun l r hl => ?_⟩
  obtain ⟨l0, ns, c, i, m, h1, _⟩ := h.sm
  obtain ⟨r', h'⟩ := e.hd l0 _ h1
  rw [hl] at h'
  have := (List.cons.inj (HO.lst.inj (Option.some.inj h'))).1
  rw [V.ref.inj this]
  exact h.n2 l0 _ h1
theorem Free.but {H H' : Hp} {st : Addr} {as : List Addr} (h : Free H st as) (e : ButL as H H') : Free H' st as := by
  obtain ⟨l0, ns, c, i, m, h1, h2, h3⟩ := h.sm
  have g := e st _ h.n1 h1
  refine ⟨⟨l0, ns, c, i, m, g, e l0 _ (h.n2 l0 _ h1) h2, h3⟩, h.n1, fun l r hl => ?_⟩
  rw [g] at hl
  have := (List.cons.inj (HO.lst.inj (Option.some.inj hl))).1
  rw [← V.ref.inj this]
  exact h.n2 l0 _ h1
theorem Free.same {H H' : Hp} {st : Addr} {as : List Addr} (h : Free H st as) (e : Same H H') : Free H' st as := h.but (e.butL (as := as))
theorem Free.of {H H' : Hp} {st : Addr} {as : List Addr} (s : Strm H st) (e : Same H H') (n : ∀ b ∈ as, H b = none) : Free H' st as := by
  obtain ⟨l0, ns, c, i, m, h1, h2, h3⟩ := s
  refine ⟨⟨l0, ns, c, i, m, e _ _ h1, e _ _ h2, h3⟩, fun z => ?_, fun l r hl z => ?_⟩
  · rw [n st z] at h1
    cases h1
  · rw [e _ _ h1] at hl
    have := V.ref.inj (List.cons.inj (HO.lst.inj (Option.some.inj hl))).1
    rw [← this] at z
    rw [n l0 z] at h2
    cases h2
theorem Free.sub {H : Hp} {st : Addr} {as bs : List Addr} (h : Free H st as) (e : ∀ b ∈ bs, b ∈ as) : Free H st bs := ⟨h.sm, fun z => h.n1 (e _ z), fun l r hl z => h.n2 l r hl (e _ z)⟩
theorem Free.add {H : Hp} {st b : Addr} {as : List Addr} (h : Free H st as) (n : H b = none) : Free H st (b :: as) := by
  obtain ⟨l0, ns, c, i, m, h1, h2, h3⟩ := h.sm
  refine ⟨h.sm, fun z => ?_, fun l r hl z => ?_⟩
  · rcases List.mem_cons.mp z with z | z
    · rw [z, n] at h1
      cases h1
    · exact h.n1 z
  · rcases List.mem_cons.mp z with z | z
    · rw [h1] at hl
      have := V.ref.inj (List.cons.inj (HO.lst.inj (Option.some.inj hl))).1
      rw [← z, ← this, h2] at n
      cases n
    · exact h.n2 l r hl z
theorem WAt.draw {H H' : Hp} {W Ah At As Ap st : Addr} {T : List Tr} (h : WAt H W Ah At As Ap T) (f : Free H st (W :: wL Ah At As Ap)) (e : ExS st H H') : WAt H' W Ah At As Ap T := h.but e.butL (fun b hb z => f.n1 (by rw [← List.mem_singleton.mp z]; exact hb))
theorem ButL.up {as bs : List Addr} {H H' : Hp} (e : ButL as H H') (h : ∀ b ∈ as, b ∈ bs) : ButL bs H H' := fun b o n x => e b o (fun z => n (h b z)) x
theorem Free.wld {H H' : Hp} {W Ah At As Ap st : Addr} (f : Free H st (W :: wL Ah At As Ap)) (e : ButL (wL Ah At As Ap) H H') : Free H' st (W :: wL Ah At As Ap) := f.but (e.up fun _ z => .tail _ z)
theorem PgAt.but1 {H H' : Hp} {p r : Addr} {is : List Ins} {ys : List V} (h : PgAt H p is) (n : p ≠ r) (e : ButL [r] H H') (hr : H r = Option.some (.lst ys)) : PgAt H' p is := by
  refine h.butL (fun z => n (List.mem_singleton.mp z)) e (fun b hb => ⟨ys, ?_⟩)
  rw [List.mem_singleton.mp hb]
  exact hr
theorem PgAt.wld {H H' : Hp} {W Ah At As Ap p : Addr} {T : List Tr} {is : List Ins} (hp : PgAt H p is) (h : WAt H W Ah At As Ap T) (e : ButL (wL Ah At As Ap) H H') : PgAt H' p is := by
  obtain ⟨as, h1, h2⟩ := hp
  exact ⟨as, e _ _ (not4 (h.refs h1)) h1, Paired.imp (fun a i q => e a _ (not4 (h.tup q)) q) h2⟩
theorem eqvAll_len : ∀ {xs ys : List PyData}, PyData.eqvAll xs ys = true → xs.length = ys.length
  | [], [], _ => rfl
  | x :: xs, y :: ys, h => by
    have h : (PyData.eqv x y && PyData.eqvAll xs ys) = true := h
    rw [Bool.and_eq_true] at h
    rw [List.length_cons, List.length_cons, eqvAll_len h.2]
  | [], _ :: _, h => by cases h
  | _ :: _, [], h => by cases h
/-- one more row at the end of a program -/
theorem pg_snoc {H : Hp} {p T : Addr} {is : List Ins} {xs : List V} {i : Ins} (h : PgAt H p is) (hp : H p = some (.lst xs)) (nT : H T = none) : PgAt (upd (upd H T (.tup i.vs)) p (.lst (xs ++ [.ref T]))) p (is ++ [i]) := by
  obtain ⟨as, h1, h2⟩ := h
  rw [hp] at h1
  have e := HO.lst.inj (Option.some.inj h1)
  subst e
  refine ⟨as ++ [T], by rw [upd_same, List.map_append]; rfl, Rows.push h2 hp nT⟩
end Nx

/-! Programs that know their own code. -/
namespace Nx
open PySem PySem.Spec PyProof.Rows L2
def cofP : List Ins := [.set 2 p100, .cons 2 2 1, .cons 2 3 2]
def othP (is : List Ins) : List Ins := cofP ++ (.cons 1 2 1 :: .set 2 .leaf :: is)
def wocP (is : List Ins) : List Ins := .set 1 (codeT (othP is)) :: othP is
def GoodW (is : List Ins) : Prop := Fits (wocP is) ∧ (codeT (wocP is)).sg.length ≤ 200000
theorem codeT_cons (i : Ins) (is : List Ins) : codeT (i :: is) = .node i.codeT (codeT is) := rfl
theorem GoodW.oth {is : List Ins} (h : GoodW is) : (codeT (othP is)).sg.length ≤ 200000 := by
  have h1 := h.2
  unfold wocP at h1
  rw [codeT_cons, node_len] at h1
  omega
theorem v_set2 : ([.str "set", .int 2, .str "100"] : List V) = (Ins.set 2 p100).vs := by
  have : p100.str = Str.ofString "100" := by decide +kernel
  show _ = [V.str (Str.ofString "set"), V.int ((2 : Nat) : Int), V.str p100.str]
  rw [this]
  rfl
theorem v_leaf : ([.str "set", .int 2, .str "0"] : List V) = (Ins.set 2 .leaf).vs := by
  show _ = [V.str (Str.ofString "set"), V.int ((2 : Nat) : Int), V.str Tr.leaf.str]
  rw [leaf_str]
  rfl
def besP (is : List Ins) : List Ins := .cons 0 1 0 :: .set 1 .leaf :: is
theorem v_leaf1 : ([.str "set", .int 1, .str "0"] : List V) = (Ins.set 1 .leaf).vs := by
  show _ = [V.str (Str.ofString "set"), V.int ((1 : Nat) : Int), V.str Tr.leaf.str]
  rw [leaf_str]
  rfl
theorem besP_small {is : List Ins} (hs : ∀ i ∈ is, i.small) : ∀ i ∈ besP is, i.small := fun i hi => by
  rcases List.mem_cons.mp hi with rfl | hi
  · exact ⟨by decide, by decide, by decide⟩
  · rcases List.mem_cons.mp hi with rfl | hi
    · exact ⟨by decide, by decide⟩
    · exact hs i hi
/-! ### sizes -/
def csz (i : Ins) : Nat := i.codeT.sg.length
def sumC (is : List Ins) : Nat := (is.map fun i => 1 + csz i).sum
theorem sumC_cons (i : Ins) (is : List Ins) : sumC (i :: is) = 1 + csz i + sumC is := by
  unfold sumC
  rw [List.map_cons, List.sum_cons]
theorem sumC_app (is js : List Ins) : sumC (is ++ js) = sumC is + sumC js := by
  unfold sumC
  rw [List.map_append, List.sum_append]
theorem codeT_sum : ∀ is : List Ins, (codeT is).sg.length = 1 + sumC is
  | [] => rfl
  | i :: is => by
    rw [codeT_cons, node_len, sumC_cons, codeT_sum is]
    show 1 + csz i + (1 + sumC is) = _
    omega
theorem sumC_le {m : Nat} : ∀ is : List Ins, (∀ i ∈ is, csz i ≤ m) → sumC is ≤ is.length * (m + 1)
  | [], _ => Nat.zero_le _
  | i :: r, h => by
    have h1 := sumC_le r fun j hj => h j (.tail _ hj)
    have h2 := h i (.head _)
    rw [sumC_cons, List.length_cons, Nat.add_mul]
    omega
theorem csz_set (a : Nat) (t : Tr) : csz (.set a t) = 2 * a + t.sg.length + 4 := by
  show (Tr.node (numT 0) (.node (numT a) t)).sg.length = _
  rw [node_len, node_len, numT_len, numT_len]
  omega
theorem csz_move (a b : Nat) : csz (.move a b) = 2 * a + 2 * b + 7 := by
  show (Tr.node (numT 1) (.node (numT a) (numT b))).sg.length = _
  rw [node_len, node_len, numT_len, numT_len, numT_len]
  omega
theorem csz_cons (a b c : Nat) : csz (.cons a b c) = 2 * a + 2 * b + 2 * c + 11 := by
  show (Tr.node (numT 2) (.node (numT a) (.node (numT b) (numT c)))).sg.length = _
  rw [node_len, node_len, node_len, numT_len, numT_len, numT_len, numT_len]
  omega
theorem csz_head (a b : Nat) : csz (.head a b) = 2 * a + 2 * b + 11 := by
  show (Tr.node (numT 3) (.node (numT a) (numT b))).sg.length = _
  rw [node_len, node_len, numT_len, numT_len, numT_len]
  omega
theorem csz_tail (a b : Nat) : csz (.tail a b) = 2 * a + 2 * b + 13 := by
  show (Tr.node (numT 4) (.node (numT a) (numT b))).sg.length = _
  rw [node_len, node_len, numT_len, numT_len, numT_len]
  omega
theorem csz_jump (a : Nat) (n : Int) : csz (.jump a n) ≤ 2 * a + 2 * n.natAbs + 19 := by
  show (Tr.node (numT 5) (.node (numT a) (.node (if n < 0 then .node .leaf .leaf else .leaf) (numT n.natAbs)))).sg.length ≤ _
  rw [node_len, node_len, node_len, numT_len, numT_len, numT_len]
  have : (if n < 0 then Tr.node .leaf .leaf else .leaf).sg.length ≤ 3 := by
    split
    · exact (by decide : (Tr.node .leaf .leaf).sg.length ≤ 3)
    · exact (by decide : Tr.leaf.sg.length ≤ 3)
  omega
/-- the width of a jump is small -/
def Ins.near (m : Nat) : Ins → Prop
  | .jump _ n => n.natAbs ≤ m
  | _ => True
theorem csz_le {i : Ins} {w m : Nat} (h : i.below w) (hn : i.near m) : csz i ≤ 6 * w + 2 * m + 19 + i.big := by
  cases i with
  | set a t =>
    have := h a (by simp [Ins.regs])
    rw [csz_set]
    show _ ≤ _ + t.sg.length
    omega
  | move a b =>
    have h1 := h a (by simp [Ins.regs])
    have h2 := h b (by simp [Ins.regs])
    rw [csz_move]
    omega
  | cons a b c =>
    have h1 := h a (by simp [Ins.regs])
    have h2 := h b (by simp [Ins.regs])
    have h3 := h c (by simp [Ins.regs])
    rw [csz_cons]
    omega
  | head a b =>
    have h1 := h a (by simp [Ins.regs])
    have h2 := h b (by simp [Ins.regs])
    rw [csz_head]
    omega
  | tail a b =>
    have h1 := h a (by simp [Ins.regs])
    have h2 := h b (by simp [Ins.regs])
    rw [csz_tail]
    omega
  | jump a n =>
    have h1 := h a (by simp [Ins.regs])
    have h2 : n.natAbs ≤ m := hn
    have := csz_jump a n
    omega
theorem PgOk.near {w k : Nat} {is : List Ins} (h : PgOk w k is) : ∀ i ∈ is, i.near is.length := fun i hi => by
  obtain ⟨j, hj⟩ := List.getElem?_of_mem hi
  have h1 := h j i hj
  have h2 := (List.getElem?_eq_some_iff.mp hj).1
  cases i with
  | jump a n =>
    obtain ⟨_, a2, a3⟩ := h1
    show n.natAbs ≤ _
    omega
  | _ => trivial
theorem treesSum_sumC : ∀ is : List Ins, treesSum is ≤ sumC is
  | [] => Nat.zero_le _
  | i :: r => by
    have ih := treesSum_sumC r
    rw [sumC_cons]
    cases i with
    | set a t =>
      have : treesSum (.set a t :: r) = t.sg.length + treesSum r := rfl
      rw [this, csz_set]
      omega
    | move a b => exact Nat.le_trans ih (Nat.le_add_left _ _)
    | cons a b c => exact Nat.le_trans ih (Nat.le_add_left _ _)
    | head a b => exact Nat.le_trans ih (Nat.le_add_left _ _)
    | tail a b => exact Nat.le_trans ih (Nat.le_add_left _ _)
    | jump a b => exact Nat.le_trans ih (Nat.le_add_left _ _)
theorem sumC_oth (is : List Ins) : sumC (othP is) = 90 + sumC is := by
  have e1 : sumC cofP = 60 := by decide
  have e2 : sumC (.cons 1 2 1 :: .set 2 .leaf :: is) = sumC is + 30 := by
    rw [sumC_cons, sumC_cons, csz_cons, csz_set, show Tr.leaf.sg.length = 1 from rfl]
    omega
  unfold othP
  rw [sumC_app, e1, e2]
  omega
theorem good_of {is : List Ins} (hl : is.length ≤ 594) (hs : sumC is ≤ 95000) : GoodW is := by
  have h1 := sumC_oth is
  have h2 := codeT_sum (othP is)
  have h3 : treesSum (wocP is) = (codeT (othP is)).sg.length + treesSum (othP is) := rfl
  have h4 := treesSum_sumC (othP is)
  refine ⟨⟨?_, ?_⟩, ?_⟩
  · show is.length + 6 ≤ 600
    omega
  · rw [h3]
    omega
  · rw [codeT_sum]
    unfold wocP
    rw [sumC_cons, csz_set]
    omega
theorem sumC_bes (is : List Ins) : sumC (besP is) = 22 + sumC is := by
  unfold besP
  rw [sumC_cons, sumC_cons, csz_cons, csz_set, show Tr.leaf.sg.length = 1 from rfl]
  omega
theorem woc_inj {a b : List Ins} (h : wocP a = wocP b) : a = b := by
  have h1 := (List.cons.inj h).2
  have h2 := List.append_cancel_left h1
  exact (List.cons.inj (List.cons.inj h2).2).2
theorem bes_inj {a b : List Ins} (h : besP a = besP b) : a = b := (List.cons.inj (List.cons.inj h).2).2
/-! ### programs as data are the same only if they are -/
theorem eqvAll_cons {x y : PyData} {xs ys : List PyData} : PyData.eqvAll (x :: xs) (y :: ys) = (PyData.eqv x y && PyData.eqvAll xs ys) := rfl
theorem word_eq {i j : Ins} (h : i.word = j.word) : i.no = j.no := by
  have hi := (word_at i).2
  have hj := (word_at j).2
  rw [h] at hi
  omega
theorem Ins.eqv_eq {i j : Ins} (h : PyData.eqv i.data j.data = true) : i = j := by
  have h : PyData.eqvAll (.str i.word :: i.dparts) (.str j.word :: j.dparts) = true := h
  rw [eqvAll_cons, Bool.and_eq_true] at h
  have hw : (i.word == j.word) = true := h.1
  have hn := word_eq (eq_of_beq hw)
  have h := h.2
  have two : ∀ {a b d e : Nat}, ((a : Int) == (d : Int) && ((b : Int) == (e : Int) && true)) = true → a = d ∧ b = e := fun h => by
    simp only [Bool.and_true, Bool.and_eq_true, beq_iff_eq] at h
    omega
  cases i with
  | set a t =>
    cases j with
    | set b u =>
      have h : ((a : Int) == (b : Int) && (t.str == u.str && true)) = true := h
      simp only [Bool.and_true, Bool.and_eq_true, beq_iff_eq] at h
      have h1 : a = b := by omega
      rw [h1, Tr.str_inj h.2]
    | _ => cases hn
  | move a b =>
    cases j with
    | move d e =>
      obtain ⟨rfl, rfl⟩ := two h
      rfl
    | _ => cases hn
  | cons a b c =>
    cases j with
    | cons d e f =>
      have h : ((a : Int) == (d : Int) && ((b : Int) == (e : Int) && ((c : Int) == (f : Int) && true))) = true := h
      simp only [Bool.and_true, Bool.and_eq_true, beq_iff_eq] at h
      have h1 : a = d := by omega
      have h2 : b = e := by omega
      have h3 : c = f := by omega
      rw [h1, h2, h3]
    | _ => cases hn
  | head a b =>
    cases j with
    | head d e =>
      obtain ⟨rfl, rfl⟩ := two h
      rfl
    | _ => cases hn
  | tail a b =>
    cases j with
    | tail d e =>
      obtain ⟨rfl, rfl⟩ := two h
      rfl
    | _ => cases hn
  | jump a b =>
    cases j with
    | jump d e =>
      have h : ((a : Int) == (d : Int) && (b == e && true)) = true := h
      simp only [Bool.and_true, Bool.and_eq_true, beq_iff_eq] at h
      have h1 : a = d := by omega
      rw [h1, h.2]
    | _ => cases hn
theorem eqvAll_prog : ∀ {a b : List Ins}, PyData.eqvAll (a.map Ins.data) (b.map Ins.data) = true → a = b
  | [], [], _ => rfl
  | i :: a, j :: b, h => by
    rw [List.map_cons, List.map_cons, eqvAll_cons, Bool.and_eq_true] at h
    rw [Ins.eqv_eq h.1, eqvAll_prog h.2]
  | [], _ :: _, h => by cases h
  | _ :: _, [], h => by cases h
theorem eqv_prog (a b : List Ins) : PyData.eqv (progD a) (progD b) = decide (a = b) := by
  by_cases c : a = b
  · subst c
    rw [eqv_same (progD_shaped _), decide_eq_true rfl]
  · rw [decide_eq_false c]
    cases e : PyData.eqv (progD a) (progD b) with
    | false => rfl
    | true => exact absurd (eqvAll_prog e) c
theorem good_bes {is : List Ins} (hl : is.length ≤ 590) (hs : sumC is ≤ 90000) : GoodW (besP is) := good_of (by show is.length + 2 ≤ 594; omega) (by rw [sumC_bes]; omega)
theorem bes_big {is : List Ins} (h : 592 < is.length) : ¬ GoodW (besP is) := fun g => by
  have : is.length + 8 ≤ 600 := g.1.1
  omega
theorem small_of {i : Ins} {w : Nat} (h : i.below w) (hw : w ≤ 1000) (hn : i.near 999) (hb : i.big ≤ 200000) : i.small := by
  cases i with
  | set a t => exact ⟨Nat.lt_of_lt_of_le (h a (by simp [Ins.regs])) hw, hb⟩
  | move a b => exact ⟨Nat.lt_of_lt_of_le (h a (by simp [Ins.regs])) hw, Nat.lt_of_lt_of_le (h b (by simp [Ins.regs])) hw⟩
  | cons a b c => exact ⟨Nat.lt_of_lt_of_le (h a (by simp [Ins.regs])) hw, Nat.lt_of_lt_of_le (h b (by simp [Ins.regs])) hw, Nat.lt_of_lt_of_le (h c (by simp [Ins.regs])) hw⟩
  | head a b => exact ⟨Nat.lt_of_lt_of_le (h a (by simp [Ins.regs])) hw, Nat.lt_of_lt_of_le (h b (by simp [Ins.regs])) hw⟩
  | tail a b => exact ⟨Nat.lt_of_lt_of_le (h a (by simp [Ins.regs])) hw, Nat.lt_of_lt_of_le (h b (by simp [Ins.regs])) hw⟩
  | jump a n =>
    have : n.natAbs ≤ 999 := hn
    exact ⟨Nat.lt_of_lt_of_le (h a (by simp [Ins.regs])) hw, by omega⟩
theorem Ins.near_le {i : Ins} {m n : Nat} (h : i.near m) (e : m ≤ n) : i.near n := by
  cases i with
  | jump a k =>
    have : k.natAbs ≤ m := h
    show k.natAbs ≤ n
    omega
  | _ => trivial
theorem rows_flat {H : Hp} {as : List Addr} {is : List Ins} (h : Rows H as is) : ∀ n : Nat, Rows H (List.replicate n as).flatten (List.replicate n is).flatten
  | 0 => .nil
  | n + 1 => by
    rw [List.replicate_succ, List.replicate_succ, List.flatten_cons, List.flatten_cons]
    exact Paired.app h (rows_flat h n)
theorem pg_repl {H : Hp} {p : Addr} {is : List Ins} (h : PgAt H p is) : ∃ xs : List V, H p = some (.lst xs) ∧ xs.length = is.length ∧ ∀ (n : Nat) (r : Addr), H r = none → PgAt (upd H r (.lst (List.replicate n xs).flatten)) r (List.replicate n is).flatten := by
  obtain ⟨as, h1, h2⟩ := h
  refine ⟨_, h1, by rw [List.length_map, Paired.len h2], fun n r nr => ⟨(List.replicate n as).flatten, ?_, Rows.same (Same.upd nr) (rows_flat h2 n)⟩⟩
  rw [upd_same, List.map_flatten, List.map_replicate]
theorem flat_one {α : Type} (x : α) : ∀ n : Nat, (List.replicate n [x]).flatten = List.replicate n x
  | 0 => rfl
  | n + 1 => by
    rw [List.replicate_succ, List.flatten_cons, flat_one x n]
    rfl
theorem flat_len {α : Type} (xs : List α) : ∀ n : Nat, (List.replicate n xs).flatten.length = n * xs.length
  | 0 => (Nat.zero_mul _).symm
  | n + 1 => by
    rw [List.replicate_succ, List.flatten_cons, List.length_append, flat_len xs n, Nat.add_mul, Nat.one_mul, Nat.add_comm]
end Nx

/-! A dict of what was seen: its keys are nested tuples. -/
namespace Nx
open PySem PySem.Spec PyProof.Rows L2
mutual
/-- a nested key as a value -/
inductive NkV (H : Hp) : NestedKey → V → Prop where
  | num (i : Int) : NkV H (.num i) (.int i)
  | text (x : Str) : NkV H (.text x) (.str x)
  | tup {ks : List NestedKey} {vs : List V} {a : Addr} : H a = some (.tup vs) → NkAll H ks vs → NkV H (.tup ks) (.ref a)
inductive NkAll (H : Hp) : List NestedKey → List V → Prop where
  | nil : NkAll H [] []
  | cons {k : NestedKey} {v : V} {ks : List NestedKey} {vs : List V} : NkV H k v → NkAll H ks vs → NkAll H (k :: ks) (v :: vs)
end
section
variable {P : Program} {w : World} {H H' : Hp} {h : Heap} {a : Addr}
mutual
theorem NkV.is (ok : HOk P w H h) : ∀ {k : NestedKey} {v : V} {u : Value}, NkV H k v → RelV v u → NestedIs h k u
  | _, _, u, .num i, r => by
    obtain ⟨t, rfl⟩ := (show ∃ t, u = Value.int i t from r)
    exact .int i t
  | _, _, u, .text x, r => by
    obtain ⟨t, rfl⟩ := (show ∃ t, u = Value.str x t from r)
    exact .text x t
  | _, _, u, @NkV.tup _ ks vs a e q, r => by
    cases (show u = Value.ref a from r)
    obtain ⟨_, its, rv, o, h1, h2, n, h3⟩ := (show ObjOk P w H h a (.tup vs) from ok a _ e)
    exact .tup h1 h2 h3 (by simpa using NkAll.is ok q rv)
theorem NkAll.is (ok : HOk P w H h) : ∀ {ks : List NestedKey} {vs : List V} {us : List Value}, NkAll H ks vs → Vals vs us → NestedAll h ks us
  | _, _, us, .nil, r => by
    cases r
    exact .nil
  | _, _, us, .cons q t, r => by
    cases r with
    | cons r1 r2 => exact .cons (NkV.is ok q r1) (NkAll.is ok t r2)
end
mutual
theorem NkV.mono (e : ∀ b xs, H b = some (.tup xs) → H' b = some (.tup xs)) : ∀ {k : NestedKey} {v : V}, NkV H k v → NkV H' k v
  | _, _, .num i => .num i
  | _, _, .text x => .text x
  | _, _, .tup q t => .tup (e _ _ q) (NkAll.mono e t)
theorem NkAll.mono (e : ∀ b xs, H b = some (.tup xs) → H' b = some (.tup xs)) : ∀ {ks : List NestedKey} {vs : List V}, NkAll H ks vs → NkAll H' ks vs
  | _, _, .nil => .nil
  | _, _, .cons q t => .cons (NkV.mono e q) (NkAll.mono e t)
end
def seenE (P : Program) (w : World) (a : Addr) (xs : List (NestedKey × Addr × Value)) : Heap → Prop := fun h => (a == sysModules) = false ∧ xs.length ≤ sizeLine ∧ (xs.map (·.1)).Nodup ∧
  ∃ o es ep, h.get? a = some o ∧ o.ExactDict ∧ o.data = .dict es ep ∧ es.toList = xs.map (entryOfKey (nestedKind P w))
/-- at a stands a dict with these keys -/
def SeenAt (P : Program) (w : World) (H : Hp) (a : Addr) (ks : List NestedKey) : Prop := ∃ xs : List (NestedKey × Addr × Value), xs.map (·.1) = ks ∧ H a = some (.ext (seenE P w a xs)) ∧ ∀ x ∈ xs, NkV H x.1 (.ref x.2.1) ∧ x.1.depth ≤ 8
theorem SeenAt.ob {ks : List NestedKey} (s : SeenAt P w H a ks) : ∃ φ, H a = some (.ext φ) := by
  obtain ⟨xs, _, h, _⟩ := s
  exact ⟨_, h⟩
theorem SeenAt.mono {ks : List NestedKey} (s : SeenAt P w H a ks) (ea : H' a = H a) (e : ∀ b xs, H b = some (.tup xs) → H' b = some (.tup xs)) : SeenAt P w H' a ks := by
  obtain ⟨xs, h1, h2, h3⟩ := s
  exact ⟨xs, h1, ea.trans h2, fun x hx => ⟨(h3 x hx).1.mono e, (h3 x hx).2⟩⟩
theorem SeenAt.same {ks : List NestedKey} (s : SeenAt P w H a ks) (e : Same H H') : SeenAt P w H' a ks := by
  obtain ⟨φ, q⟩ := s.ob
  exact s.mono (by rw [q]; exact e _ _ q) fun b xs z => e b _ z
theorem SeenAt.butL {ks : List NestedKey} {as : List Addr} (s : SeenAt P w H a ks) (e : ButL as H H') (n : NoT H as) (na : a ∉ as) : SeenAt P w H' a ks := by
  obtain ⟨φ, q⟩ := s.ob
  exact s.mono (by rw [q]; exact e _ _ na q) fun b xs z => e b _ (fun hb => (n b hb).1 _ z) z
theorem SeenAt.of (ok : HOk P w H h) {ks : List NestedKey} (s : SeenAt P w H a ks) : (a == sysModules) = false ∧ ks.length ≤ sizeLine ∧ ∃ xs : List (NestedKey × Addr × Value), xs.map (·.1) = ks ∧ (∀ x ∈ xs, NkV H x.1 (.ref x.2.1) ∧ x.1.depth ≤ 8) ∧ h.DictOfH (nestedKind P w) a xs := by
  obtain ⟨xs, h1, h2, h3⟩ := s
  obtain ⟨⟨e1, e2, e3, o, es, ep, g1, g2, g3, g4⟩, _⟩ := (show ObjOk P w H h a (.ext (seenE P w a xs)) from ok a _ h2)
  exact ⟨e1, by rw [← h1, List.length_map]; exact e2, xs, h1, h3, o, es, ep, g1, g2, g3, g4, fun x hx => ⟨(h3 x hx).1.is ok rfl, (h3 x hx).2⟩, e3⟩
theorem seenE_ok {xs : List (NestedKey × Addr × Value)} (h0 : seenE P w a xs h) : ObjOk P w H h a (.ext (seenE P w a xs)) := by
  obtain ⟨e1, e2, e3, o, es, ep, g1, g⟩ := id h0
  refine ⟨h0, ⟨o, g1⟩, fun h1 h2 q k => ?_⟩
  obtain ⟨e1, e2, e3, o, es, ep, g1, g⟩ := q
  exact ⟨e1, e2, e3, o, es, ep, k _ g1, g⟩
end
theorem atKey_some {xs : List (NestedKey × Addr × Value)} {k : NestedKey} : (atKey xs k).isSome = decide (k ∈ xs.map (·.1)) := by
  unfold atKey
  rw [Option.isSome_map, Bool.eq_iff_iff, List.find?_isSome, decide_eq_true_eq]
  constructor
  · rintro ⟨x, hx, e⟩
    exact List.mem_map.mpr ⟨x, hx, of_decide_eq_true e⟩
  · intro z
    obtain ⟨x, hx, e⟩ := List.mem_map.mp z
    exact ⟨x, hx, decide_eq_true e⟩
/-- {} -/
def tDNewN (P : Program) (w : World) : TE := fun _ H Q => ∀ p H', H p = none → Same H H' → SeenAt P w H' p [] → Q (.ref p) H'
/-- y in d -/
def tSeenIn (P : Program) (w : World) (ty td : TE) : TE := fun σ H Q => ty σ H fun y H1 => td σ H1 fun x H2 => ∃ a ks k, x = .ref a ∧ SeenAt P w H2 a ks ∧ NkV H2 k y ∧ (∃ b, y = .ref b) ∧ k.depth ≤ 8 ∧ Q (.bl (decide (k ∈ ks))) H2
/-- d[y] = v, y new -/
def sSeenPut (P : Program) (w : World) (td ty tv : TE) : TS := fun D σ H => tv σ H fun v H1 => td σ H1 fun x H2 => ty σ H2 fun y H3 => ∃ a ks k, x = .ref a ∧ SeenAt P w H3 a ks ∧ NkV H3 k y ∧ (∃ b, y = .ref b) ∧ k.depth ≤ 8 ∧ k ∉ ks ∧ ks.length < sizeLine ∧
  ∀ H4, ButL [a] H3 H4 → SeenAt P w H4 a (ks ++ [k]) → D.nx σ H4
section
variable {X : Cx} {pos pos' : Pos} {o i value : Expr} {td ty tv : TE}
theorem pe_dnewN : PE X (.Dict [] [] pos) (tDNewN X.prog X.w) := ⟨fun pins s σ H Q I h => by
  have hf := I.hok.fresh (Nat.le_refl s.heap.objs.size)
  have h0 : seenE X.prog X.w s.heap.objs.size [] (s.heap.push { cls := .type "dict", data := .dict #[] }) := ⟨beq_eq_false_iff_ne.mpr (Ne.symm (Nat.ne_of_lt I.big)), Nat.zero_le _, List.nodup_nil, _, #[], 0, Heap.get?_push_size _ rfl, ⟨rfl, rfl, rfl⟩, rfl, rfl⟩
  refine wpAny_Dict_empty ⟨.ref s.heap.objs.size, _, I.laid (a := s.heap.objs.size) (o := .ext (seenE X.prog X.w s.heap.objs.size [])) (t' := s.toks) (fun _ _ q => Heap.get?_push_of_some _ q) (Nat.le_refl _) (seenE_ok h0), rfl, h _ _ hf (Same.upd hf) ⟨[], rfl, upd_same, fun x hx => by cases hx⟩⟩⟩
theorem pc_seen (hu : X.A.units + 65 < cLine) (hi : PE X i ty) (ho : PE X o td) : PC X .In i o (tSeenIn X.prog X.w ty td) := by
  refine ⟨fun pins s σ H Q I h => ?_⟩
  refine thn (hi.run pins s σ H _ I h) fun iv s1 ⟨y, H1, I1, ry, q1⟩ => thn (ho.run pins s1 σ H1 _ I1 q1) fun u s2 ⟨x, H2, I2, rx, a, ks, k, ex, g, hk, ⟨b, eb⟩, hd, q2⟩ => ?_
  subst ex eb
  obtain rfl : u = Value.ref a := rx
  obtain rfl : iv = Value.ref b := ry
  obtain ⟨e1, e2, xs, e3, _, dd⟩ := g.of I2.hok
  refine wpAny_in_heap (knd := nestedKind X.prog X.w) (by show X.A.in1.units + 8 < cLine; rw [Around.in1_units]; omega) ⟨hk.is I2.hok rfl, hd⟩ e1 dd ?_
  rw [atKey_some, e3]
  exact ⟨.bl _, H2, I2.tok _, rfl, q2⟩
theorem ps_seen (hu : X.A.units + 65 < cLine) (ho : PE X o td) (hi : PE X i ty) (hv : PE X value tv) (hs : swapsWith value (some (.Subscript o i pos')) pos.line X.env = pure false) :
    PS X (.Assign [.Subscript o i pos'] value pos) (sSeenPut X.prog X.w td ty tv) := by
  refine ⟨fun pins s σ H D I h => ?_⟩
  refine wpAny_Assign_Subscript (thn (hv.run pins s σ H _ I h) fun r s1 ⟨v, H1, I1, rv, q1⟩ => thn (ho.run pins s1 σ H1 _ I1 q1) fun u s2 ⟨x, H2, I2, rx, q2⟩ => thn (hi.run pins s2 σ H2 _ I2 q2) fun iv s3 ⟨y, H3, I3, ry, a, ks, k, ex, g, hk, ⟨b, eb⟩, hd, hno, hlt, q3⟩ => ?_) hs
  subst ex eb
  obtain rfl : u = Value.ref a := rx
  obtain rfl : iv = Value.ref b := ry
  obtain ⟨φ, hφ⟩ := g.ob
  obtain ⟨e1, e2, xs, e3, e4, dd⟩ := g.of I3.hok
  have xl : xs.length = ks.length := by rw [← e3, List.length_map]
  have hno2 : (atKey xs k).isSome = false := by
    rw [atKey_some, e3]
    exact decide_eq_false hno
  have est : storedH xs k b r = xs ++ [(k, b, r)] := by
    unfold storedH
    rw [if_neg (by rw [hno2]; exact Bool.false_ne_true)]
  refine wpAny_setItem_heap (knd := nestedKind X.prog X.w) (hsz := by rw [xl]; exact e2) (by show X.A.in1.units + 8 < cLine; rw [Around.in1_units]; omega) ⟨hk.is I3.hok rfl, hd⟩ dd fun h' dd' hsb => ?_
  rw [est] at dd'
  obtain ⟨q, es, ep, hq, h2, h3, h4, _, h5⟩ := dd'
  have h0 : seenE X.prog X.w a (xs ++ [(k, b, r)]) h' := ⟨e1, by rw [List.length_append, xl]; exact hlt, h5, q, es, ep, hq, h2, h3, h4⟩
  have tup : ∀ c ys, H3 c = some (.tup ys) → upd H3 a (.ext (seenE X.prog X.w a (xs ++ [(k, b, r)]))) c = some (.tup ys) := fun c ys ec => by
    rw [upd_ne (ne_of ec hφ (fun z => nomatch z))]
    exact ec
  refine ⟨σ, _, d_write (t' := s3.toks + (nestedKind X.prog X.w).draws k) I3 (by rw [hφ]; exact True.intro) hsb ⟨q, hq⟩ (seenE_ok h0), q3 _ (ButL.upd (by simp)) ⟨xs ++ [(k, b, r)], by rw [List.map_append, e3]; rfl, upd_same, fun x hx => ?_⟩⟩
  rcases List.mem_append.mp hx with hx | hx
  · exact ⟨(e4 x hx).1.mono tup, (e4 x hx).2⟩
  · rw [List.mem_singleton.mp hx]
    exact ⟨hk.mono tup, hd⟩
end
/-! ### rows -/
theorem Ins.kindR (x : Ins) : (∃ r u, (x.word = Str.ofString "set" ∨ x.word = Str.ofString "jump") ∧ x.regs = [r] ∧ x.vs = [.str x.word, .int (r : Nat), u]) ∨ (¬ x.word = Str.ofString "set" ∧ ¬ x.word = Str.ofString "jump" ∧ x.vs = .str x.word :: natsV x.regs ∧ 2 ≤ x.regs.length ∧ x.regs.length ≤ 3) := by
  cases x with
  | set r t => exact .inl ⟨r, _, .inl rfl, rfl, rfl⟩
  | jump r n => exact .inl ⟨r, _, .inr rfl, rfl, rfl⟩
  | move r b => exact .inr ⟨(by decide +kernel : ¬ Str.ofString "move" = Str.ofString "set"), (by decide +kernel : ¬ Str.ofString "move" = Str.ofString "jump"), rfl, (by show 2 ≤ 2; decide), (by show 2 ≤ 3; decide)⟩
  | cons r b c => exact .inr ⟨(by decide +kernel : ¬ Str.ofString "cons" = Str.ofString "set"), (by decide +kernel : ¬ Str.ofString "cons" = Str.ofString "jump"), rfl, (by show 2 ≤ 3; decide), (by show 3 ≤ 3; decide)⟩
  | head r b => exact .inr ⟨(by decide +kernel : ¬ Str.ofString "head" = Str.ofString "set"), (by decide +kernel : ¬ Str.ofString "head" = Str.ofString "jump"), rfl, (by show 2 ≤ 2; decide), (by show 2 ≤ 3; decide)⟩
  | tail r b => exact .inr ⟨(by decide +kernel : ¬ Str.ofString "tail" = Str.ofString "set"), (by decide +kernel : ¬ Str.ofString "tail" = Str.ofString "jump"), rfl, (by show 2 ≤ 2; decide), (by show 2 ≤ 3; decide)⟩
theorem cut1_no {x : V} {l : List V} {hi : Option Int} : ¬ (HT.sIx (x :: l).length 0 (some (1 : Int)) = 0 ∧ HT.sIx (x :: l).length (x :: l).length hi = (x :: l).length) := fun h => by
  have h1 := h.1
  rw [show HT.sIx (x :: l).length 0 (some (1 : Int)) = min 1 (x :: l).length from HT.sIx_nat _ _ 1, List.length_cons] at h1
  omega
theorem _root_.L2.SqT.tyx {K : PySem.W.Frag} {H : Hp} {a : Addr} {xs : List V} (h : SqT K H a xs) : TyX K H (.ref a) (.type "tuple") := by
  rcases h with (h | ⟨o, h⟩) | ⟨o, its, n, h1, h2, _⟩
  · exact .base (.tup h)
  · exact .fTuple h
  · exact .kTuple h1 h2
theorem WAt.ext {H : Hp} {W Ah At As Ap : Addr} {T : List Tr} (h : WAt H W Ah At As Ap T) {b : Addr} {φ : Heap → Prop} (hb : H b = some (.ext φ)) : b ∉ W :: wL Ah At As Ap := fun z => by
  obtain ⟨hs, ts, h1, h2, h3, g⟩ := h.tb.get
  obtain ⟨kvs, h4, _⟩ := h.ps
  have h5 := h.ob
  simp only [wL, List.mem_cons, List.not_mem_nil, or_false] at z
  rcases z with rfl | rfl | rfl | rfl | rfl
  · rw [h5] at hb; cases hb
  · rw [h1] at hb; cases hb
  · rw [h2] at hb; cases hb
  · rw [h3] at hb; cases hb
  · rw [h4] at hb; cases hb
/-! ### states that were seen -/
/-- the run comes back to a state, without too large a step -/
def Loops (is : List Ins) (x : Tr) : Prop := ∃ (n m k : Nat) (rs : List Tr), St is n 0 (rs0 x) k rs ∧ St is (m + 1) k rs k rs
def keyN (k : Nat) (ns : List Nat) : NestedKey := .tup [.num k, .tup (ns.map fun n : Nat => .num n)]
theorem nk_nats (H : Hp) : ∀ ns : List Nat, NkAll H (ns.map fun n : Nat => .num n) (natsV ns)
  | [] => .nil
  | n :: ns => .cons (.num _) (nk_nats H ns)
theorem depth_nums : ∀ ns : List Nat, NestedKey.depthAll (ns.map fun n : Nat => .num n) = 0
  | [] => rfl
  | n :: ns => by
    show max 0 (NestedKey.depthAll (ns.map fun n : Nat => .num n)) = 0
    rw [depth_nums ns]
    rfl
theorem keyN_deep (k : Nat) (ns : List Nat) : (keyN k ns).depth ≤ 8 := by
  show max 0 (max (NestedKey.depthAll (ns.map fun n : Nat => .num n) + 1) 0) + 1 ≤ 8
  rw [depth_nums]
  decide
theorem numK_inj : ∀ {ns ns' : List Nat}, (ns.map fun n : Nat => NestedKey.num n) = (ns'.map fun n : Nat => NestedKey.num n) → ns = ns'
  | [], [], _ => rfl
  | [], _ :: _, h => by cases h
  | _ :: _, [], h => by cases h
  | n :: ns, a :: b, h => by
    obtain ⟨g1, g2⟩ := List.cons.inj h
    have g1 := NestedKey.num.inj g1
    rw [numK_inj g2]
    congr 1
    omega
theorem keyN_inj {k k' : Nat} {ns ns' : List Nat} (h : keyN k ns = keyN k' ns') : k = k' ∧ ns = ns' := by
  have h := NestedKey.tup.inj h
  obtain ⟨h1, h2⟩ := List.cons.inj h
  have h1 := NestedKey.num.inj h1
  have h2 := NestedKey.tup.inj (List.cons.inj h2).1
  exact ⟨by omega, numK_inj h2⟩
theorem nums_inj {T : List Tr} {ns : List Nat} {rs us : List Tr} (h : Nums T ns rs) (g : Nums T ns us) : rs = us := by
  unfold Nums at h g
  induction h generalizing us with
  | nil => cases g; rfl
  | cons r t ih =>
    cases g with
    | cons r2 t2 =>
      rw [ih t2]
      rw [r] at r2
      rw [Option.some.inj r2]
theorem nums_ext {T T' : List Tr} {ns : List Nat} {rs : List Tr} (h : Nums T ns rs) (e : Ext T T') : Nums T' ns rs := Paired.imp (fun n t q => e n t q) h
theorem nums_mem {T : List Tr} {ns : List Nat} {rs : List Tr} (h : Nums T ns rs) {n : Nat} (hn : n ∈ ns) : ∃ t, T[n]? = some t := by
  unfold Nums at h
  induction h with
  | nil => cases hn
  | cons r t ih =>
    rcases List.mem_cons.mp hn with rfl | hn
    · exact ⟨_, r⟩
    · exact ih hn
/-- all keys are states of before, at least m steps -/
def Past (is : List Ins) (x : Tr) (T : List Tr) (ks : List NestedKey) (m : Nat) (k : Nat) (rs : List Tr) : Prop := ∀ key ∈ ks, ∃ (k' : Nat) (ns' : List Nat) (rs' : List Tr) (n' m' : Nat), key = keyN k' ns' ∧ Nums T ns' rs' ∧ St is n' 0 (rs0 x) k' rs' ∧ St is (m' + m) k' rs' k rs
def sizeV (T : List Tr) : V → V
  | .int n => .int (((T[n.toNat]?.map fun t => t.sg.length).getD 0 : Nat) : Int)
  | v => v
theorem sizeV_at {T : List Tr} {n : Nat} {t : Tr} (h : T[n]? = some t) : sizeV T (.int n) = .int (t.sg.length : Nat) := by
  show V.int (((T[((n : Nat) : Int).toNat]?.map fun t => t.sg.length).getD 0 : Nat) : Int) = _
  rw [Int.toNat_natCast, h]
  rfl
theorem sizeV_all {T : List Tr} {ns : List Nat} {rs : List Tr} (h : Nums T ns rs) : (natsV ns).map (sizeV T) = (rs.map fun t => (t.sg.length : Int)).map V.int := by
  unfold Nums at h
  induction h with
  | nil => rfl
  | @cons n t _ _ r _ ih =>
    show sizeV T (.int n) :: _ = V.int (t.sg.length : Int) :: _
    rw [sizeV_at r]
    exact congrArg _ ih
theorem NoT.ext {H : Hp} {b : Addr} {φ : Heap → Prop} {as : List Addr} (h : H b = some (.ext φ)) (n : NoT H as) : NoT H (b :: as) := fun c hc => by
  rcases List.mem_cons.mp hc with rfl | hc
  · rw [h]
    exact ⟨fun _ z => (by cases z), fun _ _ z => (by cases z)⟩
  · exact n c hc
end Nx

/-! What programs that know their own code do. -/
namespace Nx
open PySem PySem.Spec PyProof.Rows L2
section
variable {is A B : List Ins} {n m k k1 k2 : Nat} {rs rsA us vs : List Tr} {x y : Tr}
/-- a run to the end passes each of its states -/
theorem St.rest (t : St is m k rs k1 rsA) : ∀ {n : Nat}, St is n k rs is.length us → m ≤ n ∧ St is (n - m) k1 rsA is.length us := by
  induction t with
  | refl k rs => exact fun s => ⟨Nat.zero_le _, s⟩
  | @step m k k1 k' rs rs' i h g e t ih =>
    intro n s
    generalize hL : is.length = L at s
    cases s with
    | refl =>
      subst hL
      rw [List.getElem?_eq_none (Nat.le_refl _)] at h
      cases h
    | @step n _ k3 _ _ _ i2 h2 g2 e2 t2 =>
      subst hL
      rw [h] at h2
      cases h2
      rw [e] at e2
      have : k1 = k3 := by omega
      subst this
      obtain ⟨a, b⟩ := ih t2
      exact ⟨by omega, b.cast (by omega) rfl⟩
theorem St.end0 (s : St is n is.length rs k us) : n = 0 := by
  generalize hL : is.length = L at s
  cases s with
  | refl => rfl
  | step h _ _ _ =>
    subst hL
    rw [List.getElem?_eq_none (Nat.le_refl _)] at h
    cases h
theorem St.times (s : St is (m + 1) k rs k rs) : ∀ N : Nat, St is (N * (m + 1)) k rs k rs
  | 0 => (St.refl k rs).cast (Nat.zero_mul _).symm rfl
  | N + 1 => ((s.times N).trans s).cast (by rw [Nat.add_mul, Nat.one_mul]) rfl
/-- a run that comes back to a state has no end -/
theorem Loops.no (h : Loops is x) : ¬ St is n 0 (rs0 x) is.length us := fun s => by
  obtain ⟨a, m, k, rs, s1, s2⟩ := h
  obtain ⟨h1, h2⟩ := (s1.trans (s2.times (n + 1))).rest s
  have : n + 1 ≤ (n + 1) * (m + 1) := Nat.le_mul_of_pos_right _ (Nat.succ_pos _)
  omega
theorem Loops.none (hJ : JOk is) (h : Loops is x) {d : Nat} {us : List Tr} (e : go is n 0 (rs0 x) = some (is.length, us, d)) : False := h.no (go_st hJ _ _ _ e)
def preP (js : List Ins) : List Ins := [.set 1 (codeT (othP js)), .set 2 p100, .cons 2 2 1, .cons 2 3 2, .cons 1 2 1, .set 2 .leaf]
theorem woc_is (js : List Ins) : wocP js = preP js ++ js := rfl
def rs1 (x c : Tr) : List Tr := x :: c :: List.replicate 18 .leaf
theorem rs1_len (x c : Tr) : (rs1 x c).length = 20 := rfl
theorem p100_is : p100 = .node .leaf .leaf := rfl
theorem codeT_woc (js : List Ins) : codeT (wocP js) = .node (.node .leaf (.node p100 (codeT (othP js)))) (codeT (othP js)) := rfl
theorem pre_run {js : List Ins} (h : (codeT (wocP js)).sg.length ≤ 200000) (x : Tr) : St (preP js) 6 0 (rs0 x) 6 (rs1 x (codeT (wocP js))) := by
  rw [codeT_woc] at h ⊢
  generalize hC : codeT (othP js) = C at h
  have e : preP js = [.set 1 C, .set 2 p100, .cons 2 2 1, .cons 2 3 2, .cons 1 2 1, .set 2 .leaf] := by rw [← hC]; rfl
  rw [e]
  have h1 := node_len (.node .leaf (.node p100 C)) C
  have h2 := node_len .leaf (.node p100 C)
  have h3 := node_len p100 C
  refine .step (i := .set 1 C) rfl rfl (k1 := 1) rfl ?_
  refine .step (i := .set 2 p100) rfl rfl (k1 := 2) rfl ?_
  refine .step (i := .cons 2 2 1) rfl (decide_eq_false (by show ¬ 200000 < (Tr.node p100 C).sg.length; omega)) (k1 := 3) rfl ?_
  refine .step (i := .cons 2 3 2) rfl (decide_eq_false (by show ¬ 200000 < (Tr.node .leaf (.node p100 C)).sg.length; omega)) (k1 := 4) rfl ?_
  refine .step (i := .cons 1 2 1) rfl (decide_eq_false (by show ¬ 200000 < (Tr.node (.node .leaf (.node p100 C)) C).sg.length; omega)) (k1 := 5) rfl ?_
  exact .step (i := .set 2 .leaf) rfl rfl (k1 := 6) rfl (.refl _ _)
theorem woc_run {js : List Ins} (h : (codeT (wocP js)).sg.length ≤ 200000) (s : St js n 0 (rs1 x (codeT (wocP js))) k us) : St (wocP js) (6 + n) 0 (rs0 x) (6 + k) us := by
  rw [woc_is]
  exact ((pre_run h x).left js).trans (s.right (preP js))
theorem woc_back {js : List Ins} (hJ : JOk js) (h : (codeT (wocP js)).sg.length ≤ 200000) (s : St (wocP js) n 0 (rs0 x) (wocP js).length us) : ∃ n', n = 6 + n' ∧ St js n' 0 (rs1 x (codeT (wocP js))) js.length us := by
  obtain ⟨h1, h2⟩ := (woc_run h (.refl 0 _)).rest s
  obtain ⟨k', e, t⟩ := h2.inR (A := preP js) (k := 0) hJ
  have : k' = js.length := by
    have : (wocP js).length = 6 + js.length := by rw [woc_is, List.length_append]; rfl
    have l6 : (preP js).length = 6 := rfl
    omega
  subst this
  exact ⟨n - 6, by omega, t⟩
theorem bes_run {is : List Ins} {c x : Tr} (h : (Tr.node c x).sg.length ≤ 200000) (s : St is n 0 (rs0 (.node c x)) k us) : St (besP is) (2 + n) 0 (rs1 x c) (2 + k) us := by
  have e : besP is = [.cons 0 1 0, .set 1 .leaf] ++ is := rfl
  rw [e]
  refine St.trans (n := 2) (St.left ?_ is) (s.right [.cons 0 1 0, .set 1 .leaf])
  refine .step (i := .cons 0 1 0) rfl (decide_eq_false (by show ¬ 200000 < (Tr.node c x).sg.length; omega)) (k1 := 1) rfl ?_
  exact .step (i := .set 1 .leaf) rfl rfl (k1 := 2) rfl (.refl _ _)
theorem bes_back {is : List Ins} (hJ : JOk is) {c x : Tr} (h : (Tr.node c x).sg.length ≤ 200000) (s : St (besP is) n 0 (rs1 x c) (besP is).length us) : ∃ n', n = 2 + n' ∧ St is n' 0 (rs0 (.node c x)) is.length us := by
  obtain ⟨h1, h2⟩ := (bes_run h (.refl 0 _)).rest s
  have e : besP is = [.cons 0 1 0, .set 1 .leaf] ++ is := rfl
  rw [e] at h2
  obtain ⟨k', e2, t⟩ := h2.inR (A := [.cons 0 1 0, .set 1 .leaf]) (k := 0) hJ
  have : k' = is.length := by
    have l2 : ([.cons 0 1 0, .set 1 .leaf] : List Ins).length = 2 := rfl
    rw [List.length_append] at e2
    omega
  subst this
  exact ⟨n - 2, by omega, t⟩
/-- the program that knows its own code -/
abbrev knP (is : List Ins) : List Ins := wocP (besP is)
theorem kn_st {is : List Ins} (h : (codeT (knP is)).sg.length ≤ 200000) (h2 : (Tr.node (codeT (knP is)) x).sg.length ≤ 200000) (s : St is n 0 (rs0 (.node (codeT (knP is)) x)) k us) : St (knP is) (8 + n) 0 (rs0 x) (8 + k) us :=
  (woc_run h (bes_run h2 s)).cast (by omega) (by omega)
theorem knP_len (is : List Ins) : (knP is).length = 8 + is.length := by
  show is.length + 8 = _
  omega
theorem kn_ret {is : List Ins} (h : (codeT (knP is)).sg.length ≤ 200000) (h2 : (Tr.node (codeT (knP is)) x).sg.length ≤ 200000) (r : Ret is n (.node (codeT (knP is)) x) y) : Ret (knP is) (8 + n) x y := by
  obtain ⟨us, s, e⟩ := r
  exact ⟨us, (kn_st h h2 s).cast rfl (knP_len is).symm, e⟩
theorem kn_loops {is : List Ins} (h : (codeT (knP is)).sg.length ≤ 200000) (h2 : (Tr.node (codeT (knP is)) x).sg.length ≤ 200000) (r : Loops is (.node (codeT (knP is)) x)) : Loops (knP is) x := by
  obtain ⟨a, m, k, rs, s1, s2⟩ := r
  have e : knP is = (preP (besP is) ++ [.cons 0 1 0, .set 1 .leaf]) ++ is := rfl
  refine ⟨8 + a, m, 8 + k, rs, kn_st h h2 s1, ?_⟩
  have := s2.right (preP (besP is) ++ [.cons 0 1 0, .set 1 .leaf])
  rw [← e] at this
  exact this
/-! ### they are programs -/
theorem PgOk.flat {w t : Nat} {is : List Ins} (h : ∀ i ∈ is, i.isJ = false ∧ i.ok w t 0 0) : PgOk w t is := fun j x hx => by
  obtain ⟨h1, h2⟩ := h x (List.mem_of_getElem? hx)
  cases x with
  | jump a m => cases h1
  | _ => exact h2
theorem pairs_le2 (t : Tr) : t.pairs ≤ t.sg.length := by
  have := t.sg_len
  omega
theorem pre_ok {js : List Ins} (h : (codeT (othP js)).sg.length ≤ 200000) : PgOk 4 200000 (preP js) := PgOk.flat fun i hi => by
  simp only [preP, List.mem_cons, List.not_mem_nil, or_false] at hi
  rcases hi with rfl | rfl | rfl | rfl | rfl | rfl
  · exact ⟨rfl, by decide, Nat.le_trans (pairs_le2 _) h⟩
  · exact ⟨rfl, by decide, by decide⟩
  · exact ⟨rfl, by decide, by decide, by decide⟩
  · exact ⟨rfl, by decide, by decide, by decide⟩
  · exact ⟨rfl, by decide, by decide, by decide⟩
  · exact ⟨rfl, by decide, by decide⟩
theorem woc_ok {js : List Ins} {w : Nat} (hw : 4 ≤ w) (h : (codeT (othP js)).sg.length ≤ 200000) (hj : PgOk w 200000 js) : PgOk w 200000 (wocP js) := by
  rw [woc_is]
  exact (PgOk.wide (pre_ok h) hw).app hj
theorem bes_ok {is : List Ins} {w : Nat} (hw : 2 ≤ w) (h : PgOk w 200000 is) : PgOk w 200000 (besP is) :=
  PgOk.app (a := [.cons 0 1 0, .set 1 .leaf]) (PgOk.wide (w := 2) (PgOk.flat fun i hi => by
    simp only [List.mem_cons, List.not_mem_nil, or_false] at hi
    rcases hi with rfl | rfl
    · exact ⟨rfl, by decide, by decide, by decide⟩
    · exact ⟨rfl, by decide, by decide⟩) hw) h
theorem kn_ok {is : List Ins} {w t : Nat} (hw : 4 ≤ w) (ht : t ≤ 200000) (g : GoodW (besP is)) (h : PgOk w t is) : PgOk w 200000 (knP is) := woc_ok hw g.oth (bes_ok (by omega) (PgOk.more h ht))
theorem ok_bel {is : List Ins} {w t : Nat} (h : PgOk w t is) : ∀ i ∈ is, i.below w := fun i hi => by
  obtain ⟨j, hj⟩ := List.getElem?_of_mem hi
  exact Ins.ok_below (h j i hj)
theorem below_up {i : Ins} {v w : Nat} (h : i.below v) (e : v ≤ w) : i.below w := fun r hr => Nat.lt_of_lt_of_le (h r hr) e
theorem kn_wid (is : List Ins) {w : Nat} (h4 : 4 ≤ w) (hw : wid is ≤ w) : wid (knP is) ≤ w := by
  refine (wid_below (by omega)).mpr fun i hi => ?_
  have e : knP is = preP (besP is) ++ ([.cons 0 1 0, .set 1 .leaf] ++ is) := rfl
  rw [e] at hi
  have small : ∀ (j : Ins), j.below 4 → j.below w := fun j h => below_up h h4
  have dec : ∀ (j : Ins), (∀ r ∈ j.regs, r < 4) → j.below 4 := fun j h => h
  rcases List.mem_append.mp hi with hi | hi
  · simp only [preP, List.mem_cons, List.not_mem_nil, or_false] at hi
    rcases hi with rfl | rfl | rfl | rfl | rfl | rfl <;> exact small _ (dec _ (by simp [Ins.regs]))
  · rcases List.mem_append.mp hi with hi | hi
    · simp only [List.mem_cons, List.not_mem_nil, or_false] at hi
      rcases hi with rfl | rfl <;> exact small _ (dec _ (by simp [Ins.regs]))
    · exact below_up (wid_bel is i hi) hw
/-- sizes of what is not drawn too large -/
theorem woc_big {js : List Ins} {b : Nat} (h : (codeT (othP js)).sg.length ≤ b) (hb : 3 ≤ b) (hj : ∀ i ∈ js, i.big ≤ b) : ∀ i ∈ wocP js, i.big ≤ b := fun i hi => by
  rw [woc_is] at hi
  rcases List.mem_append.mp hi with hi | hi
  · simp only [preP, List.mem_cons, List.not_mem_nil, or_false] at hi
    rcases hi with rfl | rfl | rfl | rfl | rfl | rfl
    · exact h
    · exact hb
    · exact Nat.zero_le _
    · exact Nat.zero_le _
    · exact Nat.zero_le _
    · exact Nat.le_trans (by decide : Tr.leaf.sg.length ≤ 3) hb
  · exact hj i hi
theorem bes_bigs {is : List Ins} {b : Nat} (hb : 1 ≤ b) (hj : ∀ i ∈ is, i.big ≤ b) : ∀ i ∈ besP is, i.big ≤ b := fun i hi => by
  rcases List.mem_cons.mp hi with rfl | hi
  · exact Nat.zero_le _
  · rcases List.mem_cons.mp hi with rfl | hi
    · exact hb
    · exact hj i hi
/-- sizes of the codes -/
theorem codeT_wocs (js : List Ins) : (codeT (wocP js)).sg.length = 2 * sumC js + 189 := by
  rw [codeT_woc, node_len, node_len, node_len, codeT_sum, sumC_oth]
  have h1 : Tr.leaf.sg.length = 1 := rfl
  have h2 : p100.sg.length = 3 := rfl
  omega
theorem codeT_oths (js : List Ins) : (codeT (othP js)).sg.length = sumC js + 91 := by
  rw [codeT_sum, sumC_oth]
  omega
theorem bigSum_app (a b : List Ins) : bigSum (a ++ b) = bigSum a + bigSum b := by
  unfold bigSum
  rw [List.map_append, List.sum_append]
theorem bigSum_woc (js : List Ins) : bigSum (wocP js) ≤ sumC js + 200 + bigSum js := by
  have e : wocP js = preP js ++ js := rfl
  have h1 : bigSum (preP js) = (codeT (othP js)).sg.length + 4 := by
    show (codeT (othP js)).sg.length + (3 + (0 + (0 + (0 + (1 + 0))))) = _
    omega
  rw [e, bigSum_app, h1, codeT_oths]
  omega
theorem bigSum_bes (is : List Ins) : bigSum (besP is) = 1 + bigSum is := by
  show 0 + (1 + bigSum is) = _
  omega
end
/-! ### what the law's own run answers -/
def RunV (H : Hp) (T : List Tr) (is : List Ins) (x : Tr) (N : Nat) (v : V) : Prop := (v = .str "large" ∧ go is N 0 (rs0 x) = none) ∨ (v = .non ∧ ∃ k' rs' d, go is N 0 (rs0 x) = some (k', rs', d) ∧ k' < is.length) ∨
  ∃ (n d : Nat) (q : Addr) (rs' : List Tr), v = .ref q ∧ H q = some (.tup [.int n, .int d]) ∧ go is N 0 (rs0 x) = some (is.length, rs', d) ∧ T[n]? = some (reg rs' 0)
section
variable {H H' : Hp} {T T' : List Tr} {is : List Ins} {x : Tr} {N : Nat} {v : V} {W Ah At As Ap st : Addr}
theorem runV_mk {Q : VK} (h : ∀ (v : V) (T' : List Tr) (H' : Hp), RunV H' T' is x N v → Ext T T' → T'.length ≤ T.length + bigSum is + N → ButL (wL Ah At As Ap) H H' → WAt H' W Ah At As Ap T' → Q v H') :
    (∀ (k' d : Nat) (rs' : List Tr), go is N 0 (rs0 x) = some (k', rs', d) → ∀ (T' : List Tr) H', Ext T T' → T'.length ≤ T.length + bigSum is + N → ButL (wL Ah At As Ap) H H' → WAt H' W Ah At As Ap T' → (k' < is.length → Q .non H') ∧ (k' = is.length → ∀ (n : Nat) (q : Addr), T'[n]? = some (reg rs' 0) → H' q = some (.tup [.int n, .int d]) → Q (.ref q) H')) ∧
  (go is N 0 (rs0 x) = none → ∀ (T' : List Tr) H', Ext T T' → T'.length ≤ T.length + bigSum is + N → ButL (wL Ah At As Ap) H H' → WAt H' W Ah At As Ap T' → Q (.str "large") H') :=
  ⟨fun k' d rs' hgo T' H' e l b w => ⟨fun c => h _ T' H' (.inr (.inl ⟨rfl, k', rs', d, hgo, c⟩)) e l b w, fun c n q hn hq => h _ T' H' (.inr (.inr ⟨n, d, q, rs', rfl, hq, by rw [← c]; exact hgo, hn⟩)) e l b w⟩, fun hgo T' H' e l b w => h _ T' H' (.inl ⟨rfl, hgo⟩) e l b w⟩
theorem RunV.mono (h : RunV H T is x N v) (e : Ext T T') (k : ∀ q xs, H q = some (.tup xs) → H' q = some (.tup xs)) : RunV H' T' is x N v := by
  rcases h with h | h | ⟨n, d, q, rs', h1, h2, h3, h4⟩
  · exact .inl h
  · exact .inr (.inl h)
  · exact .inr (.inr ⟨n, d, q, rs', h1, k _ _ h2, h3, e _ _ h4⟩)
theorem RunV.wld (h : RunV H T is x N v) (w : WAt H W Ah At As Ap T) (e : Ext T T') (b : ButL (wL Ah At As Ap) H H') : RunV H' T' is x N v := h.mono e fun q _ hq => b q _ (not4 (w.tup hq)) hq
theorem RunV.same (h : RunV H T is x N v) (e : Same H H') : RunV H' T is x N v := h.mono (Ext.refl T) fun q _ hq => e q _ hq
theorem RunV.exs (h : RunV H T is x N v) (s : Strm H st) (e : ExS st H H') : RunV H' T is x N v := h.mono (Ext.refl T) fun q xs hq => e.k q _ (fun z => by
  obtain ⟨l, ns, c, i, m, h1, _⟩ := s
  rw [z, h1] at hq
  cases hq) hq
theorem dp_two {K : PySem.W.Frag} {u : Addr} {a b : Int} (h : H u = some (.tup [.int a, .int b])) : Dp K H (.ref u) (.tuple [.int a, .int b]) := .tup (SqT.of h) (.cons (.int _) (.cons (.int _) .nil))
theorem sh_two (a b : Int) : SeqAt.shaped (.tuple [.int a, .int b]) = true := rfl
theorem eq_large : PyData.eqv (.str "large") (.str "large") = true := by decide +kernel
theorem sh_large : SeqAt.shaped (.str "large") = true := by decide +kernel
theorem pg_copyK {K : PySem.W.Frag} {p g : Addr} {xs : List V} (h : PgK K H p is) (hp : H p = some (.lst xs)) (ng : H g = none) : PgK K (upd H g (.lst xs)) g is := by
  obtain ⟨as, h1, h2⟩ := h
  rw [hp] at h1
  have e := HO.lst.inj (Option.some.inj h1)
  subst e
  exact ⟨as, upd_same, Paired.imp (fun _ _ q => Same.seqT (Same.upd ng) q) h2⟩
theorem pg_copyA {p g : Addr} {xs : List V} (h : PgAt H p is) (hp : H p = some (.lst xs)) (ng : H g = none) : PgAt (upd H g (.lst xs)) g is := by
  obtain ⟨as, h1, h2⟩ := h
  rw [hp] at h1
  have e := HO.lst.inj (Option.some.inj h1)
  subst e
  exact ⟨as, upd_same, Rows.same (Same.upd ng) h2⟩
/-- a list of rows of other text -/
theorem PgK.re {K : PySem.W.Frag} {p q : Addr} {xs : List V} (h : PgK K H p is) (hp : H p = some (.lst xs)) (hq : H' q = some (.lst xs)) (k : ∀ a ys, SqT K H a ys → SqT K H' a ys) : PgK K H' q is := by
  obtain ⟨as, h1, h2⟩ := h
  rw [hp] at h1
  have e := HO.lst.inj (Option.some.inj h1)
  subst e
  exact ⟨as, hq, Paired.imp (fun _ _ q => k _ _ q) h2⟩
end
section
variable {H : Hp} {T : List Tr} {is : List Ins} {x y : Tr} {n d N : Nat} {v : V}
theorem Loops.go (h : Loops is x) (N : Nat) : ∃ k2 rs2, Nx.go is N 0 (rs0 x) = some (k2, rs2, N) ∧ k2 < is.length := by
  obtain ⟨a, m, k, rs, s1, s2⟩ := h
  have hk : k < is.length := by
    cases s2 with
    | step h _ _ _ => exact (List.getElem?_eq_some_iff.mp h).1
  refine (s1.trans (s2.times N)).rn.pre hk ?_
  have : N ≤ N * (m + 1) := Nat.le_mul_of_pos_right _ (Nat.succ_pos _)
  omega
theorem RunV.of_loops (h : RunV H T is x N v) (l : Loops is x) : v = .non := by
  obtain ⟨k2, rs2, g1, g2⟩ := l.go N
  rcases h with ⟨_, z⟩ | ⟨e, _⟩ | ⟨n, d, q, rs', _, _, z, _⟩
  · rw [g1] at z; cases z
  · exact e
  · rw [g1] at z
    cases z
    omega
theorem RunV.of_ret (h : RunV H T is x N v) (r : Ret is d x y) (hd : d ≤ N) : ∃ (n : Nat) (q : Addr), v = .ref q ∧ H q = some (.tup [.int n, .int d]) ∧ T[n]? = some y := by
  obtain ⟨us, g1, g2⟩ := r.go hd
  rcases h with ⟨_, z⟩ | ⟨_, k', rs', d', z, hk⟩ | ⟨n, d', q, rs', h1, h2, z, h4⟩
  · rw [g1] at z; cases z
  · rw [g1] at z
    cases z
    omega
  · rw [g1] at z
    cases z
    exact ⟨n, q, h1, h2, by rw [h4, g2]⟩
theorem RunV.cases (h : RunV H T is x N v) (hJ : JOk is) : v = .str "large" ∨ v = .non ∨ ∃ (n d : Nat) (q : Addr) (y : Tr), v = .ref q ∧ H q = some (.tup [.int n, .int d]) ∧ T[n]? = some y ∧ Ret is d x y ∧ d ≤ N := by
  rcases h with ⟨e, _⟩ | ⟨e, _⟩ | ⟨n, d, q, rs', h1, h2, z, h4⟩
  · exact .inl e
  · exact .inr (.inl e)
  · exact .inr (.inr ⟨n, d, q, _, h1, h2, h4, Ret.of_go hJ z, (go_more N 0 _ z).1⟩)
theorem Loops.ret (l : Loops is x) (r : Ret is d x y) : False := by
  obtain ⟨us, s, _⟩ := r
  exact l.no s
/-! ### liars -/
def liP (is : List Ins) : List Ins := is ++ [.jump 0 0]
theorem liP_len (is : List Ins) : (liP is).length = is.length + 1 := by
  unfold liP
  rw [List.length_append]
  rfl
theorem li_at (is : List Ins) : (liP is)[is.length]? = some (.jump 0 0) := by
  unfold liP
  rw [List.getElem?_append_right (Nat.le_refl _), Nat.sub_self]
  rfl
theorem li_leaf (r : Ret is n x .leaf) : Ret (liP is) (n + 1) x .leaf := by
  obtain ⟨us, s, e⟩ := r
  refine ⟨us, ((s.left [.jump 0 0]).trans (.step (li_at is) rfl (k1 := is.length + 1) ?_ (.refl _ _))).cast rfl (liP_len is).symm, e⟩
  show (if reg us 0 = .leaf then (is.length : Int) + 1 else _) = _
  rw [if_pos e]
  rfl
theorem li_pair (r : Ret is n x y) (h : y ≠ .leaf) : Loops (liP is) x := by
  obtain ⟨us, s, e⟩ := r
  refine ⟨n, 0, is.length, us, s.left [.jump 0 0], .step (li_at is) rfl (k1 := is.length) ?_ (.refl _ _)⟩
  show (if reg us 0 = .leaf then _ else (is.length : Int) + 0) = _
  rw [if_neg (by rw [e]; exact h)]
  omega
theorem li_loops (r : Loops is x) : Loops (liP is) x := by
  obtain ⟨a, m, k, rs, s1, s2⟩ := r
  exact ⟨a, m, k, rs, s1.left _, s2.left _⟩
theorem li_ok {w t : Nat} (hw : 0 < w) (h : PgOk w t is) : PgOk w t (liP is) := h.app fun j i hi => by
  match j, hi with
  | 0, hi =>
    cases hi
    exact ⟨hw, by decide, by decide⟩
  | j + 1, hi => cases hi
theorem li_wid (is : List Ins) : wid (liP is) = wid is := by
  have h1 : wid (liP is) ≤ wid is := (wid_below (wid_pos is)).mpr fun i hi => by
    rcases List.mem_append.mp hi with hi | hi
    · exact wid_bel is i hi
    · rw [List.mem_singleton.mp hi]
      intro r hr
      have h0 := wid_pos is
      have : r = 0 := by simpa [Ins.regs] using hr
      omega
  have h2 : wid is ≤ wid (liP is) := (wid_below (wid_pos _)).mpr fun i hi => wid_bel (liP is) i (List.mem_append_left _ hi)
  omega
theorem sumC_li (is : List Ins) : sumC (liP is) ≤ sumC is + 20 := by
  unfold liP
  rw [sumC_app]
  have h : sumC [Ins.jump 0 0] ≤ 20 := by decide
  omega
end
end Nx

/-! Numbers' texts. -/
namespace Nx
open PySem PySem.Spec PyProof.Rows L2
/-- a number's signs -/
def numS (n : Nat) : List Nat := TL.numL n
theorem numS_str (n : Nat) : Str.ofString (toString ((n : Nat) : Int)) = stS (numS n) := by
  have h := TL.tl_num n
  rw [← stS_of (Str.ofString (toString ((n : Nat) : Int)))]
  exact congrArg stS h
/-- str(x) of a text or an integer -/
theorem cr_str2 {X : Cx} : CallR X (.type "str") (fun xs H Q => (∃ a, xs = [.str a] ∧ Q (.str a) H) ∨ ∃ i : Int, xs = [.int i] ∧ i.natAbs.log2 < 1920 ∧ Q (.str (toString i)) H) := by
  intro pn s1 σ1 H1 ws us1 Q1 I1 r1 h1
  rcases h1 with h1 | h1
  · exact SkE.call_str_str pn s1 σ1 H1 ws us1 Q1 I1 r1 h1
  · exact call_str_int pn s1 σ1 H1 ws us1 Q1 I1 r1 h1
theorem numS_len {n : Nat} (h : n ≤ 1000000) : (numS n).length ≤ 7 := TL.numL_len (by decide) (by omega)
theorem numS_32 (n : Nat) : 32 ∉ numS n := TL.numL_free (.inl (by decide))
theorem log_small {n : Nat} (h : n ≤ 1000000) : ((n : Int)).natAbs.log2 < 1920 := by
  show n.log2 < 1920
  by_cases c : n = 0
  · subst c
    decide
  · exact (Nat.log2_lt c).mpr (Nat.lt_of_le_of_lt h (Nat.lt_of_lt_of_le (show 1000000 < 2 ^ 20 by decide) (Nat.pow_le_pow_right (by decide) (by decide))))
theorem dec_58 : ∀ c : Nat, c < 58 → 48 ≤ c → Unicode.isDecimal c = true := by decide +kernel
theorem numS_dec (n : Nat) : Txt.isdecimal (stS (numS n)) = true := by
  unfold Txt.isdecimal
  rw [Bool.and_eq_true]
  constructor
  · rw [stS_len]
    exact decide_eq_true (List.length_pos_iff.mpr (TL.numL_ne n))
  · rw [Array.all_eq_true']
    intro c hc
    have hd := TL.numL_digits n c (List.mem_toArray.mp hc)
    exact dec_58 c (by omega) hd.1
theorem numS_int {n : Nat} (h : n ≤ 1000000) : intText? (stS (numS n)) = some (n : Int) := by
  rw [← numS_str]
  exact TL.int_num (Nat.le_trans (numS_len h) (by decide))
/-- join within a comprehension -/
def tJoinK (K : PySem.W.Frag) (to te : TE) : TE := tM1 (fun x xs H Q => ∃ a p, ∃ ys : List Str, x = .str a ∧ xs = [.ref p] ∧ (SqL K H p (ys.map V.str) ∨ SqT K H p (ys.map V.str)) ∧ (ys.map (·.length)).sum + ys.length * a.length ≤ 16777216 ∧ Q (.str (Txt.join a ys)) H) to te
theorem pe_joinK {X : Cx} {K : PySem.W.Frag} {o e : Expr} {to te : TE} {apos pos : Pos} (hK : X.K = K) (ho : PE X o to) (he : PE X e te) (hs : starEach [e] X.env = [(false, eval e X.env)] := by rfl) (hbase : attributeBase o "join" X.env (eval o X.env) = eval o X.env := by rfl) (hline : (apos.endLine == pos.line) = true := by rfl) :
    PE X (.Call (.Attribute o "join" apos) [e] [] pos) (tJoinK K to te) := by
  subst hK
  exact pe_join ho he hs hbase hline
/-- a comprehension within a comprehension, the outer one without free names -/
theorem blkOk_in {N : List Str} {sc scope : Scope} {env : Env} {own : List (Str × Nat)} (h0 : (sc.names.all fun p => p.2 != .free) = true) (h : blkC N sc scope own = true) : BlkOk N (relabel sc env) scope own := by
  have e : relabel sc env = sc := by
    have : ∀ l : List (Str × NameKind), (l.all fun p => p.2 != .free) = true → (l.map fun (n, k) => if (k == .free && env.scope.kind == .function && env.kindOf n == some .cell) then (n, .cell) else (n, k)) = l := fun l => by
      induction l with
      | nil => exact fun _ => rfl
      | cons p r ih =>
        obtain ⟨n, k⟩ := p
        intro h
        rw [List.all_cons, Bool.and_eq_true] at h
        rw [List.map_cons, ih h.2]
        have h1 : (k == NameKind.free) = false := by
          have := h.1
          rw [bne, Bool.not_eq_true'] at this
          exact this
        show (if (k == NameKind.free && env.scope.kind == .function && env.kindOf n == some .cell) then (n, NameKind.cell) else (n, k)) :: r = _
        rw [h1]
        rfl
    unfold relabel
    rw [this _ h0]
  rw [e]
  exact blkOk_by h
end Nx

/-! Claims: their parts as data, their words. -/
namespace Nx
open PySem PySem.Spec PyProof.Rows L2
inductive Prt where
  | pg (is : List Ins)
  | tr (u : Tr)
  | nm (k : Nat)
  | ls (iss : List (List Ins))
  | il (ts : List Tr)
def Prt.kind : Prt → Nat
  | .pg _ => 112
  | .tr _ => 116
  | .nm _ => 110
  | .ls _ => 114
  | .il _ => 105
def Prt.d : Prt → PyData
  | .pg is => progD is
  | .tr u => .str u.str
  | .nm k => .int k
  | .ls iss => progsD iss
  | .il ts => .list (ts.map fun t => .str t.str)
def Prt.words : Prt → List (List Nat)
  | .pg is => [(codeT is).sg]
  | .tr u => [u.sg]
  | .nm k => [numS k]
  | .ls iss => numS iss.length :: iss.map fun is => (codeT is).sg
  | .il ts => numS ts.length :: ts.map Tr.sg
/-- a program as a part -/
def prgOk (is : List Ins) : Prop := progOk (progD is) = true ∧ is.length ≤ 8 ∧ (∀ i ∈ is, i.small) ∧ (codeT is).sg.length ≤ 60000 ∧ bigSum is ≤ 1000
def Prt.ok : Prt → Prop
  | .pg is => prgOk is
  | .tr u => u.pairs ≤ 5
  | .nm k => k ≤ 1000000
  | .ls iss => 1 ≤ iss.length ∧ iss.length ≤ 8 ∧ ∀ is ∈ iss, prgOk is
  | .il ts => ts.length ≤ 20 ∧ ∀ t ∈ ts, t.pairs ≤ 5
def formsL : List (Str × Str) := [(Str.ofString "returns", Str.ofString "pttn"), (Str.ofString "lasts", Str.ofString "ptn"), (Str.ofString "never", Str.ofString "ptnn"), (Str.ofString "agree", Str.ofString "ppin"), (Str.ofString "knows", Str.ofString "pp"), (Str.ofString "fixed", Str.ofString "pp"), (Str.ofString "together", Str.ofString "rr"), (Str.ofString "defeats", Str.ofString "pppptn"), (Str.ofString "lies", Str.ofString "ppttn")]
def Prt.deep : Prt → Nat
  | .pg _ => 1
  | .tr _ => 1
  | .nm _ => 1
  | .ls _ => 2
  | .il _ => 2
theorem Prt.deep_pos (x : Prt) : 1 ≤ x.deep ∧ x.deep ≤ 2 := by cases x <;> simp [Prt.deep]
inductive PrtAt (H : Hp) : V → Prt → Prop where
  | pg {a : Addr} {is : List Ins} : PgAt H a is → PrtAt H (.ref a) (.pg is)
  | tr {u : Tr} : PrtAt H (.str u.str) (.tr u)
  | nm {k : Nat} : PrtAt H (.int (k : Nat)) (.nm k)
  | ls {a : Addr} {as : List Addr} {iss : List (List Ins)} : H a = some (.lst (as.map V.ref)) → Paired (fun a is => PgAt H a is) as iss → PrtAt H (.ref a) (.ls iss)
  | il {a : Addr} {ts : List Tr} : H a = some (.lst (ts.map fun t => V.str t.str)) → PrtAt H (.ref a) (.il ts)
section
variable {K : PySem.W.Frag} {H H' : Hp} {v : V} {x : Prt}
theorem PrtAt.same (h : PrtAt H v x) (e : Same H H') : PrtAt H' v x := by
  cases h with
  | pg h => exact .pg (h.same e)
  | tr => exact .tr
  | nm => exact .nm
  | ls h1 h2 => exact .ls (e _ _ h1) (Paired.imp (fun _ _ q => q.same e) h2)
  | il h1 => exact .il (e _ _ h1)
theorem dpAll_mk {α β : Type} {f : α → V} {g : β → PyData} {F : α → β → Prop} (h : ∀ a b, F a b → Dp K H (f a) (g b)) : ∀ {l : List α} {m : List β}, Paired F l m → DpAll K H (l.map f) (m.map g)
  | _, _, .nil => .nil
  | _, _, .cons r t => .cons (h _ _ r) (dpAll_mk h t)
theorem PrtAt.dp (h : PrtAt H v x) : Dp K H v x.d := by
  cases h with
  | pg h => exact PgAt.dp h
  | tr => exact Dp.str _
  | nm => exact Dp.int _
  | ls h1 h2 => exact Dp.lst (SqL.of h1) (dpAll_mk (fun _ _ q => PgAt.dp q) h2)
  | @il a ts h1 =>
    refine Dp.lst (SqL.of h1) ?_
    clear h1
    induction ts with
    | nil => exact DpAll.nil
    | cons t r ih => exact DpAll.cons (.str _) ih
end
/-- a claim's parts -/
def PrtsAt (H : Hp) (vs : List V) (ps : List Prt) : Prop := Paired (fun v x => PrtAt H v x) vs ps
theorem PrtsAt.same {H H' : Hp} {vs : List V} {ps : List Prt} (h : PrtsAt H vs ps) (e : Same H H') : PrtsAt H' vs ps := Paired.imp (fun _ _ q => q.same e) h
theorem PrtsAt.dp {K : PySem.W.Frag} {H : Hp} : ∀ {vs : List V} {ps : List Prt}, PrtsAt H vs ps → DpAll K H vs (ps.map Prt.d)
  | _, _, .nil => .nil
  | _, _, .cons r t => .cons (PrtAt.dp r) (PrtsAt.dp t)
def claimOf (w : Str) (ps : List Prt) : PyData := .tuple (.str w :: ps.map Prt.d)
def ClmAt (H : Hp) (p : Addr) (w : Str) (ps : List Prt) : Prop := ∃ vs, H p = some (.tup (.str w :: vs)) ∧ PrtsAt H vs ps
theorem ClmAt.same {H H' : Hp} {p : Addr} {w : Str} {ps : List Prt} (h : ClmAt H p w ps) (e : Same H H') : ClmAt H' p w ps := by
  obtain ⟨vs, h1, h2⟩ := h
  exact ⟨vs, e _ _ h1, h2.same e⟩
theorem ClmAt.dp {K : PySem.W.Frag} {H : Hp} {p : Addr} {w : Str} {ps : List Prt} (h : ClmAt H p w ps) : Dp K H (.ref p) (claimOf w ps) := by
  obtain ⟨vs, h1, h2⟩ := h
  exact .tup (SqT.of h1) (.cons (.str _) h2.dp)
def wordsOf (w : Str) (ps : List Prt) : List Str := w :: (ps.flatMap Prt.words).map stS
def lineOf (w : Str) (ps : List Prt) : Str := Txt.join (Str.ofString " ") (wordsOf w ps)
theorem words_one {y : Prt} (h : y.deep = 1) : ∃ z, y.words = [z] := by
  cases y with
  | pg is => exact ⟨_, rfl⟩
  | tr u => exact ⟨_, rfl⟩
  | nm k => exact ⟨_, rfl⟩
  | ls iss => cases h
  | il ts => cases h
/-- a list among the parts, by its items -/
def Prt.items : Prt → List Prt
  | .ls iss => iss.map .pg
  | .il ts => ts.map .tr
  | _ => []
def Prt.inner : Prt → Nat
  | .ls _ => 112
  | _ => 116
theorem items_words {x : Prt} (h : x.deep = 2) : x.words = numS x.items.length :: x.items.flatMap Prt.words := by
  cases x with
  | pg is => cases h
  | tr u => cases h
  | nm k => cases h
  | ls iss =>
    show numS iss.length :: iss.map _ = numS (iss.map Prt.pg).length :: (iss.map Prt.pg).flatMap Prt.words
    rw [List.length_map, List.flatMap_map]
    congr 1
    clear h
    induction iss with
    | nil => rfl
    | cons t r ih =>
      rw [List.map_cons, List.flatMap_cons, ih]
      rfl
  | il ts =>
    show numS ts.length :: ts.map _ = numS (ts.map Prt.tr).length :: (ts.map Prt.tr).flatMap Prt.words
    rw [List.length_map, List.flatMap_map]
    congr 1
    clear h
    induction ts with
    | nil => rfl
    | cons t r ih =>
      rw [List.map_cons, List.flatMap_cons, ih]
      rfl
theorem items_ok {x : Prt} (h : x.deep = 2) (hok : x.ok) : (∀ y ∈ x.items, y.ok ∧ y.deep = 1 ∧ y.kind = x.inner) ∧ x.items.length ≤ 20 := by
  cases x with
  | pg is => cases h
  | tr u => cases h
  | nm k => cases h
  | ls iss =>
    obtain ⟨h1, h2, h3⟩ := (show 1 ≤ iss.length ∧ iss.length ≤ 8 ∧ ∀ is ∈ iss, prgOk is from hok)
    refine ⟨fun y hy => ?_, by show (iss.map Prt.pg).length ≤ 20; rw [List.length_map]; omega⟩
    obtain ⟨is, hi, rfl⟩ := List.mem_map.mp hy
    exact ⟨h3 is hi, rfl, rfl⟩
  | il ts =>
    obtain ⟨h1, h2⟩ := (show ts.length ≤ 20 ∧ ∀ t ∈ ts, t.pairs ≤ 5 from hok)
    refine ⟨fun y hy => ?_, by show (ts.map Prt.tr).length ≤ 20; rw [List.length_map]; omega⟩
    obtain ⟨t, hi, rfl⟩ := List.mem_map.mp hy
    exact ⟨h2 t hi, rfl, rfl⟩
theorem PrtAt.lst {H : Hp} {v : V} {x : Prt} (h : PrtAt H v x) (hd : x.deep = 2) : ∃ (a : Addr) (xs : List V), v = .ref a ∧ H a = some (.lst xs) ∧ PrtsAt H xs x.items := by
  cases h with
  | pg h => cases hd
  | tr => cases hd
  | nm => cases hd
  | @ls a as iss h1 h2 =>
    refine ⟨a, _, rfl, h1, ?_⟩
    show Paired _ (as.map V.ref) (iss.map Prt.pg)
    clear h1 hd
    induction h2 with
    | nil => exact .nil
    | cons r t ih => exact .cons (.pg r) ih
  | @il a ts h1 =>
    refine ⟨a, _, rfl, h1, ?_⟩
    show Paired _ (ts.map _) (ts.map Prt.tr)
    clear h1 hd
    induction ts with
    | nil => exact .nil
    | cons t r ih => exact .cons .tr ih
theorem PrtAt.of_lst {H : Hp} {a : Addr} {xs : List V} {x : Prt} (hd : x.deep = 2) (h1 : H a = some (.lst xs)) (h2 : PrtsAt H xs x.items) : PrtAt H (.ref a) x := by
  cases x with
  | pg is => cases hd
  | tr u => cases hd
  | nm k => cases hd
  | ls iss =>
    have : ∀ (iss : List (List Ins)) (xs : List V), PrtsAt H xs (iss.map Prt.pg) → ∃ as : List Addr, xs = as.map V.ref ∧ Paired (fun a is => PgAt H a is) as iss := fun iss => by
      induction iss with
      | nil =>
        intro xs h
        cases h
        exact ⟨[], rfl, .nil⟩
      | cons is r ih =>
        intro xs h
        cases h with
        | cons q t =>
          obtain ⟨as, rfl, h3⟩ := ih _ t
          cases q with
          | @pg a _ q => exact ⟨a :: as, rfl, .cons q h3⟩
    obtain ⟨as, rfl, h3⟩ := this iss xs h2
    exact .ls h1 h3
  | il ts =>
    have : ∀ (ts : List Tr) (xs : List V), PrtsAt H xs (ts.map Prt.tr) → xs = ts.map fun t => V.str t.str := fun ts => by
      induction ts with
      | nil =>
        intro xs h
        cases h
        rfl
      | cons t r ih =>
        intro xs h
        cases h with
        | cons q t =>
          cases q
          rw [ih _ t]
          rfl
    rw [this ts xs h2] at h1
    exact .il h1
theorem words_len : ∀ ys : List Prt, (∀ y ∈ ys, y.deep = 1) → (ys.flatMap Prt.words).length = ys.length
  | [], _ => rfl
  | y :: ys, h => by
    obtain ⟨z, hz⟩ := words_one (h y (List.mem_cons_self ..))
    rw [List.flatMap_cons, List.length_append, words_len ys fun u hu => h u (List.mem_cons_of_mem _ hu), hz]
    show 1 + ys.length = ys.length + 1
    omega
theorem tr_32 (t : Tr) : 32 ∉ t.sg := fun h => by
  rcases Tr.sg_01 t 32 h with e | e <;> omega
theorem words_le {x : Prt} (h : x.ok) : x.words.length ≤ 21 ∧ ∀ z ∈ x.words, z.length ≤ 60000 ∧ 32 ∉ z := by
  cases x with
  | pg is =>
    obtain ⟨o1, o2, o3, o4, o5⟩ := (show prgOk is from h)
    refine ⟨by show 1 ≤ 21; decide, fun z hz => ?_⟩
    rw [List.mem_singleton.mp hz]
    exact ⟨o4, tr_32 _⟩
  | tr u =>
    have hu : u.pairs ≤ 5 := h
    have := u.sg_len
    refine ⟨by show 1 ≤ 21; decide, fun z hz => ?_⟩
    rw [List.mem_singleton.mp hz]
    exact ⟨by omega, tr_32 _⟩
  | nm k =>
    have hk : k ≤ 1000000 := h
    refine ⟨by show 1 ≤ 21; decide, fun z hz => ?_⟩
    rw [List.mem_singleton.mp hz]
    exact ⟨by have := numS_len hk; omega, numS_32 k⟩
  | ls iss =>
    obtain ⟨h1, h2, h3⟩ := (show 1 ≤ iss.length ∧ iss.length ≤ 8 ∧ ∀ is ∈ iss, prgOk is from h)
    refine ⟨by show (numS iss.length :: iss.map _).length ≤ 21; rw [List.length_cons, List.length_map]; omega, fun z hz => ?_⟩
    rcases List.mem_cons.mp hz with rfl | hz
    · exact ⟨by have := numS_len (n := iss.length) (by omega); omega, numS_32 _⟩
    · obtain ⟨is, hi, rfl⟩ := List.mem_map.mp hz
      obtain ⟨o1, o2, o3, o4, o5⟩ := h3 is hi
      exact ⟨o4, tr_32 _⟩
  | il ts =>
    obtain ⟨h1, h2⟩ := (show ts.length ≤ 20 ∧ ∀ t ∈ ts, t.pairs ≤ 5 from h)
    refine ⟨by show (numS ts.length :: ts.map _).length ≤ 21; rw [List.length_cons, List.length_map]; omega, fun z hz => ?_⟩
    rcases List.mem_cons.mp hz with rfl | hz
    · exact ⟨by have := numS_len (n := ts.length) (by omega); omega, numS_32 _⟩
    · obtain ⟨t, hi, rfl⟩ := List.mem_map.mp hz
      have := h2 t hi
      have := t.sg_len
      exact ⟨by omega, tr_32 _⟩
theorem forms_ck : (formsL.all fun p => decide (p.1.length ≤ 10) && !p.1.cps.toList.contains 32 && decide (p.2.length ≤ 6) && decide (2 ≤ p.2.length)) = true := by decide +kernel
theorem forms_w {w sh : Str} (h : formsL.lookup w = some sh) : w.length ≤ 10 ∧ 32 ∉ w.cps.toList ∧ sh.length ≤ 6 ∧ 2 ≤ sh.length := by
  have hm : (w, sh) ∈ formsL := by
    have : ∀ l : List (Str × Str), l.lookup w = some sh → (w, sh) ∈ l := fun l => by
      induction l with
      | nil => exact fun z => nomatch z
      | cons p r ih =>
        intro z
        rw [List.lookup_cons] at z
        by_cases c : (w == p.1) = true
        · rw [c] at z
          have e1 : w = p.1 := eq_of_beq c
          have e2 : p.2 = sh := Option.some.inj z
          rw [e1, ← e2]
          exact List.mem_cons_self ..
        · rw [Bool.not_eq_true _ |>.mp c] at z
          exact List.mem_cons_of_mem _ (ih z)
    exact this _ h
  have h1 : (decide (w.length ≤ 10) && !w.cps.toList.contains 32 && decide (sh.length ≤ 6) && decide (2 ≤ sh.length)) = true := List.all_eq_true.mp forms_ck _ hm
  rw [Bool.and_eq_true, Bool.and_eq_true, Bool.and_eq_true] at h1
  obtain ⟨⟨⟨h1, h2⟩, h3⟩, h4⟩ := h1
  refine ⟨of_decide_eq_true h1, fun z => ?_, of_decide_eq_true h3, of_decide_eq_true h4⟩
  rw [List.contains_iff_mem.mpr z] at h2
  cases h2
theorem wordsOf_le {w sh : Str} {ps : List Prt} (h : formsL.lookup w = some sh) (hok : ∀ x ∈ ps, x.ok) (hl : ps.length ≤ 6) : (wordsOf w ps).length ≤ 127 ∧ ∀ z ∈ wordsOf w ps, z.length ≤ 60000 ∧ 32 ∉ z.cps.toList := by
  obtain ⟨f1, f2, f3, f4⟩ := forms_w h
  have hn : ∀ ps : List Prt, (∀ x ∈ ps, x.ok) → (ps.flatMap Prt.words).length ≤ ps.length * 21 := fun ps => by
    induction ps with
    | nil => exact fun _ => Nat.zero_le _
    | cons x r ih =>
      intro hx
      have h1 := ih fun y hy => hx y (List.mem_cons_of_mem _ hy)
      have h2 := (words_le (hx x (List.mem_cons_self ..))).1
      rw [List.flatMap_cons, List.length_append, List.length_cons]
      omega
  have h3 := hn ps hok
  refine ⟨by unfold wordsOf; rw [List.length_cons, List.length_map]; omega, fun z hz => ?_⟩
  rcases List.mem_cons.mp hz with rfl | hz
  · exact ⟨by omega, f2⟩
  · obtain ⟨y, hy, rfl⟩ := List.mem_map.mp hz
    obtain ⟨x, hx, hyx⟩ := List.mem_flatMap.mp hy
    obtain ⟨g1, g2⟩ := (words_le (hok x hx)).2 y hyx
    exact ⟨by rw [stS_len]; exact g1, g2⟩
theorem lens_le {m : Nat} : ∀ ws : List Str, (∀ z ∈ ws, z.length ≤ m) → (ws.map fun x : Str => x.length).sum ≤ ws.length * m
  | [], _ => Nat.zero_le _
  | w :: ws, h => by
    have h1 := lens_le ws fun z hz => h z (List.mem_cons_of_mem _ hz)
    have h2 := h w (List.mem_cons_self ..)
    rw [List.map_cons, List.sum_cons, List.length_cons]
    have : (ws.length + 1) * m = ws.length * m + m := Nat.succ_mul _ _
    omega
/-- the line, split again -/
theorem line_split {w sh : Str} {ps : List Prt} (h : formsL.lookup w = some sh) (hok : ∀ x ∈ ps, x.ok) (hl : ps.length ≤ 6) : Txt.split (lineOf w ps) (Str.ofString " ") = wordsOf w ps := by
  refine TL.split_join (s := 32) (S := []) (by decide +kernel) (by decide +kernel) (by unfold wordsOf; simp) fun p hp => ?_
  exact ((wordsOf_le h hok hl).2 p hp).2
theorem cut_tail (x : V) (vs : List V) : cutV (x :: vs) (some 1) none = vs := cutV_from (x :: vs) 1
theorem PrtAt.but1 {H H' : Hp} {v : V} {y : Prt} {r : Addr} {ys : List V} (h : PrtAt H v y) (d : y.deep = 1) (n : v ≠ .ref r) (e : ButL [r] H H') (hr : H r = some (.lst ys)) : PrtAt H' v y := by
  cases h with
  | pg h => exact .pg (h.but1 (fun z => n (by rw [z])) e hr)
  | tr => exact .tr
  | nm => exact .nm
  | ls h1 h2 => cases d
  | il h1 => cases d
theorem PrtsAt.but1 {H H' : Hp} {r : Addr} {zs : List V} (e : ButL [r] H H') (hr : H r = some (.lst zs)) : ∀ {vs : List V} {ys : List Prt}, PrtsAt H vs ys → (∀ y ∈ ys, y.deep = 1) → (∀ v ∈ vs, v ≠ .ref r) → PrtsAt H' vs ys
  | _, _, .nil, _, _ => .nil
  | _, _, .cons h t, d, n => .cons (PrtAt.but1 h (d _ (List.mem_cons_self ..)) (n _ (List.mem_cons_self ..)) e hr) (PrtsAt.but1 e hr t (fun y hy => d y (List.mem_cons_of_mem _ hy)) fun v hv => n v (List.mem_cons_of_mem _ hv))
theorem PrtsAt.snoc {H : Hp} {v : V} {y : Prt} : ∀ {vs : List V} {ys : List Prt}, PrtsAt H vs ys → PrtAt H v y → PrtsAt H (vs ++ [v]) (ys ++ [y])
  | _, _, .nil, h => .cons h .nil
  | _, _, .cons h t, g => .cons h (PrtsAt.snoc t g)
/-- the words of a list, cut at one of its items -/
theorem items_cut {ys : List Prt} {j : Nat} {z : Prt} (h : ys[j]? = some z) : ys.flatMap Prt.words = (ys.take j).flatMap Prt.words ++ (z.words ++ (ys.drop (j + 1)).flatMap Prt.words) := by
  have hj := (List.getElem?_eq_some_iff.mp h)
  obtain ⟨hj1, hj2⟩ := hj
  conv => lhs; rw [← List.take_append_drop j ys, List.drop_eq_getElem_cons hj1, hj2]
  rw [List.flatMap_append, List.flatMap_cons]
theorem PrtAt.butS {H H' : Hp} {v : V} {y : Prt} {r : Addr} {w : Str} {zs : List V} (h : PrtAt H v y) (n : v ≠ .ref r) (e : ButL [r] H H') (hr : H r = some (.lst (.str w :: zs))) : PrtAt H' v y := by
  have ne : ∀ {p : Addr} {as : List Addr}, H p = some (.lst (as.map V.ref)) → p ≠ r := fun {p as} hp z => by
    rw [z, hr] at hp
    have := HO.lst.inj (Option.some.inj hp)
    cases as with
    | nil => cases this
    | cons a as => cases (List.cons.inj this).1
  have pgs : ∀ {p : Addr} {is : List Ins}, PgAt H p is → PgAt H' p is := fun {p is} hp => by
    obtain ⟨as, h1, h2⟩ := id hp
    exact hp.but1 (ne h1) e hr
  cases h with
  | pg h => exact .pg (pgs h)
  | tr => exact .tr
  | nm => exact .nm
  | ls h1 h2 => exact .ls (e _ _ (by simp [ne h1]) h1) (Paired.imp (fun _ _ q => pgs q) h2)
  | @il a ts h1 => exact .il (e _ _ (by have : a ≠ r := fun z => n (by rw [z]); simp [this]) h1)
theorem PrtsAt.butS {H H' : Hp} {r : Addr} {w : Str} {zs : List V} (e : ButL [r] H H') (hr : H r = some (.lst (.str w :: zs))) : ∀ {vs : List V} {ys : List Prt}, PrtsAt H vs ys → (∀ v ∈ vs, v ≠ .ref r) → PrtsAt H' vs ys
  | _, _, .nil, _ => .nil
  | _, _, .cons h t, n => .cons (PrtAt.butS h (n _ (List.mem_cons_self ..)) e hr) (PrtsAt.butS e hr t fun v hv => n v (List.mem_cons_of_mem _ hv))
theorem joinL_len (y : List Nat) : ∀ ls : List (List Nat), (TL.joinL y ls).length ≤ (ls.map fun l : List Nat => l.length).sum + ls.length * y.length
  | [] => Nat.zero_le _
  | [p] => by
    show p.length ≤ p.length + 0 + 1 * y.length
    omega
  | p :: q :: r => by
    have ih := joinL_len y (q :: r)
    show (p ++ (y ++ TL.joinL y (q :: r))).length ≤ _
    have e : (p :: q :: r).length * y.length = (q :: r).length * y.length + y.length := Nat.succ_mul _ _
    rw [List.length_append, List.length_append, List.map_cons, List.sum_cons]
    omega
theorem join_le (y : Str) (ws : List Str) : (Txt.join y ws).length ≤ (ws.map fun x : Str => x.length).sum + ws.length * y.length := by
  have h := joinL_len (TL.tl y) (ws.map TL.tl)
  rw [← TL.tl_join, List.map_map, List.length_map] at h
  rw [TL.join_eq]
  exact h
section
variable {H H' : Hp} {W Ah At As Ap : Addr} {T : List Tr} {v : V} {y : Prt}
theorem PrtAt.has (h : PrtAt H v y) {a : Addr} (e : v = .ref a) : H a ≠ none := by
  subst e
  cases h with
  | pg h =>
    obtain ⟨as, h1, _⟩ := h
    rw [h1]
    exact fun z => by cases z
  | ls h1 _ =>
    rw [h1]
    exact fun z => by cases z
  | il h1 =>
    rw [h1]
    exact fun z => by cases z
/-- a list of trees' texts is none of the world's -/
theorem WAt.strs (h : WAt H W Ah At As Ap T) {a : Addr} {ts : List Tr} (ha : H a = some (.lst (ts.map fun t => V.str t.str))) : a ∉ W :: wL Ah At As Ap := fun z => by
  obtain ⟨n1, n2, n3⟩ : H W ≠ H a ∧ H Ap ≠ H a ∧ True := by
    obtain ⟨kv, k1, _⟩ := h.ps
    rw [h.ob, k1, ha]
    exact ⟨fun e => (by cases e), fun e => (by cases e), trivial⟩
  obtain ⟨us, xs, g1, g2, g3, gd⟩ := h.tb.get
  have len := (List.getElem?_eq_some_iff.mp gd.z).1
  have nats : ∀ m : List Nat, m.length = T.length → H a = some (.lst (natsV m)) → False := fun m hm e => by
    rw [ha] at e
    have e2 := HO.lst.inj (Option.some.inj e)
    cases m with
    | nil => exact absurd hm (by show ¬ 0 = T.length; omega)
    | cons k m =>
      cases ts with
      | nil => cases e2
      | cons t ts => cases (List.cons.inj e2).1
  have z' : a = W ∨ a = Ah ∨ a = At ∨ a = As ∨ a = Ap := by
    simpa only [wL, List.mem_cons, List.not_mem_nil, or_false] using z
  rcases z' with e | e | e | e | e
  · exact n1 (by rw [e])
  · exact nats us gd.lh (by rw [e]; exact g1)
  · exact nats xs gd.lt (by rw [e]; exact g2)
  · rw [e, g3] at ha
    have e2 := HO.lst.inj (Option.some.inj ha)
    cases T with
    | nil => exact absurd len (Nat.lt_irrefl _)
    | cons t T =>
      cases ts with
      | nil => cases e2
      | cons u ts => cases (List.cons.inj e2).1
  · exact n2 (by rw [e])
theorem PrtAt.wld (h : PrtAt H v y) (w : WAt H W Ah At As Ap T) (e : ButL (wL Ah At As Ap) H H') : PrtAt H' v y := by
  cases h with
  | pg h => exact .pg (h.wld w e)
  | tr => exact .tr
  | nm => exact .nm
  | ls h1 h2 => exact .ls (e _ _ (fun z => w.refs h1 (List.mem_cons_of_mem _ z)) h1) (Paired.imp (fun _ _ q => q.wld w e) h2)
  | il h1 => exact .il (e _ _ (fun z => w.strs h1 (List.mem_cons_of_mem _ z)) h1)
theorem PrtsAt.wld (w : WAt H W Ah At As Ap T) (e : ButL (wL Ah At As Ap) H H') {vs : List V} {ys : List Prt} (h : PrtsAt H vs ys) : PrtsAt H' vs ys := Paired.imp (fun _ _ q => q.wld w e) h
end
/-- the kind as the law writes it -/
def Prt.kindL : Prt → Nat
  | .ls _ => 108
  | x => x.kind
theorem prt_lay (x : Prt) : x.d.canLay0 = true ∧ x.d.depth ≤ 3 := by
  cases x with
  | pg is => exact ⟨prog_lay is, Nat.le_trans (progD_deep is) (by decide)⟩
  | tr u => exact ⟨strOk_01 (Tr.sg_01 u), Nat.zero_le _⟩
  | nm k => exact ⟨rfl, Nat.zero_le _⟩
  | ls iss => exact ⟨progs_lay iss, Nat.succ_le_succ (progs_deep iss)⟩
  | il ts =>
    have : ∀ ts : List Tr, PyData.canLayAll0 (ts.map fun t => PyData.str t.str) = true ∧ PyData.depthAll (ts.map fun t => PyData.str t.str) ≤ 2 := fun ts => by
      induction ts with
      | nil => exact ⟨rfl, Nat.zero_le _⟩
      | cons t r ih =>
        refine ⟨?_, ?_⟩
        · show (PyData.strOk t.str && PyData.canLayAll0 (r.map _)) = true
          rw [ih.1, Bool.and_true]
          exact strOk_01 (Tr.sg_01 t)
        · show max 0 (PyData.depthAll (r.map _)) ≤ 2
          have := ih.2
          omega
    exact ⟨(this ts).1, Nat.succ_le_succ (this ts).2⟩
theorem prts_lay : ∀ ps : List Prt, PyData.canLayAll0 (ps.map Prt.d) = true ∧ PyData.depthAll (ps.map Prt.d) ≤ 3
  | [] => ⟨rfl, Nat.zero_le _⟩
  | x :: ps => by
    obtain ⟨h1, h2⟩ := prts_lay ps
    obtain ⟨h3, h4⟩ := prt_lay x
    refine ⟨?_, ?_⟩
    · show (x.d.canLay0 && PyData.canLayAll0 (ps.map Prt.d)) = true
      rw [h1, h3]
      rfl
    · show max x.d.depth (PyData.depthAll (ps.map Prt.d)) ≤ 3
      omega
theorem forms_sOk : (formsL.all fun p => PyData.strOk p.1) = true := by decide +kernel
theorem claim_shaped {w sh : Str} (h : formsL.lookup w = some sh) (ps : List Prt) : SeqAt.shaped (claimOf w ps) = true := by
  have h1 : PyData.strOk w = true := List.all_eq_true.mp forms_sOk _ (lookup_mem h)
  obtain ⟨h2, h3⟩ := prts_lay ps
  show ((PyData.strOk w && PyData.canLayAll0 (ps.map Prt.d)) && decide (max 0 (PyData.depthAll (ps.map Prt.d)) + 1 ≤ 64)) = true
  rw [h1, h2, decide_eq_true (by omega)]
  rfl
theorem small_big {i : Ins} (h : i.small) : i.big ≤ 200000 := by
  cases i with
  | set a t => exact h.2
  | _ => exact Nat.zero_le _
theorem vda_mk {H : Hp} {α β : Type} {f : α → V} {g : β → PyData} {F : α → β → Prop} : ∀ {l : List α} {m : List β}, (∀ a b, b ∈ m → F a b → Vd H (f a) (g b)) → Paired F l m → VdA H (l.map f) (m.map g)
  | _, _, _, .nil => .nil
  | _, _, h, .cons r t => .cons (h _ _ (List.mem_cons_self ..) r) (vda_mk (fun a b hb => h a b (List.mem_cons_of_mem _ hb)) t)
theorem prg_vd {H : Hp} {p : Addr} {is : List Ins} (h : PgAt H p is) (o : prgOk is) : Vd H (.ref p) (progD is) := by
  have hz : sizeLine = 16777216 := rfl
  obtain ⟨o1, o2, o3, o4, o5⟩ := o
  exact h.vd (by omega) fun i hi => by
    have := small_big (o3 i hi)
    omega
theorem PrtAt.vd {H : Hp} {v : V} {x : Prt} (h : PrtAt H v x) (hok : x.ok) : Vd H v x.d := by
  have hz : sizeLine = 16777216 := rfl
  cases h with
  | pg h => exact prg_vd h hok
  | @tr u =>
    have hu : u.pairs ≤ 5 := hok
    have := u.sg_len
    exact .str _ (by rw [Tr.str_len]; omega)
  | nm => exact .int _
  | @ls a as iss h1 h2 =>
    obtain ⟨g1, g2, g3⟩ := (show 1 ≤ iss.length ∧ iss.length ≤ 8 ∧ ∀ is ∈ iss, prgOk is from hok)
    have hl := Paired.len h2
    exact .lst h1 (by rw [List.length_map]; omega) (vda_mk (fun a is hi q => prg_vd q (g3 is hi)) h2)
  | @il a ts h1 =>
    obtain ⟨g1, g2⟩ := (show ts.length ≤ 20 ∧ ∀ t ∈ ts, t.pairs ≤ 5 from hok)
    refine .lst h1 (by rw [List.length_map]; omega) ?_
    clear h1 hok
    induction ts with
    | nil => exact .nil
    | cons t r ih =>
      have ht := g2 t (List.mem_cons_self ..)
      have := t.sg_len
      exact .cons (.str _ (by rw [Tr.str_len]; omega)) (ih (by rw [List.length_cons] at g1; omega) fun u hu => g2 u (List.mem_cons_of_mem _ hu))
theorem PrtsAt.vd {H : Hp} : ∀ {vs : List V} {ps : List Prt}, PrtsAt H vs ps → (∀ x ∈ ps, x.ok) → VdA H vs (ps.map Prt.d)
  | _, _, .nil, _ => .nil
  | _, _, .cons h t, g => .cons (PrtAt.vd h (g _ (List.mem_cons_self ..))) (PrtsAt.vd t fun x hx => g x (List.mem_cons_of_mem _ hx))
theorem ClmAt.vd {H : Hp} {p : Addr} {w sh : Str} {ps : List Prt} (h : ClmAt H p w ps) (hw : formsL.lookup w = some sh) (hok : ∀ x ∈ ps, x.ok) (hl : ps.length ≤ 6) : Vd H (.ref p) (claimOf w ps) := by
  have hz : sizeLine = 16777216 := rfl
  obtain ⟨vs, h1, h2⟩ := h
  have hn := Paired.len h2
  obtain ⟨f1, _⟩ := forms_w hw
  exact .tup h1 (by rw [List.length_cons]; omega) (.cons (.str w (by omega)) (h2.vd hok))
def fkv : List (Key × V) := [(.inr "returns", .str "pttn"), (.inr "lasts", .str "ptn"), (.inr "never", .str "ptnn"), (.inr "agree", .str "ppin"), (.inr "knows", .str "pp"), (.inr "fixed", .str "pp")]
def fkv9 : List (Key × V) := putK (putK (putK (mergeK [] fkv) (.inr "together") (.str "ll")) (.inr "defeats") (.str "pppptn")) (.inr "lies") (.str "ppttn")
def shL (w sh : Str) : Str := if w = "together" then "ll" else sh
theorem k49_ck : (formsL.all fun p => decide (L2.valV fkv9 (.inr p.1) = some (.str (shL p.1 p.2))) && decide ((shL p.1 p.2).cps.toList = p.2.cps.toList.map fun c => if c = 114 then 108 else c)) = true := by decide +kernel
theorem k49_form {w sh : Str} {ps : List Prt} (h : formsL.lookup w = some sh) (hk : sh.cps.toList = ps.map Prt.kind) : L2.valV fkv9 (.inr w) = some (.str (shL w sh)) ∧ (shL w sh).cps.toList = ps.map Prt.kindL := by
  have h1 := List.all_eq_true.mp k49_ck _ (lookup_mem h)
  have h1 : (decide (L2.valV fkv9 (.inr w) = some (.str (shL w sh))) && decide ((shL w sh).cps.toList = sh.cps.toList.map fun c => if c = 114 then 108 else c)) = true := h1
  rw [Bool.and_eq_true, decide_eq_true_eq, decide_eq_true_eq] at h1
  refine ⟨h1.1, ?_⟩
  rw [h1.2, hk, List.map_map]
  refine List.map_congr_left fun x _ => ?_
  cases x <;> rfl
theorem fkv9_is : fkv9 = formsL.map fun p => ((.inr p.1 : Key), V.str (shL p.1 p.2)) := by decide +kernel
theorem fkv9_val (w : Str) : L2.valV fkv9 (.inr w) = (formsL.lookup w).map fun sh => V.str (shL w sh) := by
  rw [fkv9_is]
  generalize formsL = l
  induction l with
  | nil => rfl
  | cons p r ih =>
    rw [List.map_cons, List.lookup_cons]
    by_cases c : p.1 = w
    · rw [valV_pos (show (Sum.inr p.1 : Key) = Sum.inr w by rw [c]), show (w == p.1) = true by rw [c]; exact beq_self_eq_true w]
      show some (V.str (shL p.1 p.2)) = some (V.str (shL w p.2))
      rw [c]
    · rw [valV_neg (fun z => c (Sum.inr.inj z)), ih, show (w == p.1) = false from beq_eq_false_iff_ne.mpr fun z => c z.symm]
def treeD2 : PyData → Bool
  | .str s => decide (s.length ≤ 200000) && isT s.cps.toList
  | _ => false
def numD : PyData → Bool
  | .int m => decide (0 ≤ m) && decide (m ≤ 1000000)
  | _ => false
def listD : PyData → Option (List PyData)
  | .list ds => some ds
  | _ => none
end Nx

/-! A local name that holds one of several defs, called with a starred argument; a tuple taken apart with a star behind one name. -/
namespace Nx
open PySem PySem.Spec PyProof.Rows L2
/-! ### the call -/
structure HeldX (P : Program) (w : World) (K : PySem.W.Frag) (mg : Str → Option Value) (base : Heap) (CX : CXT) (k : Nat) (f : Addr) (sp : Sp) : Prop where
  ex : ∃ (fd : FuncData) (ps : List Str), FnOk P w K mg base CX k f fd ps sp ∧ PySem.W.keepIn K (.ref f) = true ∧ Binds K fd ps []
def tCallAS (K : PySem.W.Frag) (i : Nat) (S : Addr → Sp → Prop) (E : L2.St → XK) (te : TE) : TE := fun σ H Q => ∃ f sp, σ[i]? = some (some (.ref f)) ∧ S f sp ∧ te σ H fun y H1 => ∃ a xs, y = V.ref a ∧ (SqT K H1 a xs ∨ SqL K H1 a xs) ∧ sp xs H1 Q (E σ)
theorem pe_callAS {X : Cx} {K : PySem.W.Frag} {CX : CXT} {k i : Nat} {S : Addr → Sp → Prop} {E : L2.St → XK} {x : Str} {p pos sp_ : Pos} {e : Expr} {te : TE} (hK : X.K = K) (A : ∀ f sp, S f sp → HeldX X.prog X.w X.K X.mg X.base CX k f sp) (hr : Room k X.A) (hN : X.N[i]? = some x) (hv : Vis X.env.scope x) (hx : ∀ σ, PassesAt CX X σ (E σ)) (he : PE X e te)
    (hdb : (x == ("__debug__" : Str)) = false := by decide) (hcd : (x == ("__classdict__" : Str)) = false := by decide) (hst : starEach [.Starred e sp_] X.env = [(true, eval e X.env)] := by rfl) :
    PE X (.Call (.Name x p) [.Starred e sp_] [] pos) (tCallAS K i S E te) := by
  subst hK
  refine ⟨fun pins s σ H Q I h => ?_⟩
  obtain ⟨f, sp, hs, hS, ht⟩ := h
  obtain ⟨fd, ps, F, hk, hb⟩ := (A f sp hS).ex
  refine wpAny_Call_Name_kw (thn ((pe_var (pos := p) hN hv hdb hcd).run pins s σ H (fun v H1 => v = .ref f ∧ H1 = H) I ⟨.ref f, hs, rfl, rfl⟩) fun u s1 ⟨v, H1, I1, r1, q1⟩ => ?_)
  obtain ⟨rfl, rfl⟩ := q1
  cases r1
  refine PySem.W.callWith_S (h₀ := X.base) I.ok.mod.kin hk (thn (he.run pins s1 σ _ _ I1 ht) fun v s2 ⟨y, H2, I2, ry, a, xs, ey, hxs, q⟩ => ?_) hst
  subst ey
  obtain rfl : v = Value.ref a := ry
  exact StX.star_any I2 hxs fun us s3 I3 rv => ⟨I3.kIn, run_fnS F hr hb (hx σ) I3 rv q⟩
/-- a written dict of defs, at a key -/
theorem kdct_fn {K : PySem.W.Frag} {w : World} {mg : Str → Option Value} {a f : Addr} {es : Array DictEntry} {n : Nat} {x z : Str} (D : KDict K w a es n) (g : mg x = some (.ref f)) (h : ∃ u, mg x = some (.ref u) ∧ PySem.W.nsIn K a z = some (some (.ref u))) : KDct K w a z (.ref f) := by
  obtain ⟨u, h1, h2⟩ := h
  cases g.symm.trans h1
  exact ⟨es, n, .ref f, D.at_, D.lit, h2, rfl⟩
/-! ### a, *b = a tuple -/
def gStar (K : PySem.W.Frag) (t : TGs) : TG := fun v σ H Q => ∃ a x xs, v = .ref a ∧ SqT K H a (x :: xs) ∧ xs.length ≤ 10000 ∧ ∀ p, H p = none → t [x, .ref p] σ (upd H p (.lst xs)) Q
theorem pgs_star {X : Cx} {e : Expr} {p : Pos} {es : List Expr} {t : TG} {u : TGs} (h1 : PG X e t) (h2 : PGs X es u)
    (hs : (assignEach (.Starred e p :: es) X.env).map (·.2) = assign e X.env :: (assignEach es X.env).map (·.2) := by rfl) : PGs X (.Starred e p :: es) (gCons t u) := by
  refine ⟨fun pins s σ H vs us Q I r h => ?_⟩
  obtain ⟨v, vr, e1, h⟩ := h
  subst e1
  cases r with
  | cons r rr =>
    rw [hs]
    exact assignInOrder_cons (thn (h1.run pins s σ H _ _ _ I r h) fun _ s1 ⟨σ1, H1, I1, q1⟩ => h2.run pins s1 σ1 H1 _ _ Q I1 rr q1)
theorem star_items {P : Program} {w : World} {A : Around} {E : Value → Shared → Prop} {s : Shared} {l : Addr} {y : Value} {its : List Value} {Q : List Value → Shared → Prop} (hh : A.handled = none) (ht : IsTup s.heap l (y :: its).toArray) (hz : its.length ≤ 10000)
    (h : ∀ h' tk, Heap.ExtBut s.heap.objs.size s.heap h' → Q [y, .ref h'.objs.size] { s with heap := h'.push { cls := .type "list", data := .seq its.toArray }, toks := tk }) : wpAny (model P w) A (unpackItems (.ref l) 2 (some 1)) Q E s := by
  have line : sizeLine = 16777216 := rfl
  have sz : (y :: its).toArray.size = its.length + 1 := by rw [List.size_toArray, List.length_cons]
  have lt : l < s.heap.objs.size := by
    obtain ⟨o, ho, _⟩ := ht
    exact Heap.lt_size ho
  have ne : l ≠ s.heap.objs.size := Nat.ne_of_lt lt
  unfold unpackItems notIterableAtAll
  refine wpAny_bind (wpAny_bind (wpAny_specialOf ht.typeIs slot_tuple_iter.lookup (wpAny_pure ?_)))
  simp only [Bool.false_eq_true, if_false]
  refine wpAny_bind (wpAny_holding (iter_tuple ht ?_))
  refine wpAny_bind (wpAny_holding (draw_tuple ne 1 0 _ _ ⟨_, Heap.get?_push_size _ rfl, rfl, rfl⟩ (ht.push _) (by omega) fun h1 it1 sm1 => ?_))
  rw [Nat.zero_add] at it1
  have t1 : IsTup h1 l (y :: its).toArray := (ht.push _).extBut sm1.extBut ne
  have in1 := it1
  obtain ⟨oi, hoi, _⟩ := in1
  have in2 := t1
  obtain ⟨ol, hol, _⟩ := in2
  have e1 : ((y :: its).toArray.toList.drop 0).take 1 = [y] := by simp
  rw [e1]
  rw [if_neg (by simp)]
  refine wpAny_bind (wpAny_holding (PySem.W.kun_collect (s := { s with heap := h1 }) (T := "tuple_iterator") (.inr (.inr (.inr rfl))) (Walks.tuple (A := A.in1) hh s.heap.objs.size l ne (y :: its).toArray) (fun j u st => st.1.typeIs) (k := 1) (by omega) ⟨it1, t1⟩ (Heap.lt_size hoi) (Heap.lt_size hol) (fun h2 tk hk => ?_) (by omega)))
  have e2 : (y :: its).toArray.toList.drop 1 = its := by simp
  rw [e2]
  show wpAny _ _ (if its.length < 0 then _ else _) _ _ _
  rw [if_neg (Nat.not_lt_zero _)]
  refine wpAny_bind (wpAny_newList ?_ (by rw [List.length_take]; omega))
  refine wpAny_pure ?_
  have e3 : its.take (its.length - 0) = its := by simp
  have e4 : its.drop (its.length - 0) = [] := by simp
  show Q ([y] ++ [_] ++ its.drop (its.length - 0)) { s with heap := _, toks := tk }
  rw [e4]
  have := h h2 tk fun b o hb e => hk b o hb (sm1.extBut b o hb (Heap.get?_push_of_some _ e))
  rw [← e3] at this
  exact this
theorem pg_star {X : Cx} {e1 e2 : Expr} {k : Nat} {p pos : Pos} {t : TGs} (hc : X.calm = true) (h : PGs X [e1, .Starred e2 p] t)
    (hn : (assignEach [e1, .Starred e2 p] X.env).length = 2 := by rfl) (hst : (assignEach [e1, .Starred e2 p] X.env).findIdx? (·.1) = some 1 := by rfl) : PG X (.Tuple [e1, .Starred e2 p] k pos) (gStar X.K t) := by
  refine ⟨fun pins s σ H v u Q I r hw => ?_⟩
  obtain ⟨a, x, xs, ev, hq, hl, hw⟩ := hw
  subst ev
  cases r
  obtain ⟨its, rv, ht, hz⟩ := I.tuple hq
  cases rv with
  | cons r1 r2 =>
    rw [assign_Tuple]
    refine wpAny_bind (wpAny_standAt ?_)
    unfold unpack
    rw [hn, hst]
    refine wpAny_bind (wpAny_holding (star_items (I.ok.hd hc) ht (by rw [← r2.length]; exact hl) fun h' tk hx => ?_))
    have I1 : Inv X pins σ H { s with heap := h', toks := tk } := I.kept (t' := tk) fun b o e => hx b o (Nat.ne_of_lt (Heap.lt_size e)) e
    have I2 : Inv X pins σ (upd H h'.objs.size (.lst xs)) { s with heap := h'.push { cls := .type "list", data := .seq _ }, toks := tk } := I1.laid (t' := tk) (fun _ _ e => Heap.get?_push_of_some _ e) (Nat.le_refl _) ⟨by rw [List.length_cons] at hz; omega, _, 0, r2, Heap.get?_push_size _ rfl⟩
    exact h.run pins _ σ _ _ _ Q I2 (.cons r1 (.cons (show RelV (.ref h'.objs.size) (.ref h'.objs.size) from rfl) .nil)) (hw _ (I1.hok.fresh (Nat.le_refl _)))
end Nx

/-! What claims about runs say. -/
namespace Nx
open PySem PySem.Spec PyProof.Rows L2
def RunOk (is : List Ins) (x : Tr) (n : Nat) : Prop := JOk is ∧ (∀ i ∈ is, i.below 20 ∧ i.big ≤ 1000000) ∧ x.pairs + bigSum is + n ≤ 7000000 ∧ x.sg.length ≤ 1000000 ∧ is.length ≤ 1000
def returnsB (is : List Ins) (x y : Tr) (n : Nat) : Bool := match go is n 0 (rs0 x) with
  | some (k, rs, _) => decide (k = is.length) && decide (reg rs 0 = y)
  | none => false
def lastsB (is : List Ins) (x : Tr) (n : Nat) : Bool := match go is n 0 (rs0 x) with
  | some (k, _, _) => decide (k < is.length)
  | none => false
def neverB (is : List Ins) (x : Tr) (a b : Nat) : Bool := decide (a < b) && match go is a 0 (rs0 x), go is b 0 (rs0 x) with
  | some (k1, rs1, d1), some (k2, rs2, d2) => decide (d1 = a) && decide (k2 = k1 ∧ rs2 = rs1 ∧ d2 = b)
  | _, _ => false
theorem eqvAll_tr : ∀ a b : List Tr, PyData.eqvAll (a.map fun t => .str t.str) (b.map fun t => .str t.str) = decide (a = b)
  | [], [] => rfl
  | [], _ :: _ => rfl
  | _ :: _, [] => rfl
  | s :: a, t :: b => by
    show (PyData.eqv (.str s.str) (.str t.str) && PyData.eqvAll (a.map fun t => .str t.str) (b.map fun t => .str t.str)) = _
    rw [eqvAll_tr a b]
    have e : PyData.eqv (.str s.str) (.str t.str) = decide (s = t) := by
      by_cases c : s = t
      · rw [c, eqv_str, decide_eq_true rfl]
      · rw [decide_eq_false c]
        show (s.str == t.str) = false
        exact beq_eq_false_iff_ne.mpr fun z => c (Tr.str_inj z)
    rw [e]
    by_cases c1 : s = t
    · by_cases c2 : a = b
      · rw [decide_eq_true c1, decide_eq_true c2, decide_eq_true (by rw [c1, c2])]
        rfl
      · rw [decide_eq_false c2, Bool.and_false, decide_eq_false fun z => c2 (List.cons.inj z).2]
    · rw [decide_eq_false c1, Bool.false_and, decide_eq_false fun z => c1 (List.cons.inj z).1]
theorem eqv_nat (a b : Nat) : PyData.eqv (.int (a : Nat)) (.int (b : Nat)) = decide (a = b) := by
  show ((a : Int) == (b : Int)) = _
  by_cases c : a = b
  · rw [c, decide_eq_true rfl, beq_self_eq_true]
  · rw [decide_eq_false c]
    exact beq_eq_false_iff_ne.mpr fun z => c (by omega)
theorem eqv_states (k1 k2 d1 d2 : Nat) (rs1 rs2 : List Tr) : PyData.eqv (.tuple [stD k2 rs2, .int (d2 : Nat)]) (.tuple [stD k1 rs1, .int (d1 : Nat)]) = decide (k2 = k1 ∧ rs2 = rs1 ∧ d2 = d1) := by
  show ((PyData.eqv (.int (k2 : Nat)) (.int (k1 : Nat)) && (PyData.eqvAll (rs2.map fun t => .str t.str) (rs1.map fun t => .str t.str) && true)) && (PyData.eqv (.int (d2 : Nat)) (.int (d1 : Nat)) && true)) = _
  rw [eqv_nat, eqv_nat, eqvAll_tr, Bool.and_true, Bool.and_true]
  by_cases a : k2 = k1 <;> by_cases b : rs2 = rs1 <;> by_cases c : d2 = d1 <;> simp [a, b, c]
theorem st2_shaped (k : Nat) (rs : List Tr) (d : Nat) : SeqAt.shaped (.tuple [stD k rs, .int (d : Nat)]) = true := by
  show (((true && ((rsD rs).canLay0 && true)) && (true && true)) && decide (max (max 0 (max (rsD rs).depth 0) + 1) (max 0 0) + 1 ≤ 64)) = true
  rw [rsD_lay, rsD_deep]
  rfl
end Nx

/-! What returns, lasts and never say of each other. -/
namespace Nx
open PySem PySem.Spec PyProof.Rows L2
section
variable {is : List Ins} {x y z : Tr} {n m d e a b : Nat}
theorem St.rest2 {k k1 k2 : Nat} {rs rs1 rs2 : List Tr} (t : St is m k rs k1 rs1) : ∀ {n : Nat}, St is n k rs k2 rs2 → m ≤ n → St is (n - m) k1 rs1 k2 rs2 := by
  induction t with
  | refl k rs => exact fun s _ => s
  | @step m k k3 k1 rs rs1 i h g e t ih =>
    intro n s hm
    cases s with
    | refl => omega
    | @step n' _ k4 _ _ _ i' h' g' e' t' =>
      rw [h] at h'
      cases h'
      rw [e] at e'
      have : k3 = k4 := by omega
      subst this
      rw [show n' + 1 - (m + 1) = n' - m by omega]
      exact ih t' (by omega)
theorem returns_iff (hJ : JOk is) : returnsB is x y n = true ↔ ∃ d, d ≤ n ∧ Ret is d x y := by
  unfold returnsB
  constructor
  · intro h
    cases hg : go is n 0 (rs0 x) with
    | none =>
      rw [hg] at h
      cases h
    | some q =>
      obtain ⟨k, rs, d⟩ := q
      rw [hg] at h
      have h : (decide (k = is.length) && decide (reg rs 0 = y)) = true := h
      rw [Bool.and_eq_true] at h
      have h1 := of_decide_eq_true h.1
      have h2 := of_decide_eq_true h.2
      subst h1
      have r := Ret.of_go hJ hg
      rw [h2] at r
      exact ⟨d, go_d _ _ _ hg, r⟩
  · rintro ⟨d, hd, r⟩
    obtain ⟨us, h1, h2⟩ := r.go hd
    rw [h1]
    show (decide (is.length = is.length) && decide (reg us 0 = y)) = true
    rw [decide_eq_true rfl, decide_eq_true h2]
    rfl
theorem lasts_iff (hJ : JOk is) : lastsB is x n = true ↔ Out is n x := by
  unfold lastsB
  constructor
  · intro h
    cases hg : go is n 0 (rs0 x) with
    | none =>
      rw [hg] at h
      cases h
    | some q =>
      obtain ⟨k, rs, d⟩ := q
      rw [hg] at h
      have h : k < is.length := of_decide_eq_true h
      have hd := (go_more n 0 (rs0 x) hg).2.1 h
      subst hd
      exact Out.of_go hJ hg h
  · intro o
    obtain ⟨k, rs, h1, h2⟩ := o.go (Nat.le_refl _)
    rw [h1]
    exact decide_eq_true h2
theorem never_loops (hJ : JOk is) (h : neverB is x a b = true) : Loops is x := by
  unfold neverB at h
  rw [Bool.and_eq_true] at h
  have hab := of_decide_eq_true h.1
  have h := h.2
  cases hg : go is a 0 (rs0 x) with
  | none =>
    rw [hg] at h
    cases h
  | some q1 =>
    obtain ⟨k1, rs1, d1⟩ := q1
    cases hg2 : go is b 0 (rs0 x) with
    | none =>
      rw [hg, hg2] at h
      cases h
    | some q2 =>
      obtain ⟨k2, rs2, d2⟩ := q2
      rw [hg, hg2] at h
      have h : (decide (d1 = a) && decide (k2 = k1 ∧ rs2 = rs1 ∧ d2 = b)) = true := h
      rw [Bool.and_eq_true] at h
      have e1 := of_decide_eq_true h.1
      obtain ⟨e2, e3, e4⟩ := of_decide_eq_true h.2
      subst e1 e2 e3 e4
      have s1 := go_st hJ _ _ _ hg
      have s2 := go_st hJ _ _ _ hg2
      have s3 := s1.rest2 s2 (by omega)
      exact ⟨d1, d2 - d1 - 1, k2, rs2, s1, s3.cast (by omega) rfl⟩
theorem Ret.uniq (h : Ret is d x y) (g : Ret is e x z) : d = e ∧ y = z := by
  obtain ⟨us, h1, h2⟩ := h.go (Nat.le_max_left d e)
  obtain ⟨vs, g1, g2⟩ := g.go (Nat.le_max_right d e)
  rw [h1] at g1
  cases g1
  exact ⟨rfl, h2.symm.trans g2⟩
theorem Out.ret (o : Out is n x) (r : Ret is d x y) : n < d := by
  rcases Nat.lt_or_ge n d with c | c
  · exact c
  · obtain ⟨us, h1, _⟩ := r.go c
    obtain ⟨k, rs, h2, h3⟩ := o.go (Nat.le_refl _)
    rw [h1] at h2
    cases h2
    omega
theorem Loops.lasts (hJ : JOk is) (l : Loops is x) (n : Nat) : lastsB is x n = true := by
  obtain ⟨k, rs, h1, h2⟩ := l.go n
  unfold lastsB
  rw [h1]
  exact decide_eq_true h2
end
end Nx

namespace Nx
open PySem PySem.Spec PyProof.Rows L2
def topS (i : Nat) : Stmt := PySem.Challenge.pw_narcissus_k48_whole_claims_agree.main.body.getD i (.Pass ⟨0, 0, 0, 0⟩)
/-- the top's built-ins and constants -/
structure Txt (K : PySem.W.Frag) (mg : Str → Option Value) (cl : Cn → Addr) (w : World) : Prop where
  m_list : mg "list" = none
  m_int : mg "int" = none
  m_abs : mg "abs" = none
  m_len : mg "len" = none
  m_range : mg "range" = none
  m_isinstance : mg "isinstance" = none
  m_str : mg "str" = none
  m_bool : mg "bool" = none
  m_all : mg "all" = none
  m_tuple : mg "tuple" = none
  m_zip : mg "zip" = none
  m_enumerate : mg "enumerate" = none
  m_sum : mg "sum" = none
  m_reversed : mg "reversed" = none
  m_SHAPES : mg "SHAPES" = some (.ref (cl .SHAPES)) ∧ DLit K w (cl .SHAPES) [(("set" : Str), ("rt" : Str)), (("move" : Str), ("rr" : Str)), (("cons" : Str), ("rrr" : Str)), (("head" : Str), ("rr" : Str)), (("tail" : Str), ("rr" : Str)), (("jump" : Str), ("rn" : Str))]
  m_FORMS : mg "FORMS" = some (.ref (cl .FORMS)) ∧ DLit K w (cl .FORMS) [(("returns" : Str), ("pttn" : Str)), (("lasts" : Str), ("ptn" : Str)), (("never" : Str), ("ptnn" : Str)), (("agree" : Str), ("ppin" : Str)), (("knows" : Str), ("pp" : Str)), (("fixed" : Str), ("pp" : Str)), (("together" : Str), ("rr" : Str)), (("defeats" : Str), ("pppptn" : Str)), (("lies" : Str), ("ppttn" : Str))]
  m_ITEMS : mg "ITEMS" = some (.ref (cl .ITEMS)) ∧ DLit K w (cl .ITEMS) [(("r" : Str), ("p" : Str)), (("i" : Str), ("t" : Str))]
  m_CHECKS : mg "CHECKS" = some (.ref (cl .CHECKS)) ∧ ∃ es n, KDict K w (cl .CHECKS) es n
  h_CHECKS_returns : ∃ f, mg "_shows_returns" = some (.ref f) ∧ PySem.W.nsIn K (cl .CHECKS) "returns" = some (some (.ref f))
  h_CHECKS_lasts : ∃ f, mg "_shows_lasts" = some (.ref f) ∧ PySem.W.nsIn K (cl .CHECKS) "lasts" = some (some (.ref f))
  h_CHECKS_never : ∃ f, mg "_shows_never" = some (.ref f) ∧ PySem.W.nsIn K (cl .CHECKS) "never" = some (some (.ref f))
  m_MOST_TREE : ∃ t, mg "MOST_TREE" = some (.int 200000 t)
  m_MOST_CODE : ∃ t, mg "MOST_CODE" = some (.int 600 t)
  m_REGISTERS : ∃ t, mg "REGISTERS" = some (.int 20 t)
  m_MOST_RING : ∃ t, mg "MOST_RING" = some (.int 8 t)
  m_MOST_NUMBER : ∃ t, mg "MOST_NUMBER" = some (.int 1000000 t)
  m_MOST_INPUTS : ∃ t, mg "MOST_INPUTS" = some (.int 20 t)
  m_Machine : mg "Machine" = some (.ref (cl .Machine)) ∧ Cls K (cl .Machine)
  n_Machine_heads : NoAttr K (cl .Machine) "heads"
  n_Machine_tails : NoAttr K (cl .Machine) "tails"
  n_Machine_sizes : NoAttr K (cl .Machine) "sizes"
  n_Machine_at : NoAttr K (cl .Machine) "at"
  n_Machine_registers : NoAttr K (cl .Machine) "registers"
  n_Machine_plan : NoAttr K (cl .Machine) "plan"
  e_NarcissusError : mg "NarcissusError" = some (.ref (cl .NarcissusError)) ∧ ExcK K (cl .NarcissusError)
  p_NarcissusError_NarcissusError : PySem.W.kitOne K (.ref (cl .NarcissusError)) (.ref (cl .NarcissusError)) = some true ∧ PySem.W.subIn K (.ref (cl .NarcissusError)) (.ref (cl .NarcissusError)) = some true
  p_NarcissusError_TooLarge : PySem.W.kitOne K (.ref (cl .NarcissusError)) (.ref (cl .TooLarge)) = some false ∧ PySem.W.subIn K (.ref (cl .NarcissusError)) (.ref (cl .TooLarge)) = some false
  p_NarcissusError_OutOfSteps : PySem.W.kitOne K (.ref (cl .NarcissusError)) (.ref (cl .OutOfSteps)) = some false ∧ PySem.W.subIn K (.ref (cl .NarcissusError)) (.ref (cl .OutOfSteps)) = some false
  e_TooLarge : mg "TooLarge" = some (.ref (cl .TooLarge)) ∧ ExcK K (cl .TooLarge)
  p_TooLarge_NarcissusError : PySem.W.kitOne K (.ref (cl .TooLarge)) (.ref (cl .NarcissusError)) = some true ∧ PySem.W.subIn K (.ref (cl .TooLarge)) (.ref (cl .NarcissusError)) = some true
  p_TooLarge_TooLarge : PySem.W.kitOne K (.ref (cl .TooLarge)) (.ref (cl .TooLarge)) = some true ∧ PySem.W.subIn K (.ref (cl .TooLarge)) (.ref (cl .TooLarge)) = some true
  p_TooLarge_OutOfSteps : PySem.W.kitOne K (.ref (cl .TooLarge)) (.ref (cl .OutOfSteps)) = some false ∧ PySem.W.subIn K (.ref (cl .TooLarge)) (.ref (cl .OutOfSteps)) = some false
  e_OutOfSteps : mg "OutOfSteps" = some (.ref (cl .OutOfSteps)) ∧ ExcK K (cl .OutOfSteps)
  p_OutOfSteps_NarcissusError : PySem.W.kitOne K (.ref (cl .OutOfSteps)) (.ref (cl .NarcissusError)) = some true ∧ PySem.W.subIn K (.ref (cl .OutOfSteps)) (.ref (cl .NarcissusError)) = some true
  p_OutOfSteps_TooLarge : PySem.W.kitOne K (.ref (cl .OutOfSteps)) (.ref (cl .TooLarge)) = some false ∧ PySem.W.subIn K (.ref (cl .OutOfSteps)) (.ref (cl .TooLarge)) = some false
  p_OutOfSteps_OutOfSteps : PySem.W.kitOne K (.ref (cl .OutOfSteps)) (.ref (cl .OutOfSteps)) = some true ∧ PySem.W.subIn K (.ref (cl .OutOfSteps)) (.ref (cl .OutOfSteps)) = some true
section
variable {P : Program} {w : World} {K : PySem.W.Frag} {mg : Str → Option Value} {base : Heap} {cl : Cn → Addr}
abbrev s_law_stream : Stmt := topS 94
abbrev nm_law_stream : List Str := ["script", "mixed", "cell"]
theorem sc_law_stream : FnScope nm_law_stream ["script"] (defScope s_law_stream) := ⟨rfl, rfl, rfl, by decide +kernel, rfl, by decide +kernel, by decide +kernel⟩
def sp_law_stream (K : PySem.W.Frag) (cl : Cn → Addr) : Sp := fun vs H Q _ => ∃ (a : Addr) (ns : List Int), vs = [.ref a] ∧ SqL K H a (ns.map V.int) ∧ ns.length ≤ 63 ∧ ∀ st H', Same H H' → H st = none → Strm H' st → Q (.ref st) H'
theorem ok_law_stream (T : Txt K mg cl w) {f : Addr} {fd : FuncData} (F : Fun K "_law_stream" "_law_stream" s_law_stream f fd) : FnOk P w K mg base CX0 1 f fd ["script"] (sp_law_stream K cl) := by
  have m_list := T.m_list
  have m_int := T.m_int
  obtain ⟨g_Machine, c_Machine⟩ := T.m_Machine
  have n_heads := T.n_Machine_heads
  have n_tails := T.n_Machine_tails
  have n_sizes := T.n_Machine_sizes
  have n_at := T.n_Machine_at
  have n_registers := T.n_Machine_registers
  have n_plan := T.n_Machine_plan
  refine F.ok sc_law_stream (fun vs H Q E h => ?_) (fun cdv A outer s H vs Q E hr h => ?_)
  · obtain ⟨x, i, rfl, _⟩ := h
    rfl
  · obtain ⟨a, ns, rfl, hS, hlen, q⟩ := h
    refine ⟨_, (pss_cons (ps_set (i := 1) sc_law_stream.nd rfl (Or.inl rfl) pe_int)
      (pss_cons (ps_for PassesOwn.never rfl (pi_list (pv 0)) (pg_name (i := 2) sc_law_stream.nd rfl (Or.inl rfl)) (pss_one (ps_set (i := 1) sc_law_stream.nd rfl (Or.inl rfl) (pe_op op_mod (pe_callTy call_int1 (by rfl) m_int (by decide +kernel) (pa_cons (pe_op op_add (pe_op op_add (pe_op op_mul (pv 1) pe_int) (pe_op op_mod (pe_callTy call_int1 (by rfl) m_int (by decide +kernel) (pa_cons (pv 2) pa_nil)) pe_int)) pe_int) pa_nil)) pe_int))))
      (pss_one (ps_ret (pe_lst (pa_cons (pe_callTy (call_listOf : CallR _ _ (rListOf K)) (by rfl) m_list (by decide +kernel) (pa_cons (pv 0) pa_nil)) (pa_cons pe_int (pa_cons pe_int (pa_cons (pv 1) pa_nil))))))))), ?_⟩
    refine ⟨_, rfl, a, rfl, ⟨_, hS⟩, for_list (K := K) (a := a) (xs := ns.map V.int) (fun i σ H' => ∃ (m : Int) (v : Option V), σ = [some (.ref a), some (.int m), v] ∧ H = H' ∧ 0 ≤ m ∧ m < 2147483647)
      ⟨17, none, rfl, rfl, by decide, by decide⟩ (fun i σ H' _ ⟨_, _, _, e, _⟩ => e ▸ hS) ?_ ?_⟩
    · rintro i y σ H' hi ⟨m, v, rfl, rfl, h1, h2⟩
      obtain ⟨u, _, rfl⟩ := map_int hi
      refine ⟨_, rfl, _, _, rfl, rfl, .inl ⟨by omega, by omega⟩, _, rfl, .inl ⟨_, rfl, _, _, rfl, rfl, (by show (0 : Int) < 65521; omega), _, _, rfl, rfl, _, _, rfl, rfl, .inl ⟨_, rfl, _, _, rfl, rfl, (by show (0 : Int) < 2147483647; omega), ?_⟩⟩⟩
      exact ⟨_, _, rfl, rfl, Int.emod_nonneg _ (by decide), Int.emod_lt_of_pos _ (by decide)⟩
    · rintro σ H' ⟨m, v, rfl, rfl, h1, h2⟩
      refine ⟨_, rfl, _, _, rfl, .inl hS, fun p np => ⟨_, rfl, (by show 4 ≤ sizeLine; decide), fun st nst => ?_⟩⟩
      have n1 : p ≠ st := fun z => by
        rw [z, upd_same] at nst
        cases nst
      refine q st _ (fun b o e => ?_) ?_ ⟨p, ns, 0, 0, m, upd_same, ?_, by decide, by decide, h1, h2⟩
      · rw [upd_ne (fun z => ?_), upd_ne (ne_of_none e np)]
        · exact e
        · rw [z] at e
          rw [upd_ne n1.symm, e] at nst
          cases nst
      · rw [upd_ne n1.symm] at nst
        exact nst
      · rw [upd_ne n1, upd_same]
abbrev s_law_world : Stmt := topS 96
abbrev nm_law_world : List Str := []
theorem sc_law_world : FnScope nm_law_world [] (defScope s_law_world) := ⟨rfl, rfl, rfl, by decide +kernel, rfl, by decide +kernel, by decide +kernel⟩
def sp_law_world (K : PySem.W.Frag) (cl : Cn → Addr) : Sp := fun vs H Q E => vs = [] ∧ ∀ (W Ah At As Ap : Addr) H', Same H H' → (∀ b ∈ W :: wL Ah At As Ap, H b = none) → WAt H' W Ah At As Ap [.leaf] → Q (.ref W) H'
theorem ok_law_world (T : Txt K mg cl w) {f : Addr} {fd : FuncData} (F : Fun K "_law_world" "_law_world" s_law_world f fd) : FnOk P w K mg base CX0 1 f fd [] (sp_law_world K cl) := by
  obtain ⟨g_Machine, c_Machine⟩ := T.m_Machine
  have n_heads := T.n_Machine_heads
  have n_tails := T.n_Machine_tails
  have n_sizes := T.n_Machine_sizes
  have n_at := T.n_Machine_at
  have n_registers := T.n_Machine_registers
  have n_plan := T.n_Machine_plan
  refine F.ok sc_law_world (fun vs H Q E h => ?_) (fun cdv A outer s H vs Q E hr h => ?_)
  · obtain ⟨rfl, _⟩ := h
    rfl
  · obtain ⟨rfl, q⟩ := h
    have hz : sizeLine = 16777216 := rfl
    refine ⟨_, (pss_one (ps_ret (pe_disp (pps_cons pe_str (pe_lst (pa_cons pe_int pa_nil)) (pps_cons pe_str (pe_lst (pa_cons pe_int pa_nil)) (pps_cons pe_str (pe_lst (pa_cons pe_int pa_nil)) (pps_cons pe_str pe_dnewT pps_nil)))) (by rfl) (by rfl) (by decide) (by decide)))), ?_⟩
    refine fun W nW => ⟨(by show 1 ≤ sizeLine; omega), fun Ah nAh => ⟨(by show 1 ≤ sizeLine; omega), fun At nAt => ⟨(by show 1 ≤ sizeLine; omega), fun As nAs => fun Ap nAp => ?_⟩⟩⟩
    have nW0 : ∀ {b : Addr} {X : Hp} {o : HO}, upd X W o b = none → b ≠ W ∧ X b = none := fun {b X o} h => by
      have : b ≠ W := fun z => by rw [z, upd_same] at h; cases h
      exact ⟨this, by rwa [upd_ne this] at h⟩
    have nx : ∀ {b p : Addr} {X : Hp} {o : HO}, upd X p o b = none → b ≠ p ∧ X b = none := fun {b p X o} h => by
      have : b ≠ p := fun z => by rw [z, upd_same] at h; cases h
      exact ⟨this, by rwa [upd_ne this] at h⟩
    obtain ⟨a1, a2⟩ := nx nAh
    obtain ⟨t1, t2⟩ := nx nAt
    obtain ⟨t3, t4⟩ := nx t2
    obtain ⟨s1, s2⟩ := nx nAs
    obtain ⟨s3, s4⟩ := nx s2
    obtain ⟨s5, s6⟩ := nx s4
    obtain ⟨p1, p2⟩ := nx nAp
    obtain ⟨p3, p4⟩ := nx p2
    obtain ⟨p5, p6⟩ := nx p4
    obtain ⟨p7, p8⟩ := nx p6
    have sm := (((Same.upd (o := .dK []) nW).trans (Same.upd (o := .lst [.int 0]) nAh)).trans (Same.upd (o := .lst [.int 0]) nAt)).trans (Same.upd (o := .lst [.int 1]) nAs)
    have sm := sm.trans (Same.upd (o := .dT []) nAp)
    have hW : upd (upd (upd (upd (upd H W (.dK [])) Ah (.lst [.int 0])) At (.lst [.int 0])) As (.lst [.int 1])) Ap (.dT []) W = some (.dK []) := by
      rw [upd_ne p7.symm, upd_ne s5.symm, upd_ne t3.symm, upd_ne a1.symm, upd_same]
    have hAh : upd (upd (upd (upd (upd H W (.dK [])) Ah (.lst [.int 0])) At (.lst [.int 0])) As (.lst [.int 1])) Ap (.dT []) Ah = some (.lst [.int 0]) := by
      rw [upd_ne p5.symm, upd_ne s3.symm, upd_ne t1.symm, upd_same]
    have hAt : upd (upd (upd (upd (upd H W (.dK [])) Ah (.lst [.int 0])) At (.lst [.int 0])) As (.lst [.int 1])) Ap (.dT []) At = some (.lst [.int 0]) := by
      rw [upd_ne p3.symm, upd_ne s1.symm, upd_same]
    have hAs : upd (upd (upd (upd (upd H W (.dK [])) Ah (.lst [.int 0])) At (.lst [.int 0])) As (.lst [.int 1])) Ap (.dT []) As = some (.lst [.int 1]) := by
      rw [upd_ne p1.symm, upd_same]
    have hAp : upd (upd (upd (upd (upd H W (.dK [])) Ah (.lst [.int 0])) At (.lst [.int 0])) As (.lst [.int 1])) Ap (.dT []) Ap = some (.dT []) := upd_same
    refine ⟨hW, wKV Ah At As Ap, rfl, (by show 4 ≤ 15; decide), ?_⟩
    generalize upd (upd (upd (upd (upd H W (.dK [])) Ah (.lst [.int 0])) At (.lst [.int 0])) As (.lst [.int 1])) Ap (.dT []) = H1 at sm hW hAh hAt hAs hAp ⊢
    rw [wKV_merge]
    have nin : ∀ b ∈ W :: wL Ah At As Ap, H b = none := fun b hb => by
      simp only [wL, List.mem_cons, List.not_mem_nil, or_false] at hb
      rcases hb with rfl | rfl | rfl | rfl | rfl
      · exact nW
      · exact a2
      · exact t4
      · exact s6
      · exact p8
    refine q W Ah At As Ap _ (fun b o e => ?_) nin ⟨upd_same, ⟨⟨[0], [0], (upd_ne a1).trans hAh, (upd_ne t3).trans hAt, (upd_ne s5).trans hAs, Tb.new⟩, t1.symm, s3.symm, s1.symm⟩, nd_one, [], (upd_ne p7).trans hAp, PsOk.new⟩
    rw [upd_ne (fun z => by rw [z, nW] at e; cases e)]
    exact sm b o e
abbrev s_law_draw : Stmt := topS 95
abbrev nm_law_draw : List Str := ["stream", "many", "value"]
theorem sc_law_draw : FnScope nm_law_draw ["stream", "many"] (defScope s_law_draw) := ⟨rfl, rfl, rfl, by decide +kernel, rfl, by decide +kernel, by decide +kernel⟩
def sp_law_draw (K : PySem.W.Frag) (cl : Cn → Addr) : Sp := fun vs H Q _ => ∃ (st : Addr) (n : Int), vs = [.ref st, .int n] ∧ 0 < n ∧ n < 1073741824 ∧ Strm H st ∧ ∀ (k : Nat) H', (k : Int) < n → ExS st H H' → Strm H' st → Q (.int k) H'
theorem draw_go {st : Addr} {H : Hp} {n : Int} {Q : VK} (hn : 0 < n) (q : ∀ (k : Nat) H', (k : Int) < n → ExS st H H' → Strm H' st → Q (.int k) H') {H' : Hp} (x : Int) (e : ExS st H H') (s : Strm H' st) : Q (.int (x % n)) H' := by
  have h1 : 0 ≤ x % n := Int.emod_nonneg _ (by omega)
  have h2 := Int.emod_lt_of_pos x hn
  have := q (x % n).toNat H' (by omega) e s
  rw [show (((x % n).toNat : Nat) : Int) = x % n by omega] at this
  exact this
theorem ok_law_draw (T : Txt K mg cl w) {f : Addr} {fd : FuncData} (F : Fun K "_law_draw" "_law_draw" s_law_draw f fd) : FnOk P w K mg base CX0 1 f fd ["stream", "many"] (sp_law_draw K cl) := by
  have m_abs := T.m_abs
  have m_int := T.m_int
  have m_len := T.m_len
  obtain ⟨g_Machine, c_Machine⟩ := T.m_Machine
  have n_heads := T.n_Machine_heads
  have n_tails := T.n_Machine_tails
  have n_sizes := T.n_Machine_sizes
  have n_at := T.n_Machine_at
  have n_registers := T.n_Machine_registers
  have n_plan := T.n_Machine_plan
  refine F.ok sc_law_draw (fun vs H Q E h => ?_) (fun cdv A outer s H vs Q E hr h => ?_)
  · obtain ⟨x, i, rfl, _⟩ := h
    rfl
  · obtain ⟨st, n, rfl, hn, hn2, ⟨l, ns, c, i, m, hst, hl, c0, i0, m0, m1⟩, q⟩ := h
    have nl : l ≠ st := ne_of hl hst (fun z => by
      have := HO.lst.inj z
      cases ns with
      | nil => cases this
      | cons a r => cases (List.cons.inj this).1)
    have hL : SqL K H st [.ref l, .int c, .int i, .int m] := SqL.of hst
    refine ⟨_, (Evl.pss_cut (ps_if (PW.pt (pw_and (pt_cmpR op_eq (pe_ix (ix_list : IxR _ (rIxL K)) (pv 0) pe_int (fun _ _ => rfl)) pe_int (nomark _)) (pw_and1 (pt_cmpR op_lt (pe_ix (ix_list : IxR _ (rIxL K)) (pv 0) pe_int (fun _ _ => rfl)) (pe_callB (call_lenS : CallR _ _ (rLenS K)) (by rfl) m_len (by decide +kernel) (pa_cons (pe_ix (ix_list : IxR _ (rIxL K)) (pv 0) pe_int (fun _ _ => rfl)) pa_nil)) (nomark _))))) (pss_cons (ps_asg (pe_callB call_abs (by rfl) m_abs (by decide +kernel) (pa_cons (pe_callTy call_int1 (by rfl) m_int (by decide +kernel) (pa_cons (pe_ix (ix_list : IxR _ (rIxL K)) (pe_ix (ix_list : IxR _ (rIxL K)) (pv 0) pe_int (fun _ _ => rfl)) (pe_ix (ix_list : IxR _ (rIxL K)) (pv 0) pe_int (fun _ _ => rfl)) (fun _ _ => rfl)) pa_nil)) pa_nil)) (pg_sub (pv 0) pe_int set_list))
      (pss_one (ps_asg (pe_op op_add (pe_ix (ix_list : IxR _ (rIxL K)) (pv 0) pe_int (fun _ _ => rfl)) pe_int) (pg_sub (pv 0) pe_int set_list)))) pss_nil)
      (pss_cons (ps_if (pt_cmpR op_eq (pe_ix (ix_list : IxR _ (rIxL K)) (pv 0) pe_int (fun _ _ => rfl)) pe_int (nomark _)) (pss_cons (ps_asg (pe_op op_mod (pe_callTy call_int1 (by rfl) m_int (by decide +kernel) (pa_cons (pe_op op_add (pe_op op_mul (pe_ix (ix_list : IxR _ (rIxL K)) (pv 0) pe_int (fun _ _ => rfl)) pe_int) pe_int) pa_nil)) pe_int) (pg_sub (pv 0) pe_int set_list))
      (pss_one (ps_ret (pe_op op_mod (pe_callTy call_int1 (by rfl) m_int (by decide +kernel) (pa_cons (pe_op op_fdiv (pe_ix (ix_list : IxR _ (rIxL K)) (pv 0) pe_int (fun _ _ => rfl)) pe_int) pa_nil)) (pv 1))))) pss_nil)
      (pss_cons (ps_set (i := 2) sc_law_draw.nd rfl (Or.inl rfl) (pe_op op_mod (pe_callTy call_int1 (by rfl) m_int (by decide +kernel) (pa_cons (pe_ix (ix_list : IxR _ (rIxL K)) (pv 0) pe_int (fun _ _ => rfl)) pa_nil)) (pv 1)))
      (pss_cons (ps_asg (pe_op op_fdiv (pe_ix (ix_list : IxR _ (rIxL K)) (pv 0) pe_int (fun _ _ => rfl)) (pv 1)) (pg_sub (pv 0) pe_int set_list))
      (pss_one (ps_ret (pv 2))))))), ?_⟩
    -- the first part leaves a row again
    refine ⟨fun σ H' => ∃ (c i : Int), σ = [some (.ref st), some (.int n), none] ∧ 0 ≤ c ∧ 0 ≤ i ∧ ExS st H H' ∧ H' st = some (.lst [.ref l, .int c, .int i, .int m]) ∧ H' l = some (.lst (ns.map V.int)), ?_, ?_⟩
    · refine ⟨_, rfl, _, _, _, _, rfl, rfl, hL, rfl, rfl, _, rfl, ?_⟩
      by_cases hc : c = 0
      · subst hc
        rw [decide_eq_true rfl]
        refine iteT ?_
        refine ⟨_, rfl, _, _, _, _, rfl, rfl, hL, rfl, _, rfl, _, _, _, _, rfl, rfl, hL, rfl, _, _, rfl, .inl (SqL.of hl), _, _, rfl, rfl, _, rfl, ?_⟩
        by_cases hi : i < (((ns.map V.int).length : Nat) : Int)
        · rw [decide_eq_true hi]
          refine iteT ?_
          obtain ⟨j, rfl⟩ : ∃ j : Nat, i = j := ⟨i.toNat, by omega⟩
          have hj : j < ns.length := by
            rw [List.length_map] at hi
            omega
          have ha : atI (ns.map V.int) (j : Int) = some (.int ns[j]) := atI_nat (by rw [List.getElem?_map, List.getElem?_eq_getElem hj]; rfl)
          refine ⟨_, rfl, _, _, _, _, rfl, rfl, hL, rfl, _, rfl, _, _, _, _, rfl, rfl, hL, rfl, _, _, _, _, rfl, rfl, SqL.of hl, ha, .inl ⟨_, rfl, _, rfl, ?_⟩⟩
          refine ⟨_, rfl, _, _, _, 1, rfl, rfl, hst, rfl, ?_⟩
          refine ⟨_, rfl, _, _, _, _, rfl, rfl, SqL.of upd_same, rfl, _, _, rfl, rfl, ?_⟩
          refine ⟨_, rfl, _, _, _, 2, rfl, rfl, upd_same, rfl, ?_⟩
          refine ⟨_, _, rfl, ?_, ?_, ?_, upd_same, ?_⟩
          · split <;> omega
          · omega
          · rw [upd_upd]
            exact ExS.put hst
          · rw [upd_upd, upd_ne nl]
            exact hl
        · rw [decide_eq_false hi]
          refine iteF ?_
          exact ⟨_, _, rfl, c0, i0, .refl, hst, hl⟩
      · rw [decide_eq_false (fun z => hc (V.int.inj z))]
        refine iteF (iteF ?_)
        exact ⟨_, _, rfl, c0, i0, .refl, hst, hl⟩
    · rintro σ H1 ⟨c, i, rfl, c0, i0, ex, hst, hl⟩
      have hL : SqL K H1 st [.ref l, .int c, .int i, .int m] := SqL.of hst
      refine ⟨_, rfl, _, _, _, _, rfl, rfl, hL, rfl, rfl, _, rfl, ?_⟩
      refine ite2 (fun e => ?_) (fun e => ?_)
      · refine ⟨_, rfl, _, _, _, _, rfl, rfl, hL, rfl, _, _, rfl, rfl, .inl ⟨by omega, by omega⟩, _, _, rfl, rfl, .inl ⟨_, rfl, _, _, rfl, rfl, (by show (0 : Int) < 2147483647; omega), ?_⟩⟩
        refine ⟨_, rfl, _, _, _, 3, rfl, rfl, hst, rfl, ?_⟩
        refine ⟨_, rfl, _, _, _, _, rfl, rfl, SqL.of upd_same, rfl, _, _, rfl, rfl, ⟨by show (0 : Int) < 97; omega, by show (97 : Int) < 1073741824; omega⟩, .inl ⟨_, rfl, _, rfl, _, _, rfl, rfl, hn, ?_⟩⟩
        refine draw_go hn q _ (ex.trans (ExS.put hst)) ⟨l, ns, _, _, _, upd_same, ?_, c0, i0, Int.emod_nonneg _ (by decide), Int.emod_lt_of_pos _ (by decide)⟩
        rw [upd_ne nl]
        exact hl
      · refine ⟨_, rfl, _, _, _, _, rfl, rfl, hL, rfl, .inl ⟨_, rfl, _, rfl, _, _, rfl, rfl, hn, ?_⟩⟩
        refine ⟨_, rfl, _, _, _, _, rfl, rfl, hL, rfl, _, rfl, _, _, rfl, rfl, ⟨hn, hn2⟩, ?_⟩
        refine ⟨_, rfl, _, _, _, 1, rfl, rfl, hst, rfl, ?_⟩
        refine ⟨_, rfl, ?_⟩
        refine draw_go hn q _ (ex.trans (ExS.put hst)) ⟨l, ns, _, _, _, upd_same, ?_, Int.ediv_nonneg c0 (by omega), i0, m0, m1⟩
        rw [upd_ne nl]
        exact hl
abbrev s_law_registers : Stmt := topS 104
abbrev nm_law_registers : List Str := ["stream"]
theorem sc_law_registers : FnScope nm_law_registers ["stream"] (defScope s_law_registers) := ⟨rfl, rfl, rfl, by decide +kernel, rfl, by decide +kernel, by decide +kernel⟩
def regB : Nat := 20
def sp_law_registers (K : PySem.W.Frag) (cl : Cn → Addr) : Sp := fun vs H Q _ => ∃ (st : Addr), vs = [.ref st] ∧ Strm H st ∧ ∀ (w : Nat) H', 1 ≤ w → w ≤ regB → ExS st H H' → Strm H' st → Q (.int w) H'
theorem ok_law_registers (T : Txt K mg cl w) (H_law_draw : Has P w K mg base CX0 1 "_law_draw" ["stream", "many"] (sp_law_draw K cl)) {f : Addr} {fd : FuncData} (F : Fun K "_law_registers" "_law_registers" s_law_registers f fd) : FnOk P w K mg base CX0 2 f fd ["stream"] (sp_law_registers K cl) := by
  obtain ⟨g_Machine, c_Machine⟩ := T.m_Machine
  have n_heads := T.n_Machine_heads
  have n_tails := T.n_Machine_tails
  have n_sizes := T.n_Machine_sizes
  have n_at := T.n_Machine_at
  have n_registers := T.n_Machine_registers
  have n_plan := T.n_Machine_plan
  obtain ⟨f_law_draw, d_law_draw, G_law_draw, g_law_draw, k_law_draw, b_law_draw⟩ := H_law_draw.ex
  refine F.ok sc_law_registers (fun vs H Q E h => ?_) (fun cdv A outer s H vs Q E hr h => ?_)
  · obtain ⟨st, rfl, _⟩ := h
    rfl
  · obtain ⟨st, rfl, st1, q⟩ := h
    have hz : sizeLine = 16777216 := rfl
    refine ⟨_, (pss_cons (ps_if (pt_cmpR op_eq (pe_call G_law_draw (hr.mono (by decide)) (by rfl) g_law_draw k_law_draw b_law_draw .nil pass0 (pa_cons (pv 0) (pa_cons pe_int pa_nil))) pe_int (nomark _)) (pss_one (ps_ret (pe_ix (ix_list : IxR _ (rIxL K)) (pe_lst (pa_cons pe_int (pa_cons pe_int pa_nil))) (pe_call G_law_draw (hr.mono (by decide)) (by rfl) g_law_draw k_law_draw b_law_draw .nil pass0 (pa_cons (pv 0) (pa_cons pe_int pa_nil))) (fun _ _ => rfl)))) pss_nil)
      (pss_one (ps_ret (pe_op op_add pe_int (pe_call G_law_draw (hr.mono (by decide)) (by rfl) g_law_draw k_law_draw b_law_draw .nil pass0 (pa_cons (pv 0) (pa_cons pe_int pa_nil))))))), ?_⟩
    refine ⟨_, rfl, st, _, rfl, by decide, by decide, st1, fun d H1 hd ex1 st2 => ?_⟩
    refine ⟨rfl, _, rfl, ?_⟩
    refine ite2 (fun c => ?_) (fun c => ?_)
    · refine ⟨(by show 2 ≤ sizeLine; omega), fun D nD => ⟨_, rfl, st, _, rfl, by decide, by decide, (Same.upd nD).strm st2, fun d2 H2 hd2 ex2 st3 => ?_⟩⟩
      have nDs : D ≠ st := st2.ne nD
      refine ixL_any (ex2 _ _ nDs upd_same) (by show d2 < 2; omega) fun v hv => ?_
      have ex3 := (ex1.trans (Same.upd (o := .lst [.int 16, .int 20]) nD).exs).trans ex2
      simp only [List.mem_cons, List.not_mem_nil, or_false] at hv
      rcases hv with rfl | rfl
      · exact q 16 H2 (by decide) (by decide) ex3 st3
      · exact q 20 H2 (by decide) (by decide) ex3 st3
    · refine ⟨_, rfl, st, _, rfl, by decide, by decide, st2, fun d2 H2 hd2 ex2 st3 => ⟨_, _, rfl, rfl, ?_⟩⟩
      have := q (1 + d2) H2 (by omega) (by unfold regB; omega) (ex1.trans ex2) st3
      rw [show ((1 + d2 : Nat) : Int) = (1 : Int) + (d2 : Int) by omega] at this
      exact this
abbrev s_law_tree : Stmt := topS 103
abbrev nm_law_tree : List Str := ["stream", "pairs", "left"]
theorem sc_law_tree : FnScope nm_law_tree ["stream", "pairs"] (defScope s_law_tree) := ⟨rfl, rfl, rfl, by decide +kernel, rfl, by decide +kernel, by decide +kernel⟩
def sp_law_tree_n (n : Nat) (K : PySem.W.Frag) (cl : Cn → Addr) : Sp := fun vs H Q _ => ∃ (st : Addr) (d : Nat), vs = [.ref st, .int d] ∧ d < n ∧ d ≤ 100 ∧ Strm H st ∧ ∀ (t : Tr) H', t.pairs = d → ExS st H H' → Strm H' st → Q (.str t.str) H'
theorem sp_law_tree_0 (K : PySem.W.Frag) (cl : Cn → Addr) {vs : List V} {H : Hp} {Q : VK} {E : XK} : ¬ sp_law_tree_n 0 K cl vs H Q E := fun ⟨_, _, _, h, _⟩ => Nat.not_lt_zero _ h
def sp_law_tree (K : PySem.W.Frag) (cl : Cn → Addr) : Sp := sp_law_tree_n 40 K cl
theorem ok_law_tree (T : Txt K mg cl w) (H_law_draw : Has P w K mg base CX0 1 "_law_draw" ["stream", "many"] (sp_law_draw K cl)) {f : Addr} {fd : FuncData} (F : Fun K "_law_tree" "_law_tree" s_law_tree f fd) (g_law_tree : mg "_law_tree" = some (.ref f)) (b_law_tree : Binds K fd ["stream", "pairs"] []) : ∀ n : Nat, FnOk P w K mg base CX0 (2 + n) f fd ["stream", "pairs"] (sp_law_tree_n n K cl) := by
  obtain ⟨g_Machine, c_Machine⟩ := T.m_Machine
  have n_heads := T.n_Machine_heads
  have n_tails := T.n_Machine_tails
  have n_sizes := T.n_Machine_sizes
  have n_at := T.n_Machine_at
  have n_registers := T.n_Machine_registers
  have n_plan := T.n_Machine_plan
  obtain ⟨f_law_draw, d_law_draw, G_law_draw, g_law_draw, k_law_draw, b_law_draw⟩ := H_law_draw.ex
  have k_law_tree := F.kp
  intro n
  induction n with
  | zero => exact F.ok sc_law_tree (fun vs H Q E h => absurd h (sp_law_tree_0 K cl)) (fun cdv A outer s H vs Q E hr h => absurd h (sp_law_tree_0 K cl))
  | succ n G_law_tree =>
  refine F.ok sc_law_tree (fun vs H Q E h => ?_) (fun cdv A outer s H vs Q E hr h => ?_)
  · obtain ⟨st, d, rfl, _⟩ := h
    rfl
  · obtain ⟨st, d, rfl, hd, hd2, st1, q⟩ := h
    have hz : sizeLine = 16777216 := rfl
    have hr : Room (2 + n) _ := hr
    refine ⟨_, (pss_cons (ps_if (pt_cmpR op_eq (pv 1) pe_int (nomark _)) (pss_one (ps_ret pe_str)) pss_nil)
      (pss_cons (ps_set (i := 2) sc_law_tree.nd rfl (Or.inl rfl) (pe_call G_law_draw (hr.mono (by first | decide | omega)) (by rfl) g_law_draw k_law_draw b_law_draw .nil pass0 (pa_cons (pv 0) (pa_cons (pv 1) pa_nil))))
      (pss_one (ps_ret (pe_op op_add_str (pe_op op_add_str pe_str (pe_call G_law_tree (hr.mono (by first | decide | omega)) (by rfl) g_law_tree k_law_tree b_law_tree .nil pass0 (pa_cons (pv 0) (pa_cons (pv 2) pa_nil)))) (pe_call G_law_tree (hr.mono (by first | decide | omega)) (by rfl) g_law_tree k_law_tree b_law_tree .nil pass0 (pa_cons (pv 0) (pa_cons (pe_op op_sub (pe_op op_sub (pv 1) pe_int) (pv 2)) pa_nil)))))))), ?_⟩
    refine ⟨_, rfl, rfl, _, rfl, ?_⟩
    by_cases c : d = 0
    · subst c
      refine iteS rfl ?_
      exact q .leaf H rfl .refl st1
    refine iteNo (fun z => c (by have := V.int.inj z; omega)) ?_
    have d0 : 0 < (d : Int) := by omega
    have d1 : (d : Int) < 1073741824 := by omega
    refine ⟨_, rfl, _, rfl, st, (d : Int), rfl, d0, d1, st1, fun l H1 hl ex1 st1' => ?_⟩
    have hl2 : l < n := by omega
    have hl3 : d - 1 - l < n := by omega
    have e3 : (d : Int) - 1 - (l : Int) = ((d - 1 - l : Nat) : Int) := by omega
    have ll : (Str.ofString "1").length = 1 := by decide +kernel
    refine ⟨_, rfl, _, rfl, st, l, rfl, hl2, by omega, st1', fun a H2 ha ex2 st2 => ?_⟩
    have la := a.str_len
    have sa := a.sg_len
    refine ⟨_, _, rfl, rfl, (by rw [ll]; omega), _, rfl, _, rfl, _, _, rfl, rfl, _, rfl, _, _, rfl, rfl, st, d - 1 - l, (by show [V.ref st, V.int ((d : Int) - 1 - (l : Int))] = _; rw [e3]), hl3, by omega, st2, fun b H3 hb ex3 st3 => ?_⟩
    have lb := b.str_len
    have sb := b.sg_len
    refine ⟨_, _, rfl, rfl, (by rw [Str.length_append, ll]; omega), ?_⟩
    rw [str_cons]
    exact q (.node a b) H3 (by show a.pairs + b.pairs + 1 = d; omega) ((ex1.trans ex2).trans ex3) st3
abbrev s_law_random_program : Stmt := topS 105
abbrev nm_law_random_program : List Str := ["stream", "many", "wide", "rows", "k", "pick", "a", "b"]
theorem sc_law_random_program : FnScope nm_law_random_program ["stream"] (defScope s_law_random_program) := ⟨rfl, rfl, rfl, by decide +kernel, rfl, by decide +kernel, by decide +kernel⟩
def sp_law_random_program (K : PySem.W.Frag) (cl : Cn → Addr) : Sp := fun vs H Q _ => ∃ (st : Addr), vs = [.ref st] ∧ Strm H st ∧
  ∀ p H' is, ExS st H H' → Strm H' st → H p = none → PgAt H' p is → is.length ≤ 8 → PgOk regB 4 is → Q (.ref p) H'
theorem ok_law_random_program (T : Txt K mg cl w) (H_law_draw : Has P w K mg base CX0 1 "_law_draw" ["stream", "many"] (sp_law_draw K cl)) (H_law_registers : Has P w K mg base CX0 2 "_law_registers" ["stream"] (sp_law_registers K cl)) (H_law_tree : Has P w K mg base CX0 42 "_law_tree" ["stream", "pairs"] (sp_law_tree K cl)) {f : Addr} {fd : FuncData} (F : Fun K "_law_random_program" "_law_random_program" s_law_random_program f fd) : FnOk P w K mg base CX0 43 f fd ["stream"] (sp_law_random_program K cl) := by
  have m_range := T.m_range
  obtain ⟨g_Machine, c_Machine⟩ := T.m_Machine
  have n_heads := T.n_Machine_heads
  have n_tails := T.n_Machine_tails
  have n_sizes := T.n_Machine_sizes
  have n_at := T.n_Machine_at
  have n_registers := T.n_Machine_registers
  have n_plan := T.n_Machine_plan
  obtain ⟨f_law_draw, d_law_draw, G_law_draw, g_law_draw, k_law_draw, b_law_draw⟩ := H_law_draw.ex
  obtain ⟨f_law_registers, d_law_registers, G_law_registers, g_law_registers, k_law_registers, b_law_registers⟩ := H_law_registers.ex
  obtain ⟨f_law_tree, d_law_tree, G_law_tree, g_law_tree, k_law_tree, b_law_tree⟩ := H_law_tree.ex
  refine F.ok sc_law_random_program (fun vs H Q E h => ?_) (fun cdv A outer s H vs Q E hr h => ?_)
  · obtain ⟨x, rfl, _⟩ := h
    rfl
  · obtain ⟨st, rfl, st0, q⟩ := h
    have hz : sizeLine = 16777216 := rfl
    refine ⟨_, (pss_cons (ps_set (i := 1) sc_law_random_program.nd rfl (Or.inl rfl) (pe_call G_law_draw (hr.mono (by decide)) (by rfl) g_law_draw k_law_draw b_law_draw .nil pass0 (pa_cons (pv 0) (pa_cons pe_int pa_nil))))
      (pss_cons (ps_set (i := 2) sc_law_random_program.nd rfl (Or.inl rfl) (pe_call G_law_registers (hr.mono (by decide)) (by rfl) g_law_registers k_law_registers b_law_registers .nil pass0 (pa_cons (pv 0) pa_nil)))
      (pss_cons (ps_set (i := 3) sc_law_random_program.nd rfl (Or.inl rfl) (pe_lst pa_nil))
      (pss_cons (ps_for PassesOwn.never rfl (pi_range1 (by rfl) m_range (pa_cons (pv 1) pa_nil)) (pg_name (i := 4) sc_law_random_program.nd rfl (Or.inl rfl)) (pss_cons (ps_set (i := 5) sc_law_random_program.nd rfl (Or.inl rfl) (pe_call G_law_draw (hr.mono (by decide)) (by rfl) g_law_draw k_law_draw b_law_draw .nil pass0 (pa_cons (pv 0) (pa_cons pe_int pa_nil))))
      (pss_cons (ps_set (i := 6) sc_law_random_program.nd rfl (Or.inl rfl) (pe_call G_law_draw (hr.mono (by decide)) (by rfl) g_law_draw k_law_draw b_law_draw .nil pass0 (pa_cons (pv 0) (pa_cons (pv 2) pa_nil))))
      (pss_cons (ps_set (i := 7) sc_law_random_program.nd rfl (Or.inl rfl) (pe_call G_law_draw (hr.mono (by decide)) (by rfl) g_law_draw k_law_draw b_law_draw .nil pass0 (pa_cons (pv 0) (pa_cons (pv 2) pa_nil))))
      (pss_one (ps_if (pt_cmpR op_eq (pv 5) pe_int (nomark _)) (pss_one (ps_expr (pe_bm PySem.F.plainAttrs_list PySem.F.slot_list_append PySem.F.type_list_append mt_append (pv 3) (pa_cons (pe_tup (pa_cons pe_str (pa_cons (pv 6) (pa_cons (pe_call G_law_tree (hr.mono (by decide)) (by rfl) g_law_tree k_law_tree b_law_tree .nil pass0 (pa_cons (pv 0) (pa_cons (pe_call G_law_draw (hr.mono (by decide)) (by rfl) g_law_draw k_law_draw b_law_draw .nil pass0 (pa_cons (pv 0) (pa_cons pe_int pa_nil))) pa_nil))) pa_nil)))) pa_nil)))) (pss_one (ps_if (pt_cmpR op_eq (pv 5) pe_int (nomark _)) (pss_one (ps_expr (pe_bm PySem.F.plainAttrs_list PySem.F.slot_list_append PySem.F.type_list_append mt_append (pv 3) (pa_cons (pe_tup (pa_cons pe_str (pa_cons (pv 6) (pa_cons (pv 7) pa_nil)))) pa_nil)))) (pss_one (ps_if (pt_cmpR op_lt (pv 5) pe_int (nomark _)) (pss_one (ps_expr (pe_bm PySem.F.plainAttrs_list PySem.F.slot_list_append PySem.F.type_list_append mt_append (pv 3) (pa_cons (pe_tup (pa_cons pe_str (pa_cons (pv 6) (pa_cons (pv 7) (pa_cons (pe_call G_law_draw (hr.mono (by decide)) (by rfl) g_law_draw k_law_draw b_law_draw .nil pass0 (pa_cons (pv 0) (pa_cons (pv 2) pa_nil))) pa_nil))))) pa_nil)))) (pss_one (ps_if (pt_cmpR op_lt (pv 5) pe_int (nomark _)) (pss_one (ps_expr (pe_bm PySem.F.plainAttrs_list PySem.F.slot_list_append PySem.F.type_list_append mt_append (pv 3) (pa_cons (pe_tup (pa_cons (pe_ix (ix_list : IxR _ (rIxL K)) (pe_lst (pa_cons pe_str (pa_cons pe_str pa_nil))) (pe_op op_sub (pv 5) pe_int) (fun _ _ => rfl)) (pa_cons (pv 6) (pa_cons (pv 7) pa_nil)))) pa_nil)))) (pss_one (ps_if (PW.pt (pw_and (pt_cmpR op_eq (pv 5) pe_int (nomark _)) (pw_and1 (pt_cmpR op_eq (pe_call G_law_draw (hr.mono (by decide)) (by rfl) g_law_draw k_law_draw b_law_draw .nil pass0 (pa_cons (pv 0) (pa_cons pe_int pa_nil))) pe_int (nomark _))))) (pss_one (ps_expr (pe_bm PySem.F.plainAttrs_list PySem.F.slot_list_append PySem.F.type_list_append mt_append (pv 3) (pa_cons (pe_tup (pa_cons pe_str (pa_cons (pv 6) (pa_cons (pe_op op_sub pe_int (pe_call G_law_draw (hr.mono (by decide)) (by rfl) g_law_draw k_law_draw b_law_draw .nil pass0 (pa_cons (pv 0) (pa_cons (pe_op op_add (pv 4) pe_int) pa_nil)))) pa_nil)))) pa_nil)))) (pss_one (ps_expr (pe_bm PySem.F.plainAttrs_list PySem.F.slot_list_append PySem.F.type_list_append mt_append (pv 3) (pa_cons (pe_tup (pa_cons pe_str (pa_cons (pv 6) (pa_cons (pe_op op_add pe_int (pe_call G_law_draw (hr.mono (by decide)) (by rfl) g_law_draw k_law_draw b_law_draw .nil pass0 (pa_cons (pv 0) (pa_cons (pe_op op_sub (pv 1) (pv 4)) pa_nil)))) pa_nil)))) pa_nil))))))))))))))))))
      (pss_one (ps_ret (pv 3))))))), ?_⟩
    refine ⟨_, rfl, st, _, rfl, by decide, by decide, st0, fun many H1 hmany ex1 st1 => ?_⟩
    refine ⟨_, rfl, st, rfl, st1, fun wide H2 hw0 hw ex2 st2 => ?_⟩
    have hw20 : wide ≤ 20 := Nat.le_trans hw (by decide)
    have w1 : 0 < (wide : Int) := by omega
    have w2 : (wide : Int) < 1073741824 := by omega
    refine ⟨Nat.zero_le _, fun p np => ?_⟩
    have nps : p ≠ st := st2.ne np
    refine ⟨_, rfl, many, rfl, by omega, by omega, ?_⟩
    refine for_range (lo := 0) (n := many) (fun i σ H' => ∃ (as : List Addr) (is : List Ins) (v4 v5 v6 v7 : Option V), σ = [some (.ref st), some (.int many), some (.int wide), some (.ref p), v4, v5, v6, v7] ∧ is.length = i ∧ PIn 4 H2 st p wide many as is H')
      ⟨[], [], none, none, none, none, rfl, rfl, ⟨upd_same, .nil, fun j x h => (by cases h), .off nps np .refl, st2.off np .refl st2⟩⟩ ?_ ?_
    · rintro i σ H3 hi ⟨as, is, v4, v5, v6, v7, rfl, rfl, inv⟩
      have hsz := inv.size
      have e0 : (0 : Int) + (is.length : Int) = (is.length : Int) := Int.zero_add _
      refine ⟨_, rfl, st, _, rfl, by decide, by decide, inv.sm, fun pick H4 hpick ex4 st4 => ?_⟩
      have inv4 := inv.go nps ex4 st4
      refine ⟨_, rfl, _, rfl, st, _, rfl, w1, w2, inv4.sm, fun a H5 ha ex5 st5 => ?_⟩
      have inv5 := inv4.go nps ex5 st5
      refine ⟨_, rfl, _, rfl, st, _, rfl, w1, w2, inv5.sm, fun b H6 hb ex6 st6 => ?_⟩
      have inv6 := inv5.go nps ex6 st6
      have ha2 : a < wide := by omega
      have hb2 : b < wide := by omega
      have hbound : (as.map V.ref).length < sizeLine := by omega
      clear inv inv4 inv5
      refine ⟨_, rfl, rfl, _, rfl, ?_⟩
      have done : ∀ {X : Hp} {i' : Ins}, PIn 4 H2 st p wide many as is X → i'.ok wide 4 is.length many → ∀ {T : Addr} (_ : X T = none), ∃ (as' : List Addr) (is' : List Ins) (v4' v5' v6' v7' : Option V), [some (.ref st), some (.int many), some (.int wide), some (.ref p), some (.int (0 + (is.length : Int))), some (.int pick), some (.int a), some (.int b)] = [some (.ref st), some (.int many), some (.int wide), some (.ref p), v4', v5', v6', v7'] ∧ is'.length = is.length + 1 ∧ PIn 4 H2 st p wide many as' is' (upd (upd X T (.tup i'.vs)) p (.lst (as.map V.ref ++ [.ref T]))) := fun {X i'} inv hok {T} nT =>
        ⟨as ++ [T], is ++ [i'], _, _, _, _, rfl, by rw [List.length_append]; rfl, inv.push np st2 hok nT⟩
      by_cases c0 : pick = 0
      · subst c0
        refine iteS rfl ⟨_, rfl, .inl ⟨rfl, _, SqL.of inv6.at_⟩, _, rfl, _, rfl, _, rfl, st, _, rfl, by decide, by decide, inv6.sm, fun d H7 hd ex7 st7 => ?_⟩
        refine ⟨st, d, rfl, (by show d < 40; omega), by omega, st7, fun t H8 ht ex8 st8 => ?_⟩
        have inv8 := (inv6.go nps ex7 st7).go nps ex8 st8
        refine ⟨(by show 3 ≤ sizeLine; omega), fun T nT => ⟨p, _, _, rfl, rfl, Same.upd nT _ _ inv8.at_, hbound, ?_⟩⟩
        exact done (i' := .set a t) inv8 ⟨ha2, by omega⟩ nT
      refine iteNo (fun z => c0 (by have := V.int.inj z; omega)) ⟨_, rfl, rfl, _, rfl, ?_⟩
      by_cases c1 : pick = 1
      · subst c1
        refine iteS rfl ⟨_, rfl, .inl ⟨rfl, _, SqL.of inv6.at_⟩, _, rfl, _, rfl, (by show 3 ≤ sizeLine; omega), fun T nT => ⟨p, _, _, rfl, rfl, Same.upd nT _ _ inv6.at_, hbound, ?_⟩⟩
        exact done (i' := .move a b) inv6 ⟨ha2, hb2⟩ nT
      refine iteNo (fun z => c1 (by have := V.int.inj z; omega)) ⟨_, rfl, _, _, rfl, rfl, _, rfl, ?_⟩
      by_cases c2 : pick < 4
      · refine iteT' (decide_eq_true (by show (pick : Int) < 4; omega)) ⟨_, rfl, .inl ⟨rfl, _, SqL.of inv6.at_⟩, _, rfl, _, rfl, _, rfl, _, rfl, st, _, rfl, w1, w2, inv6.sm, fun c H7 hc ex7 st7 => ?_⟩
        have inv7 := inv6.go nps ex7 st7
        refine ⟨(by show 4 ≤ sizeLine; omega), fun T nT => ⟨p, _, _, rfl, rfl, Same.upd nT _ _ inv7.at_, hbound, ?_⟩⟩
        exact done (i' := .cons a b c) inv7 ⟨ha2, hb2, by omega⟩ nT
      refine iteF' (decide_eq_false (by show ¬ (pick : Int) < 4; omega)) ⟨_, rfl, _, _, rfl, rfl, _, rfl, ?_⟩
      by_cases c3 : pick < 6
      · refine iteT' (decide_eq_true (by show (pick : Int) < 6; omega)) ⟨_, rfl, .inl ⟨rfl, _, SqL.of inv6.at_⟩, (by show 2 ≤ sizeLine; omega), fun D nD => ⟨_, rfl, _, _, rfl, rfl, ?_⟩⟩
        have inv7 := inv6.go nps (Same.upd (o := .lst [.str "head", .str "tail"]) nD).exs ((Same.upd nD).strm inv6.sm)
        have hD : upd H6 D (.lst [.str "head", .str "tail"]) D = some (.lst [.str "head", .str "tail"]) := upd_same
        generalize upd H6 D (.lst [V.str "head", V.str "tail"]) = H7 at inv7 hD ⊢
        by_cases c4 : pick = 4
        · subst c4
          refine ⟨_, _, _, _, rfl, rfl, SqL.of hD, atI_nat (j := 0) rfl, _, rfl, _, rfl, (by show 3 ≤ sizeLine; omega), fun T nT => ⟨p, _, _, rfl, rfl, Same.upd nT _ _ inv7.at_, hbound, ?_⟩⟩
          exact done (i' := .head a b) inv7 ⟨ha2, hb2⟩ nT
        · have : pick = 5 := by omega
          subst this
          refine ⟨_, _, _, _, rfl, rfl, SqL.of hD, atI_nat (j := 1) rfl, _, rfl, _, rfl, (by show 3 ≤ sizeLine; omega), fun T nT => ⟨p, _, _, rfl, rfl, Same.upd nT _ _ inv7.at_, hbound, ?_⟩⟩
          exact done (i' := .tail a b) inv7 ⟨ha2, hb2⟩ nT
      refine iteF' (decide_eq_false (by show ¬ (pick : Int) < 6; omega)) ?_
      have back : ∀ {X : Hp}, PIn 4 H2 st p wide many as is X → ∀ (d : Nat), d ≤ is.length → ∀ {T : Addr} (_ : X T = none), ∃ (as' : List Addr) (is' : List Ins) (v4' v5' v6' v7' : Option V), [some (.ref st), some (.int many), some (.int wide), some (.ref p), some (.int (0 + (is.length : Int))), some (.int pick), some (.int a), some (.int b)] = [some (.ref st), some (.int many), some (.int wide), some (.ref p), v4', v5', v6', v7'] ∧ is'.length = is.length + 1 ∧ PIn 4 H2 st p wide many as' is' (upd (upd X T (.tup [.str "jump", .int a, .int (0 - (d : Int))])) p (.lst (as.map V.ref ++ [.ref T]))) := fun {X} inv d hd {T} nT => done (i' := .jump a (0 - (d : Int))) inv ⟨ha2, by omega, by omega⟩ nT
      have forth : ∀ {X : Hp}, PIn 4 H2 st p wide many as is X → ∀ (d : Nat), d < many - is.length → ∀ {T : Addr} (_ : X T = none), ∃ (as' : List Addr) (is' : List Ins) (v4' v5' v6' v7' : Option V), [some (.ref st), some (.int many), some (.int wide), some (.ref p), some (.int (0 + (is.length : Int))), some (.int pick), some (.int a), some (.int b)] = [some (.ref st), some (.int many), some (.int wide), some (.ref p), v4', v5', v6', v7'] ∧ is'.length = is.length + 1 ∧ PIn 4 H2 st p wide many as' is' (upd (upd X T (.tup [.str "jump", .int a, .int (1 + (d : Int))])) p (.lst (as.map V.ref ++ [.ref T]))) := fun {X} inv d hd {T} nT => done (i' := .jump a (1 + (d : Int))) inv ⟨ha2, by omega, by omega⟩ nT
      refine ⟨_, rfl, rfl, _, rfl, ?_⟩
      by_cases c5 : pick = 6
      · subst c5
        refine iteS rfl ⟨_, rfl, st, _, rfl, by decide, by decide, inv6.sm, fun e H7 he ex7 st7 => ⟨rfl, _, rfl, ?_⟩⟩
        have inv7 := inv6.go nps ex7 st7
        refine ite2 (fun c => ?_) (fun c => ?_)
        · refine ⟨_, rfl, .inl ⟨rfl, _, SqL.of inv7.at_⟩, _, rfl, _, rfl, _, rfl, _, _, rfl, rfl, st, (0 + (is.length : Int)) + 1, rfl, by omega, by omega, inv7.sm, fun d H9 hd ex9 st9 => ?_⟩
          have inv9 := inv7.go nps ex9 st9
          refine ⟨_, _, rfl, rfl, (by show 3 ≤ sizeLine; omega), fun T nT => ⟨p, _, _, rfl, rfl, Same.upd nT _ _ inv9.at_, hbound, ?_⟩⟩
          exact back inv9 d (by omega) nT
        · skip
          refine ⟨_, rfl, .inl ⟨rfl, _, SqL.of inv7.at_⟩, _, rfl, _, rfl, _, rfl, _, rfl, _, _, rfl, rfl, st, (many : Int) - (0 + (is.length : Int)), rfl, by omega, by omega, inv7.sm, fun d H9 hd ex9 st9 => ?_⟩
          have inv9 := inv7.go nps ex9 st9
          refine ⟨_, _, rfl, rfl, (by show 3 ≤ sizeLine; omega), fun T nT => ⟨p, _, _, rfl, rfl, Same.upd nT _ _ inv9.at_, hbound, ?_⟩⟩
          exact forth inv9 d (by omega) nT
      refine iteNo (fun z => c5 (by have := V.int.inj z; omega)) (iteF ?_)
      refine ⟨_, rfl, .inl ⟨rfl, _, SqL.of inv6.at_⟩, _, rfl, _, rfl, _, rfl, _, rfl, _, _, rfl, rfl, st, (many : Int) - (0 + (is.length : Int)), rfl, by omega, by omega, inv6.sm, fun d H9 hd ex9 st9 => ?_⟩
      have inv9 := inv6.go nps ex9 st9
      refine ⟨_, _, rfl, rfl, (by show 3 ≤ sizeLine; omega), fun T nT => ⟨p, _, _, rfl, rfl, Same.upd nT _ _ inv9.at_, hbound, ?_⟩⟩
      exact forth inv9 d (by omega) nT
    · rintro σ H3 ⟨as, is, v4, v5, v6, v7, rfl, hl, inv⟩
      obtain ⟨h1, h2⟩ := inv.done hl
      refine ⟨_, rfl, q p H3 is ((ex1.trans ex2).trans inv.ex) inv.sm ?_ h1 (by omega) (PgOk.wide h2 hw)⟩
      cases e : H p with
      | none => rfl
      | some o =>
        have := (ex1.trans ex2) p o nps e
        rw [np] at this
        cases this
abbrev s_law_short_program : Stmt := topS 106
abbrev nm_law_short_program : List Str := ["stream", "a", "pick", "k"]
theorem sc_law_short_program : FnScope nm_law_short_program ["stream"] (defScope s_law_short_program) := ⟨rfl, rfl, rfl, by decide +kernel, rfl, by decide +kernel, by decide +kernel⟩
def sp_law_short_program (K : PySem.W.Frag) (cl : Cn → Addr) : Sp := fun vs H Q _ => ∃ (st : Addr), vs = [.ref st] ∧ Strm H st ∧
  ∀ p H' is, ExS st H H' → Strm H' st → H p = none → PgAt H' p is → is.length ≤ 8 → PgOk 5 4 is → Q (.ref p) H'
theorem ok_law_short_program (T : Txt K mg cl w) (H_law_draw : Has P w K mg base CX0 1 "_law_draw" ["stream", "many"] (sp_law_draw K cl)) (H_law_tree : Has P w K mg base CX0 42 "_law_tree" ["stream", "pairs"] (sp_law_tree K cl)) {f : Addr} {fd : FuncData} (F : Fun K "_law_short_program" "_law_short_program" s_law_short_program f fd) : FnOk P w K mg base CX0 43 f fd ["stream"] (sp_law_short_program K cl) := by
  have m_range := T.m_range
  obtain ⟨g_Machine, c_Machine⟩ := T.m_Machine
  have n_heads := T.n_Machine_heads
  have n_tails := T.n_Machine_tails
  have n_sizes := T.n_Machine_sizes
  have n_at := T.n_Machine_at
  have n_registers := T.n_Machine_registers
  have n_plan := T.n_Machine_plan
  obtain ⟨f_law_draw, d_law_draw, G_law_draw, g_law_draw, k_law_draw, b_law_draw⟩ := H_law_draw.ex
  obtain ⟨f_law_tree, d_law_tree, G_law_tree, g_law_tree, k_law_tree, b_law_tree⟩ := H_law_tree.ex
  refine F.ok sc_law_short_program (fun vs H Q E h => ?_) (fun cdv A outer s H vs Q E hr h => ?_)
  · obtain ⟨x, rfl, _⟩ := h
    rfl
  · obtain ⟨st, rfl, st0, q⟩ := h
    have hz : sizeLine = 16777216 := rfl
    have hno : ∀ {X : Hp} {p : Addr}, ExS st H X → X p = none → H p = none := fun {X p} e n => by
      cases h : H p with
      | none => rfl
      | some o =>
        by_cases c : p = st
        · have := st0.has
          rw [c] at n
          exact absurd n (fun z => by
            obtain ⟨l, ns, c, i, m, h1, _⟩ := st0
            obtain ⟨r', h'⟩ := e.hd l _ h1
            rw [z] at h'
            cases h')
        · rw [e p o c h] at n
          cases n
    refine ⟨_, (pss_cons (ps_set (i := 1) sc_law_short_program.nd rfl (Or.inl rfl) (pe_op op_add pe_int (pe_call G_law_draw (hr.mono (by decide)) (by rfl) g_law_draw k_law_draw b_law_draw .nil pass0 (pa_cons (pv 0) (pa_cons pe_int pa_nil)))))
      (pss_cons (ps_set (i := 2) sc_law_short_program.nd rfl (Or.inl rfl) (pe_call G_law_draw (hr.mono (by decide)) (by rfl) g_law_draw k_law_draw b_law_draw .nil pass0 (pa_cons (pv 0) (pa_cons pe_int pa_nil))))
      (pss_cons (ps_if (pt_cmpR op_eq (pv 2) pe_int (nomark _)) (pss_one (ps_ret (pe_lc (own := [("k", 3)]) (g := gName 3) (tt := tYes) rfl sc_law_short_program.nd (pi_range1 (by rfl) m_range (pa_cons (pe_call G_law_draw (hr.mono (by decide)) (by rfl) g_law_draw k_law_draw b_law_draw .nil pass0 (pa_cons (pv 0) (pa_cons pe_int pa_nil))) pa_nil)) (blkOk_by (N := nm_law_short_program) (sc := defScope s_law_short_program) (by decide +kernel)) (fun _ _ _ _ _ => (pg_name (i := 3) sc_law_short_program.nd rfl (Or.inl rfl))) (fun _ _ _ _ _ => pts_nil) (fun _ _ _ _ _ => (pe_tup (pa_cons (pe_ix (ix_list : IxR _ (rIxL K)) (pe_lst (pa_cons pe_str (pa_cons pe_str pa_nil))) (pe_call G_law_draw (hr.mono (by decide)) (by rfl) g_law_draw k_law_draw b_law_draw .nil pass0 (pa_cons (pv 0) (pa_cons pe_int pa_nil))) (fun _ _ => rfl)) (pa_cons pe_int (pa_cons pe_int pa_nil)))))))) pss_nil)
      (pss_cons (ps_if (pt_cmpR op_eq (pv 2) pe_int (nomark _)) (pss_one (ps_ret (pe_lst (pa_cons (pe_tup (pa_cons pe_str (pa_cons pe_int (pa_cons (pe_call G_law_tree (hr.mono (by decide)) (by rfl) g_law_tree k_law_tree b_law_tree .nil pass0 (pa_cons (pv 0) (pa_cons (pe_call G_law_draw (hr.mono (by decide)) (by rfl) g_law_draw k_law_draw b_law_draw .nil pass0 (pa_cons (pv 0) (pa_cons pe_int pa_nil))) pa_nil))) pa_nil)))) pa_nil)))) pss_nil)
      (pss_cons (ps_if (pt_cmpR op_eq (pv 2) pe_int (nomark _)) (pss_one (ps_ret (pe_lst (pa_cons (pe_tup (pa_cons pe_str (pa_cons pe_int (pa_cons (pe_call G_law_draw (hr.mono (by decide)) (by rfl) g_law_draw k_law_draw b_law_draw .nil pass0 (pa_cons (pv 0) (pa_cons pe_int pa_nil))) (pa_cons pe_int pa_nil))))) pa_nil)))) pss_nil)
      (pss_cons (ps_if (pt_cmpR op_eq (pv 2) pe_int (nomark _)) (pss_one (ps_ret (pe_lst (pa_cons (pe_tup (pa_cons pe_str (pa_cons (pv 1) (pa_cons pe_int pa_nil)))) (pa_cons (pe_tup (pa_cons pe_str (pa_cons (pe_op op_add (pv 1) pe_int) (pa_cons pe_int pa_nil)))) (pa_cons (pe_tup (pa_cons pe_str (pa_cons pe_int (pa_cons (pe_op op_add (pv 1) pe_int) (pa_cons (pv 1) pa_nil))))) pa_nil)))))) pss_nil)
      (pss_cons (ps_if (pt_cmpR op_eq (pv 2) pe_int (nomark _)) (pss_one (ps_ret (pe_lst (pa_cons (pe_tup (pa_cons pe_str (pa_cons (pv 1) (pa_cons (pe_call G_law_tree (hr.mono (by decide)) (by rfl) g_law_tree k_law_tree b_law_tree .nil pass0 (pa_cons (pv 0) (pa_cons (pe_op op_add pe_int (pe_call G_law_draw (hr.mono (by decide)) (by rfl) g_law_draw k_law_draw b_law_draw .nil pass0 (pa_cons (pv 0) (pa_cons pe_int pa_nil)))) pa_nil))) pa_nil)))) (pa_cons (pe_tup (pa_cons pe_str (pa_cons (pv 1) (pa_cons pe_int pa_nil)))) pa_nil))))) pss_nil)
      (pss_cons (ps_if (pt_cmpR op_eq (pv 2) pe_int (nomark _)) (pss_one (ps_ret (pe_lst (pa_cons (pe_tup (pa_cons pe_str (pa_cons pe_int (pa_cons pe_int pa_nil)))) (pa_cons (pe_tup (pa_cons pe_str (pa_cons pe_int (pa_cons (pe_un un_neg pe_int) pa_nil)))) (pa_cons (pe_tup (pa_cons pe_str (pa_cons pe_int (pa_cons (pe_call G_law_tree (hr.mono (by decide)) (by rfl) g_law_tree k_law_tree b_law_tree .nil pass0 (pa_cons (pv 0) (pa_cons (pe_call G_law_draw (hr.mono (by decide)) (by rfl) g_law_draw k_law_draw b_law_draw .nil pass0 (pa_cons (pv 0) (pa_cons pe_int pa_nil))) pa_nil))) pa_nil)))) pa_nil)))))) pss_nil)
      (pss_one (ps_ret (pe_lst (pa_cons (pe_tup (pa_cons pe_str (pa_cons (pv 1) (pa_cons pe_int pa_nil)))) (pa_cons (pe_tup (pa_cons pe_str (pa_cons (pv 1) (pa_cons pe_int pa_nil)))) (pa_cons (pe_tup (pa_cons pe_str (pa_cons pe_int (pa_cons pe_int pa_nil)))) (pa_cons (pe_tup (pa_cons pe_str (pa_cons pe_int (pa_cons pe_int (pa_cons (pv 1) pa_nil))))) pa_nil))))))))))))))), ?_⟩
    refine ⟨_, rfl, st, _, rfl, by decide, by decide, st0, fun a0 H1 ha0 ex1 st1 => ⟨_, _, rfl, rfl, ?_⟩⟩
    have ea : (1 : Int) + (a0 : Int) = ((1 + a0 : Nat) : Int) := by omega
    have ea2 : ((1 + a0 : Nat) : Int) + 1 = ((1 + a0 + 1 : Nat) : Int) := by omega
    have ha : 1 + a0 ≤ 3 := by omega
    have ha1 : 1 + a0 < 5 := by omega
    have ha2 : 1 + a0 + 1 < 5 := by omega
    dsimp only
    rw [ea]
    generalize 1 + a0 = a at ha ha1 ha2 ea2
    refine ⟨_, rfl, st, _, rfl, by decide, by decide, st1, fun pick H2 hpick ex2 st2 => ?_⟩
    have ex2 := ex1.trans ex2
    refine ⟨_, rfl, rfl, _, rfl, ?_⟩
    by_cases c0 : pick = 0
    · subst c0
      refine iteS rfl ?_
      refine ⟨_, rfl, st, _, rfl, by decide, by decide, st2, fun n H3 hn ex3 st3 => ?_⟩
      refine ⟨n, rfl, by omega, by omega, fun D nD => lc_range (lo := 0) (n := n) (fun i H' => ∃ (as : List Addr) (is : List Ins), is.length = i ∧ PIn 4 H3 st D 5 n as is H') ⟨[], [], rfl, ⟨upd_same, .nil, fun j x h => (by cases h), .off (st3.ne nD) nD .refl, st3.off nD .refl st3⟩⟩ (fun i H' hi p => ?_) (fun H' p => ?_)⟩
      · obtain ⟨as, is, rfl, inv⟩ := p
        have nps := st3.ne nD
        have hsz := inv.size
        refine ⟨rfl, ?_⟩
        simp only [tYes, ↓reduceIte]
        refine ⟨(by show 2 ≤ sizeLine; omega), fun L nL => ⟨_, rfl, st, _, rfl, by decide, by decide, (Same.upd nL).strm inv.sm, fun d H5 hd ex5 st5 => ?_⟩⟩
        have nLs := inv.sm.ne nL
        have hL := ex5 _ _ nLs (upd_same (H := H') (a := L) (o := .lst [.str "head", .str "tail"]))
        have inv5 := (inv.go nps (Same.upd (o := .lst [.str "head", .str "tail"]) nL).exs ((Same.upd nL).strm inv.sm)).go nps ex5 st5
        have dd : d = 0 ∨ d = 1 := by omega
        rcases dd with rfl | rfl
        · refine ⟨_, _, _, _, rfl, rfl, SqL.of hL, atI_nat (j := 0) rfl, (by show 3 ≤ sizeLine; omega), fun T nT => ?_⟩
          exact ⟨as.map V.ref, Same.upd nT _ _ inv5.at_, by omega, as ++ [T], is ++ [.head 0 0], by rw [List.length_append]; rfl, PIn.push (x := .head 0 0) nD st3 inv5 ⟨by decide, by decide⟩ nT⟩
        · refine ⟨_, _, _, _, rfl, rfl, SqL.of hL, atI_nat (j := 1) rfl, (by show 3 ≤ sizeLine; omega), fun T nT => ?_⟩
          exact ⟨as.map V.ref, Same.upd nT _ _ inv5.at_, by omega, as ++ [T], is ++ [.tail 0 0], by rw [List.length_append]; rfl, PIn.push (x := .tail 0 0) nD st3 inv5 ⟨by decide, by decide⟩ nT⟩
      · obtain ⟨as, is, hl, inv⟩ := p
        obtain ⟨h1, h2⟩ := inv.done hl
        exact q D H' is ((ex2.trans ex3).trans inv.ex) inv.sm (hno (ex2.trans ex3) nD) h1 (by omega) h2
    refine iteNo (fun z => c0 (by have := V.int.inj z; omega)) ⟨_, rfl, rfl, _, rfl, ?_⟩
    by_cases c1 : pick = 1
    · subst c1
      refine iteS rfl ?_
      refine ⟨_, rfl, _, rfl, st, _, rfl, by decide, by decide, st2, fun d H3 hd ex3 st3 => ?_⟩
      refine ⟨st, d, rfl, (by show d < 40; omega), by omega, st3, fun t H4 ht ex4 st4 => ?_⟩
      have ex4 := (ex2.trans ex3).trans ex4
      refine ⟨(by show 3 ≤ sizeLine; omega), fun T0 nT0 => ?_⟩
      have sT0 := Same.upd (o := .tup [.str "set", .int 0, .str t.str]) nT0
      refine ⟨(by show 1 ≤ sizeLine; omega), fun D nD => ?_⟩
      have sD := Same.upd (o := .lst [.ref T0]) nD
      have rT0 := sD _ _ upd_same
      have sB := sT0
      have sA := sB.trans sD
      refine q D _ [.set 0 t] (ex4.trans sA.exs) (sA.strm st4) (hno (ex4.trans sB.exs) nD) ⟨[T0], upd_same, (.cons rT0 .nil)⟩ (by show 1 ≤ 8; decide) (fun j x hx => ?_)
      match j, hx with
      | 0, hx => cases hx; exact ⟨by decide, by omega⟩
      | j + 1, hx => cases hx
    refine iteNo (fun z => c1 (by have := V.int.inj z; omega)) ⟨_, rfl, rfl, _, rfl, ?_⟩
    by_cases c2 : pick = 2
    · subst c2
      refine iteS rfl ?_
      refine ⟨_, rfl, st, _, rfl, by decide, by decide, st2, fun d H3 hd ex3 st3 => ?_⟩
      have ex3 := ex2.trans ex3
      refine ⟨(by show 4 ≤ sizeLine; omega), fun T0 nT0 => ?_⟩
      have sT0 := Same.upd (o := .tup [.str "cons", .int 0, .int (d : Int), .int 0]) nT0
      refine ⟨(by show 1 ≤ sizeLine; omega), fun D nD => ?_⟩
      have sD := Same.upd (o := .lst [.ref T0]) nD
      have rT0 := sD _ _ upd_same
      have sB := sT0
      have sA := sB.trans sD
      refine q D _ [.cons 0 d 0] (ex3.trans sA.exs) (sA.strm st3) (hno (ex3.trans sB.exs) nD) ⟨[T0], upd_same, (.cons rT0 .nil)⟩ (by show 1 ≤ 8; decide) (fun j x hx => ?_)
      match j, hx with
      | 0, hx => cases hx; exact ⟨by decide, by omega, by decide⟩
      | j + 1, hx => cases hx
    refine iteNo (fun z => c2 (by have := V.int.inj z; omega)) ⟨_, rfl, rfl, _, rfl, ?_⟩
    by_cases c3 : pick = 3
    · subst c3
      refine iteS rfl ?_
      refine ⟨_, rfl, (by show 3 ≤ sizeLine; omega), fun T0 nT0 => ?_⟩
      have sT0 := Same.upd (o := .tup [.str "head", .int (a : Int), .int 0]) nT0
      refine ⟨_, rfl, _, _, rfl, rfl, (by show 3 ≤ sizeLine; omega), fun T1 nT1 => ?_⟩
      have sT1 := Same.upd (o := .tup [.str "tail", .int ((a : Int) + 1), .int 0]) nT1
      refine ⟨_, rfl, _, _, rfl, rfl, _, rfl, (by show 4 ≤ sizeLine; omega), fun T2 nT2 => ?_⟩
      have sT2 := Same.upd (o := .tup [.str "cons", .int 0, .int ((a : Int) + 1), .int (a : Int)]) nT2
      refine ⟨(by show 3 ≤ sizeLine; omega), fun D nD => ?_⟩
      have sD := Same.upd (o := .lst [.ref T0, .ref T1, .ref T2]) nD
      have rT0 := sD _ _ (sT2 _ _ (sT1 _ _ upd_same))
      have rT1 := sD _ _ (sT2 _ _ upd_same)
      have rT2 := sD _ _ upd_same
      have sB := ((sT0.trans sT1).trans sT2)
      have sA := sB.trans sD
      refine q D _ [.head a 0, .tail (a + 1) 0, .cons 0 (a + 1) a] (ex2.trans sA.exs) (sA.strm st2) (hno (ex2.trans sB.exs) nD) ⟨[T0, T1, T2], upd_same, (.cons rT0 (.cons rT1 (.cons rT2 .nil)))⟩ (by show 3 ≤ 8; decide) (fun j x hx => ?_)
      match j, hx with
      | 0, hx => cases hx; exact ⟨by omega, by decide⟩
      | 1, hx => cases hx; exact ⟨by omega, by decide⟩
      | 2, hx => cases hx; exact ⟨by decide, by omega, by omega⟩
      | j + 3, hx => cases hx
    refine iteNo (fun z => c3 (by have := V.int.inj z; omega)) ⟨_, rfl, rfl, _, rfl, ?_⟩
    by_cases c4 : pick = 4
    · subst c4
      refine iteS rfl ?_
      refine ⟨_, rfl, _, rfl, _, rfl, st, _, rfl, by decide, by decide, st2, fun d H3 hd ex3 st3 => ⟨_, _, rfl, rfl, ?_⟩⟩
      refine ⟨st, 1 + d, (by show [V.ref st, V.int ((1 : Int) + (d : Int))] = _; rw [show (1 : Int) + (d : Int) = ((1 + d : Nat) : Int) by omega]), (by show 1 + d < 40; omega), by omega, st3, fun t H4 ht ex4 st4 => ?_⟩
      have ex4 := (ex2.trans ex3).trans ex4
      refine ⟨(by show 3 ≤ sizeLine; omega), fun T0 nT0 => ?_⟩
      have sT0 := Same.upd (o := .tup [.str "set", .int (a : Int), .str t.str]) nT0
      refine ⟨_, rfl, (by show 3 ≤ sizeLine; omega), fun T1 nT1 => ?_⟩
      have sT1 := Same.upd (o := .tup [.str "jump", .int (a : Int), .int 0]) nT1
      refine ⟨(by show 2 ≤ sizeLine; omega), fun D nD => ?_⟩
      have sD := Same.upd (o := .lst [.ref T0, .ref T1]) nD
      have rT0 := sD _ _ (sT1 _ _ upd_same)
      have rT1 := sD _ _ upd_same
      have sB := (sT0.trans sT1)
      have sA := sB.trans sD
      refine q D _ [.set a t, .jump a 0] (ex4.trans sA.exs) (sA.strm st4) (hno (ex4.trans sB.exs) nD) ⟨[T0, T1], upd_same, (.cons rT0 (.cons rT1 .nil))⟩ (by show 2 ≤ 8; decide) (fun j x hx => ?_)
      match j, hx with
      | 0, hx => cases hx; exact ⟨by omega, by omega⟩
      | 1, hx => cases hx; exact ⟨by omega, by decide, by show (_ : Int) ≤ ((2 : Nat) : Int); decide⟩
      | j + 2, hx => cases hx
    refine iteNo (fun z => c4 (by have := V.int.inj z; omega)) ⟨_, rfl, rfl, _, rfl, ?_⟩
    by_cases c5 : pick = 5
    · subst c5
      refine iteS rfl ?_
      refine ⟨(by show 3 ≤ sizeLine; omega), fun T0 nT0 => ?_⟩
      have sT0 := Same.upd (o := .tup [.str "tail", .int 0, .int 0]) nT0
      refine ⟨_, rfl, (by show 3 ≤ sizeLine; omega), fun T1 nT1 => ?_⟩
      have sT1 := Same.upd (o := .tup [.str "jump", .int 0, .int (-1)]) nT1
      refine ⟨_, rfl, _, rfl, st, _, rfl, by decide, by decide, (sT0.trans sT1).strm st2, fun d H3 hd ex3 st3 => ?_⟩
      refine ⟨st, d, rfl, (by show d < 40; omega), by omega, st3, fun t H4 ht ex4 st4 => ?_⟩
      have nA0 := ((sT0.trans sT1).strm st2)
      have x34 := ex3.trans ex4
      have ex5 := ((ex2.trans (sT0.trans sT1).exs).trans ex3).trans ex4
      have k0 := x34 _ _ (fun z => by have := st2.ne nT0; exact this z) (sT1 _ _ (upd_same (H := H2) (a := T0) (o := .tup [.str "tail", .int 0, .int 0])))
      have k1 := x34 _ _ (fun z => by have := (sT0.strm st2).ne nT1; exact this z) (upd_same (a := T1) (o := .tup [.str "jump", .int 0, .int (-1)]))
      refine ⟨(by show 3 ≤ sizeLine; omega), fun T2 nT2 => ?_⟩
      have sT2 := Same.upd (o := .tup [.str "set", .int 0, .str t.str]) nT2
      refine ⟨(by show 3 ≤ sizeLine; omega), fun D nD => ?_⟩
      have sD := Same.upd (o := .lst [.ref T0, .ref T1, .ref T2]) nD
      have sA := sT2.trans sD
      refine q D _ [.tail 0 0, .jump 0 (-1), .set 0 t] (ex5.trans sA.exs) (sA.strm st4) (hno (ex5.trans sT2.exs) nD) ⟨[T0, T1, T2], upd_same, (.cons (sA _ _ k0) (.cons (sA _ _ k1) (.cons (sD _ _ upd_same) .nil)))⟩ (by show 3 ≤ 8; decide) (fun j x hx => ?_)
      match j, hx with
      | 0, hx => cases hx; exact ⟨by decide, by decide⟩
      | 1, hx => cases hx; exact ⟨by decide, by decide, by show (_ : Int) ≤ ((3 : Nat) : Int); decide⟩
      | 2, hx => cases hx; exact ⟨by decide, by omega⟩
      | j + 3, hx => cases hx
    refine iteNo (fun z => c5 (by have := V.int.inj z; omega)) ?_
    refine ⟨_, rfl, (by show 3 ≤ sizeLine; omega), fun T0 nT0 => ?_⟩
    have sT0 := Same.upd (o := .tup [.str "tail", .int (a : Int), .int 0]) nT0
    refine ⟨_, rfl, (by show 3 ≤ sizeLine; omega), fun T1 nT1 => ?_⟩
    have sT1 := Same.upd (o := .tup [.str "jump", .int (a : Int), .int 2]) nT1
    refine ⟨(by show 3 ≤ sizeLine; omega), fun T2 nT2 => ?_⟩
    have sT2 := Same.upd (o := .tup [.str "jump", .int 0, .int 0]) nT2
    refine ⟨_, rfl, (by show 4 ≤ sizeLine; omega), fun T3 nT3 => ?_⟩
    have sT3 := Same.upd (o := .tup [.str "cons", .int 0, .int 0, .int (a : Int)]) nT3
    refine ⟨(by show 4 ≤ sizeLine; omega), fun D nD => ?_⟩
    have sD := Same.upd (o := .lst [.ref T0, .ref T1, .ref T2, .ref T3]) nD
    have rT0 := sD _ _ (sT3 _ _ (sT2 _ _ (sT1 _ _ upd_same)))
    have rT1 := sD _ _ (sT3 _ _ (sT2 _ _ upd_same))
    have rT2 := sD _ _ (sT3 _ _ upd_same)
    have rT3 := sD _ _ upd_same
    have sB := (((sT0.trans sT1).trans sT2).trans sT3)
    have sA := sB.trans sD
    refine q D _ [.tail a 0, .jump a 2, .jump 0 0, .cons 0 0 a] (ex2.trans sA.exs) (sA.strm st2) (hno (ex2.trans sB.exs) nD) ⟨[T0, T1, T2, T3], upd_same, (.cons rT0 (.cons rT1 (.cons rT2 (.cons rT3 .nil))))⟩ (by show 4 ≤ 8; decide) (fun j x hx => ?_)
    match j, hx with
    | 0, hx => cases hx; exact ⟨by omega, by decide⟩
    | 1, hx => cases hx; exact ⟨by omega, by decide, by show (_ : Int) ≤ ((4 : Nat) : Int); decide⟩
    | 2, hx => cases hx; exact ⟨by decide, by decide, by show (_ : Int) ≤ ((4 : Nat) : Int); decide⟩
    | 3, hx => cases hx; exact ⟨by decide, by decide, by omega⟩
    | j + 4, hx => cases hx
abbrev s_law_program : Stmt := topS 107
abbrev nm_law_program : List Str := ["stream"]
theorem sc_law_program : FnScope nm_law_program ["stream"] (defScope s_law_program) := ⟨rfl, rfl, rfl, by decide +kernel, rfl, by decide +kernel, by decide +kernel⟩
def sp_law_program (K : PySem.W.Frag) (cl : Cn → Addr) : Sp := fun vs H Q _ => ∃ (st : Addr), vs = [.ref st] ∧ Strm H st ∧
  ∀ p H' is, ExS st H H' → Strm H' st → H p = none → PgAt H' p is → is.length ≤ 8 → PgOk regB 4 is → Q (.ref p) H'
theorem ok_law_program (T : Txt K mg cl w) (H_law_random_program : Has P w K mg base CX0 43 "_law_random_program" ["stream"] (sp_law_random_program K cl)) (H_law_draw : Has P w K mg base CX0 1 "_law_draw" ["stream", "many"] (sp_law_draw K cl)) (H_law_short_program : Has P w K mg base CX0 43 "_law_short_program" ["stream"] (sp_law_short_program K cl)) {f : Addr} {fd : FuncData} (F : Fun K "_law_program" "_law_program" s_law_program f fd) : FnOk P w K mg base CX0 44 f fd ["stream"] (sp_law_program K cl) := by
  obtain ⟨g_Machine, c_Machine⟩ := T.m_Machine
  have n_heads := T.n_Machine_heads
  have n_tails := T.n_Machine_tails
  have n_sizes := T.n_Machine_sizes
  have n_at := T.n_Machine_at
  have n_registers := T.n_Machine_registers
  have n_plan := T.n_Machine_plan
  obtain ⟨f_law_random_program, d_law_random_program, G_law_random_program, g_law_random_program, k_law_random_program, b_law_random_program⟩ := H_law_random_program.ex
  obtain ⟨f_law_draw, d_law_draw, G_law_draw, g_law_draw, k_law_draw, b_law_draw⟩ := H_law_draw.ex
  obtain ⟨f_law_short_program, d_law_short_program, G_law_short_program, g_law_short_program, k_law_short_program, b_law_short_program⟩ := H_law_short_program.ex
  refine F.ok sc_law_program (fun vs H Q E h => ?_) (fun cdv A outer s H vs Q E hr h => ?_)
  · obtain ⟨x, rfl, _⟩ := h
    rfl
  · obtain ⟨st, rfl, st0, q⟩ := h
    have hno : ∀ {X : Hp} {p : Addr}, ExS st H X → X p = none → H p = none := fun {X p} e n => by
      cases h : H p with
      | none => rfl
      | some o =>
        by_cases c : p = st
        · rw [c] at n
          exact absurd n (fun z => by
            obtain ⟨l, ns, c, i, m, h1, _⟩ := st0
            obtain ⟨r', h'⟩ := e.hd l _ h1
            rw [z] at h'
            cases h')
        · rw [e p o c h] at n
          cases n
    refine ⟨_, (pss_cons (ps_if (pt_cmpR op_eq (pe_call G_law_draw (hr.mono (by decide)) (by rfl) g_law_draw k_law_draw b_law_draw .nil pass0 (pa_cons (pv 0) (pa_cons pe_int pa_nil))) pe_int (nomark _)) (pss_one (ps_ret (pe_call G_law_short_program (hr.mono (by decide)) (by rfl) g_law_short_program k_law_short_program b_law_short_program .nil pass0 (pa_cons (pv 0) pa_nil)))) pss_nil)
      (pss_one (ps_ret (pe_call G_law_random_program (hr.mono (by decide)) (by rfl) g_law_random_program k_law_random_program b_law_random_program .nil pass0 (pa_cons (pv 0) pa_nil))))), ?_⟩
    refine ⟨_, rfl, st, _, rfl, by decide, by decide, st0, fun d H1 hd ex1 st1 => ⟨rfl, _, rfl, ?_⟩⟩
    refine ite2 (fun c => ?_) (fun c => ?_)
    · exact ⟨_, rfl, st, rfl, st1, fun p H' is ex s n hp hl hok => q p H' is (ex1.trans ex) s (hno ex1 n) hp hl (PgOk.wide hok (by decide))⟩
    · exact ⟨_, rfl, st, rfl, st1, fun p H' is ex s n hp hl hok => q p H' is (ex1.trans ex) s (hno ex1 n) hp hl hok⟩
abbrev s_law_cons : Stmt := topS 97
abbrev nm_law_cons : List Str := ["world", "a", "b", "key", "table"]
theorem sc_law_cons : FnScope nm_law_cons ["world", "a", "b"] (defScope s_law_cons) := ⟨rfl, rfl, rfl, by decide +kernel, rfl, by decide +kernel, by decide +kernel⟩
def sp_law_cons (K : PySem.W.Frag) (cl : Cn → Addr) : Sp := fun vs H Q E => ∃ (W Ah At As Ap : Addr) (T : List Tr) (a b : Nat) (s t : Tr), vs = [.ref W, .int a, .int b] ∧ WAt H W Ah At As Ap T ∧ T[a]? = some s ∧ T[b]? = some t ∧ T.length ≤ 16000000 ∧
  ∀ (n : Nat) (T' : List Tr) H', Ext T T' → T'.length ≤ T.length + 1 → T'[n]? = some (.node s t) → ButL (wL Ah At As Ap) H H' → WAt H' W Ah At As Ap T' → Q (.int n) H'
theorem ok_law_cons (T : Txt K mg cl w) {f : Addr} {fd : FuncData} (F : Fun K "_law_cons" "_law_cons" s_law_cons f fd) : FnOk P w K mg base CX0 1 f fd ["world", "a", "b"] (sp_law_cons K cl) := by
  have m_len := T.m_len
  obtain ⟨g_Machine, c_Machine⟩ := T.m_Machine
  have n_heads := T.n_Machine_heads
  have n_tails := T.n_Machine_tails
  have n_sizes := T.n_Machine_sizes
  have n_at := T.n_Machine_at
  have n_registers := T.n_Machine_registers
  have n_plan := T.n_Machine_plan
  refine F.ok sc_law_cons (fun vs H Q E h => ?_) (fun cdv A outer s H vs Q E hr h => ?_)
  · obtain ⟨W, Ah, At, As, Ap, T, a, b, s, t, rfl, _⟩ := h
    rfl
  · obtain ⟨W, Ah, At, As, Ap, T, a, b, s, t, rfl, hw, ha, hb, hl, q⟩ := h
    have hz : sizeLine = 16777216 := rfl
    refine ⟨_, (pss_cons (ps_set (i := 3) sc_law_cons.nd rfl (Or.inl rfl) (pe_tup (pa_cons (pv 1) (pa_cons (pv 2) pa_nil))))
      (pss_cons (ps_if (pt_cmp (pc_dnotin (hu_of hr) (pv 3) (pe_dget (hu_of hr) (pv 0) pe_str (fun _ _ => rfl)))) (pss_cons (ps_set (i := 4) sc_law_cons.nd rfl (Or.inl rfl) (pe_dget (hu_of hr) (pv 0) pe_str (fun _ _ => rfl)))
      (pss_cons (ps_dput (hu_of hr) (pv 4) (pv 3) (pe_callB (call_lenS : CallR _ _ (rLenS K)) (by rfl) m_len (by decide +kernel) (pa_cons (pe_dget (hu_of hr) (pv 0) pe_str (fun _ _ => rfl)) pa_nil)) rfl)
      (pss_cons (ps_expr (pe_bm PySem.F.plainAttrs_list PySem.F.slot_list_append PySem.F.type_list_append mt_append (pe_dget (hu_of hr) (pv 0) pe_str (fun _ _ => rfl)) (pa_cons (pv 1) pa_nil)))
      (pss_cons (ps_expr (pe_bm PySem.F.plainAttrs_list PySem.F.slot_list_append PySem.F.type_list_append mt_append (pe_dget (hu_of hr) (pv 0) pe_str (fun _ _ => rfl)) (pa_cons (pv 2) pa_nil)))
      (pss_one (ps_expr (pe_bm PySem.F.plainAttrs_list PySem.F.slot_list_append PySem.F.type_list_append mt_append (pe_dget (hu_of hr) (pv 0) pe_str (fun _ _ => rfl)) (pa_cons (pe_op op_add (pe_op op_add pe_int (pe_ix (ix_list : IxR _ (rIxL K)) (pe_dget (hu_of hr) (pv 0) pe_str (fun _ _ => rfl)) (pv 1) (fun _ _ => rfl))) (pe_ix (ix_list : IxR _ (rIxL K)) (pe_dget (hu_of hr) (pv 0) pe_str (fun _ _ => rfl)) (pv 2) (fun _ _ => rfl))) pa_nil)))))))) pss_nil)
      (pss_one (ps_ret (pe_dget (hu_of hr) (pe_dget (hu_of hr) (pv 0) pe_str (fun _ _ => rfl)) (pv 3) (fun _ _ => rfl)))))), ?_⟩
    obtain ⟨kvs, hp, ps⟩ := hw.ps
    obtain ⟨hs, ts, h1, h2, h3, g⟩ := hw.tb.get
    refine ⟨_, rfl, _, rfl, (by show 2 ≤ sizeLine; omega), fun k nk => ?_⟩
    have hk : upd H k (.tup [.int a, .int b]) k = some (.tup ((pK a b).map kV)) := upd_same
    have sk := Same.upd (o := .tup [.int a, .int b]) nk
    have hw1 := hw.same sk
    have hp1 := sk _ _ hp
    have h11 := sk _ _ h1
    have h21 := sk _ _ h2
    have h31 := sk _ _ h3
    have n1 := hw1.W4
    have n2 := hw1.pA
    have kw := hw1.tup hk
    generalize upd H k (.tup [.int a, .int b]) = H1 at hk sk hw1 hp1 h11 h21 h31 n1 n2 kw ⊢
    simp only [wL, List.mem_cons, List.not_mem_nil, or_false, not_or] at n1 n2 kw
    obtain ⟨k0, k1, k2, k3, k4⟩ := kw
    obtain ⟨w1, w2, w3, w4⟩ := n1
    obtain ⟨p1, p2, p3⟩ := n2
    refine ⟨_, rfl, _, rfl, _, _, rfl, hw1.gp, _, _, rfl, DGet.t hp1 hk, _, rfl, ?_⟩
    cases e : L2.valV kvs (pK a b) with
    | some v =>
      refine iteF ⟨_, rfl, _, _, rfl, hw1.gp, _, rfl, _, _, rfl, (by have := DGet.t hp1 hk; rwa [e] at this), ?_⟩
      obtain ⟨n, s', t', rfl, e1, e2, e3⟩ := ps.val a b v e
      rw [ha] at e1
      rw [hb] at e2
      cases e1
      cases e2
      exact q n T H1 (Ext.refl T) (by omega) e3 sk.butL hw1
    | none =>
      have no := ps.no hw.nd ha hb e
      have ps2 := ps.put ha hb e
      have pl := ps.len
      have l1 := natsV_len hs
      have l2 := natsV_len ts
      have l3 := sizV_len T
      have g1 := g.lh
      have g2 := g.lt
      refine iteT ⟨_, rfl, _, _, rfl, hw1.gp, ?_⟩
      refine ⟨_, rfl, _, _, rfl, hw1.gh, _, _, rfl, .inl (SqL.of h11), _, rfl, _, rfl, _, _, rfl, DPut.t hp1 hk (by omega), ?_⟩
      rw [show (natsV hs).length = T.length by omega]
      have b1 := ButL.upd (as := wL Ah At As Ap) (H := H1) (a := Ap) (o := .dT (putK kvs (pK a b) (.int T.length))) (by simp)
      have q0 : upd H1 Ap (.dT (putK kvs (pK a b) (.int T.length))) Ap = some (.dT (putK kvs (pK a b) (.int T.length))) := upd_same
      have q1 := (upd_ne (H := H1) (o := .dT (putK kvs (pK a b) (.int T.length))) (fun z => p1 z.symm)).trans h11
      have q2 := (upd_ne (H := H1) (o := .dT (putK kvs (pK a b) (.int T.length))) (fun z => p2 z.symm)).trans h21
      have q3 := (upd_ne (H := H1) (o := .dT (putK kvs (pK a b) (.int T.length))) (fun z => p3 z.symm)).trans h31
      have q4 := (upd_ne (H := H1) (o := .dT (putK kvs (pK a b) (.int T.length))) w4).trans hw1.ob
      have q5 := (upd_ne (H := H1) (o := .dT (putK kvs (pK a b) (.int T.length))) k4).trans hk
      generalize upd H1 Ap (.dT (putK kvs (pK a b) (.int T.length))) = H2 at b1 q0 q1 q2 q3 q4 q5 ⊢
      refine ⟨_, rfl, _, _, rfl, wk_h q4, .inl ⟨rfl, _, SqL.of q1⟩, _, rfl, _, _, _, rfl, rfl, q1, (by omega), ?_⟩
      rw [natsV_app]
      have hm := hw1.tb
      have b2 := ButL.upd (as := wL Ah At As Ap) (H := H2) (a := Ah) (o := .lst (natsV (hs ++ [a]))) (by simp)
      have r0 := (upd_ne (H := H2) (o := .lst (natsV (hs ++ [a]))) p1).trans q0
      have r1 : upd H2 Ah (.lst (natsV (hs ++ [a]))) Ah = some (.lst (natsV (hs ++ [a]))) := upd_same
      have r2 := (upd_ne (H := H2) (o := .lst (natsV (hs ++ [a]))) hm.ht.symm).trans q2
      have r3 := (upd_ne (H := H2) (o := .lst (natsV (hs ++ [a]))) hm.hs.symm).trans q3
      have r4 := (upd_ne (H := H2) (o := .lst (natsV (hs ++ [a]))) w1).trans q4
      have r5 := (upd_ne (H := H2) (o := .lst (natsV (hs ++ [a]))) k1).trans q5
      generalize upd H2 Ah (.lst (natsV (hs ++ [a]))) = H3 at b2 r0 r1 r2 r3 r4 r5 ⊢
      refine ⟨_, rfl, _, _, rfl, wk_t r4, .inl ⟨rfl, _, SqL.of r2⟩, _, rfl, _, _, _, rfl, rfl, r2, (by omega), ?_⟩
      rw [natsV_app]
      have b3 := ButL.upd (as := wL Ah At As Ap) (H := H3) (a := At) (o := .lst (natsV (ts ++ [b]))) (by simp)
      have u0 := (upd_ne (H := H3) (o := .lst (natsV (ts ++ [b]))) p2).trans r0
      have u1 := (upd_ne (H := H3) (o := .lst (natsV (ts ++ [b]))) hm.ht).trans r1
      have u2 : upd H3 At (.lst (natsV (ts ++ [b]))) At = some (.lst (natsV (ts ++ [b]))) := upd_same
      have u3 := (upd_ne (H := H3) (o := .lst (natsV (ts ++ [b]))) hm.ts.symm).trans r3
      have u4 := (upd_ne (H := H3) (o := .lst (natsV (ts ++ [b]))) w2).trans r4
      have u5 := (upd_ne (H := H3) (o := .lst (natsV (ts ++ [b]))) k2).trans r5
      generalize upd H3 At (.lst (natsV (ts ++ [b]))) = H4 at b3 u0 u1 u2 u3 u4 u5 ⊢
      refine ⟨_, rfl, _, _, rfl, wk_s u4, .inl ⟨rfl, _, SqL.of u3⟩, _, rfl, _, _, rfl, wk_s u4, _, rfl, _, _, _, _, rfl, rfl, SqL.of u3, sizV_at ha, _, _, rfl, rfl, _, rfl, _, _, rfl, wk_s u4, _, rfl, _, _, _, _, rfl, rfl, SqL.of u3, sizV_at hb, _, _, rfl, rfl, _, _, _, rfl, rfl, u3, (by omega), ?_⟩
      have e9 : (1 : Int) + (s.sg.length : Int) + (t.sg.length : Int) = ((Tr.node s t).sg.length : Int) := by
        rw [node_len]
        omega
      dsimp only
      rw [e9, sizV_app]
      have b4 := ButL.upd (as := wL Ah At As Ap) (H := H4) (a := As) (o := .lst (sizV (T ++ [.node s t]))) (by simp)
      have v0 := (upd_ne (H := H4) (o := .lst (sizV (T ++ [.node s t]))) p3).trans u0
      have v1 := (upd_ne (H := H4) (o := .lst (sizV (T ++ [.node s t]))) hm.hs).trans u1
      have v2 := (upd_ne (H := H4) (o := .lst (sizV (T ++ [.node s t]))) hm.ts).trans u2
      have v3 : upd H4 As (.lst (sizV (T ++ [.node s t]))) As = some (.lst (sizV (T ++ [.node s t]))) := upd_same
      have v4 := (upd_ne (H := H4) (o := .lst (sizV (T ++ [.node s t]))) w3).trans u4
      have v5 := (upd_ne (H := H4) (o := .lst (sizV (T ++ [.node s t]))) k3).trans u5
      generalize upd H4 As (.lst (sizV (T ++ [.node s t]))) = H5 at b4 v0 v1 v2 v3 v4 v5 ⊢
      refine ⟨_, rfl, _, _, rfl, wk_p v4, _, rfl, _, _, rfl, (by have := DGet.t v0 v5; rwa [L2.valV_put, if_pos rfl] at this), ?_⟩
      exact q T.length (T ++ [.node s t]) H5 (Ext.app _ _) (by rw [List.length_append, List.length_singleton]; omega) (at_last _ _) ((((sk.butL.trans b1).trans b2).trans b3).trans b4) ⟨v4, ⟨⟨_, _, v1, v2, v3, g.push ha hb⟩, hm.ht, hm.hs, hm.ts⟩, nd_put hw1.nd no, _, v0, ps2⟩
abbrev s_law_in : Stmt := topS 98
abbrev nm_law_in : List Str := ["world", "text", "waiting", "k", "a"]
theorem sc_law_in : FnScope nm_law_in ["world", "text"] (defScope s_law_in) := ⟨rfl, rfl, rfl, by decide +kernel, rfl, by decide +kernel, by decide +kernel⟩
def sp_law_in (K : PySem.W.Frag) (cl : Cn → Addr) : Sp := fun vs H Q E => ∃ (W Ah At As Ap : Addr) (T : List Tr) (t : Tr), vs = [.ref W, .str t.str] ∧ WAt H W Ah At As Ap T ∧ T.length + t.pairs ≤ 8000000 ∧ t.sg.length ≤ 1000000 ∧
  ∀ (n : Nat) (T' : List Tr) H', Ext T T' → T'.length ≤ T.length + t.pairs → T'[n]? = some t → ButL (wL Ah At As Ap) H H' → WAt H' W Ah At As Ap T' → Q (.int n) H'
theorem ok_law_in (T : Txt K mg cl w) (H_law_cons : Has P w K mg base CX0 1 "_law_cons" ["world", "a", "b"] (sp_law_cons K cl)) {f : Addr} {fd : FuncData} (F : Fun K "_law_in" "_law_in" s_law_in f fd) : FnOk P w K mg base CX0 2 f fd ["world", "text"] (sp_law_in K cl) := by
  have m_range := T.m_range
  have m_len := T.m_len
  obtain ⟨g_Machine, c_Machine⟩ := T.m_Machine
  have n_heads := T.n_Machine_heads
  have n_tails := T.n_Machine_tails
  have n_sizes := T.n_Machine_sizes
  have n_at := T.n_Machine_at
  have n_registers := T.n_Machine_registers
  have n_plan := T.n_Machine_plan
  obtain ⟨f_law_cons, d_law_cons, G_law_cons, g_law_cons, k_law_cons, b_law_cons⟩ := H_law_cons.ex
  refine F.ok sc_law_in (fun vs H Q E h => ?_) (fun cdv A outer s H vs Q E hr h => ?_)
  · obtain ⟨W, Ah, At, As, Ap, T, t, rfl, _⟩ := h
    rfl
  · obtain ⟨W, Ah, At, As, Ap, T, t, rfl, hw, hz, hl, q⟩ := h
    have hsl : sizeLine = 16777216 := rfl
    have tl := t.str_len
    refine ⟨_, (pss_cons (ps_set (i := 2) sc_law_in.nd rfl (Or.inl rfl) (pe_lst pa_nil))
      (pss_cons (ps_for PassesOwn.never rfl (pi_range1 (by rfl) m_range (pa_cons (pe_callB call_len_str (by rfl) m_len (by decide +kernel) (pa_cons (pv 1) pa_nil)) pa_nil)) (pg_name (i := 3) sc_law_in.nd rfl (Or.inl rfl)) (pss_one (ps_if (pt_cmpR op_eq (pe_ix ix_str (pv 1) (pe_op op_sub (pe_op op_sub (pe_callB call_len_str (by rfl) m_len (by decide +kernel) (pa_cons (pv 1) pa_nil)) pe_int) (pv 3)) (fun _ _ => rfl)) pe_str (nomark _)) (pss_one (ps_expr (pe_bm PySem.F.plainAttrs_list PySem.F.slot_list_append PySem.F.type_list_append mt_append (pv 2) (pa_cons pe_int pa_nil)))) (pss_cons (ps_set (i := 4) sc_law_in.nd rfl (Or.inl rfl) (pe_bm0 PySem.F.plainAttrs_list PySem.F.slot_list_pop PySem.F.type_list_pop mt_pop (pv 2)))
      (pss_one (ps_expr (pe_bm PySem.F.plainAttrs_list PySem.F.slot_list_append PySem.F.type_list_append mt_append (pv 2) (pa_cons (pe_call G_law_cons (hr.mono (by decide)) (by rfl) g_law_cons k_law_cons b_law_cons .nil pass0 (pa_cons (pv 0) (pa_cons (pv 4) (pa_cons (pe_bm0 PySem.F.plainAttrs_list PySem.F.slot_list_pop PySem.F.type_list_pop mt_pop (pv 2)) pa_nil)))) pa_nil))))))))
      (pss_one (ps_ret (pe_ix (ix_list : IxR _ (rIxL K)) (pv 2) pe_int (fun _ _ => rfl)))))), ?_⟩
    refine ⟨(by show 0 ≤ sizeLine; omega), fun D nD => ?_⟩
    have sD := Same.upd (o := .lst []) nD
    have hD : upd H D (.lst []) D = some (.lst []) := upd_same
    have nDs := hw.none nD
    have hw0 := hw.same sD
    have b0 : ButL (wL Ah At As Ap) H (upd H D (.lst [])) := sD.butL
    have nD1 : ∀ b ∈ W :: wL Ah At As Ap, b ∉ [D] := fun b hb z => nDs (by rw [← List.mem_singleton.mp z]; exact hb)
    generalize upd H D (.lst []) = H1 at hD hw0 b0 ⊢
    refine ⟨_, rfl, t.str, rfl, (by rw [tl]; omega), t.sg.length, (by rw [tl]), by omega, by omega, ?_⟩
    refine for_range (lo := 0) (n := t.sg.length) (fun i σ H' => ∃ (x y : Option V) (us T' : List Tr) (ns : List Nat), σ = [some (.ref W), some (.str t.str), some (.ref D), x, y] ∧ stO (t.sg.drop (t.sg.length - i)) = some us ∧ Nums T' ns us ∧ H' D = some (.lst (natsV ns.reverse)) ∧ Ext T T' ∧ T'.length ≤ T.length + (t.sg.drop (t.sg.length - i)).count 49 ∧ ButL (wL Ah At As Ap) H H' ∧ WAt H' W Ah At As Ap T')
      ⟨_, _, [], T, [], rfl, (by rw [Nat.sub_zero, List.drop_length]; rfl), .nil, hD, Ext.refl T, Nat.le_add_right _ _, b0, hw0⟩ ?_ ?_
    · rintro i σ H2 hi ⟨x, y, us, T', ns, rfl, h1, h2, h3, h4, h5, h6, h7⟩
      have hj : t.sg.length - (i + 1) < t.sg.length := by omega
      have hdr := List.drop_eq_getElem_cons hj
      rw [show t.sg.length - (i + 1) + 1 = t.sg.length - i by omega] at hdr
      generalize hc : t.sg[t.sg.length - (i + 1)] = c at hdr
      generalize hr' : t.sg.drop (t.sg.length - i) = r at hdr h1 h5
      have hcat : t.sg.take (t.sg.length - (i + 1)) ++ c :: r = t.sg := by rw [← hdr, List.take_append_drop]
      have hlen : (t.sg.take (t.sg.length - (i + 1)) ++ c :: r).length = t.sg.length := by rw [hcat]
      rw [List.length_append, List.length_cons] at hlen
      have hcnt : (c :: r).count 49 ≤ t.pairs := by
        rw [← t.count_1, ← hcat, List.count_append]
        omega
      have hcc : (c :: r).count 49 = r.count 49 + if c = 49 then 1 else 0 := by
        rw [List.count_cons]
        by_cases q : c = 49 <;> simp [q]
      have hul := stO_len r us h1
      have hnl := Paired.len h2
      have hrl : (natsV ns.reverse).length = ns.length := by rw [natsV_len, List.length_reverse]
      obtain ⟨vs, hv⟩ := stO_suf (t.sg.take (t.sg.length - (i + 1))) (c :: r) [t] (by rw [hcat]; exact stO_one)
      have hat : atI t.str.cps.toList (((t.str.length : Nat) : Int) - 1 - ((0 : Int) + (i : Int))) = some c := by
        rw [tl, show ((t.sg.length : Nat) : Int) - 1 - ((0 : Int) + (i : Int)) = ((t.sg.length - (i + 1) : Nat) : Int) by omega]
        refine atI_nat ?_
        show t.sg[t.sg.length - (i + 1)]? = some c
        rw [List.getElem?_eq_getElem hj, hc]
      refine ⟨_, rfl, _, rfl, t.str, rfl, (by rw [tl]; omega), _, _, rfl, rfl, _, rfl, _, _, rfl, rfl, _, _, _, rfl, rfl, (by rw [tl]; omega), hat, ?_⟩
      refine ⟨rfl, _, rfl, ?_⟩
      have hc01 := t.sg_01 c (by rw [← hcat]; simp)
      rw [show t.sg.drop (t.sg.length - (i + 1)) = c :: r from hdr]
      have c49' := c49 r
      rcases hc01 with rfl | rfl
      · refine iteS (congrArg V.str s0.symm) ?_
        obtain ⟨us2, e1, rfl⟩ := stO_48 hv
        rw [h1] at e1
        cases e1
        refine ⟨_, rfl, .inl ⟨rfl, _, SqL.of h3⟩, _, _, _, rfl, rfl, h3, (by omega), ?_⟩
        have e2 : natsV ns.reverse ++ [V.int 0] = natsV (0 :: ns).reverse := by
          rw [List.reverse_cons, ← natsV_app]
          rfl
        rw [e2]
        obtain ⟨hs, ts, _, _, _, g⟩ := h7.tb.get
        refine ⟨_, _, _, T', 0 :: ns, rfl, hv, .cons g.z h2, upd_same, h4, by rw [List.count_cons]; omega, fun b o' nb eb => ?_, h7.but (ButL.upd (as := [D]) (List.mem_singleton.mpr rfl)) nD1⟩
        rw [upd_ne (fun z => by rw [z, nD] at eb; cases eb)]
        exact h6 b o' nb eb
      · refine iteNo (fun z => ?_) ?_
        · have z := stS_inj ((V.str.inj z).trans s0)
          cases z
        obtain ⟨A, B, q', e1, rfl⟩ := stO_49 hv
        rw [h1] at e1
        cases e1
        cases h2 with
        | @cons n1 _ ns1 _ p1 h2 => cases h2 with
        | @cons n2 _ ns2 _ p2 h2 =>
        have e2 : (n1 :: n2 :: ns2).reverse = (ns2.reverse ++ [n2]) ++ [n1] := by rw [List.reverse_cons, List.reverse_cons]
        rw [e2] at h3
        refine ⟨_, rfl, .inl ⟨rfl, _, SqL.of h3⟩, _, _, _, rfl, rfl, h3, natsV_pop _ _, ?_⟩
        rw [natsV_drop]
        have h3b : upd H2 D (.lst (natsV (ns2.reverse ++ [n2]))) D = some (.lst (natsV (ns2.reverse ++ [n2]))) := upd_same
        refine ⟨_, rfl, .inl ⟨rfl, _, SqL.of h3b⟩, ?_⟩
        refine ⟨_, rfl, _, rfl, _, rfl, .inl ⟨rfl, _, SqL.of h3b⟩, _, _, _, rfl, rfl, h3b, natsV_pop _ _, ?_⟩
        rw [natsV_drop]
        have b3 : ButL [D] H2 (upd (upd H2 D (.lst (natsV (ns2.reverse ++ [n2])))) D (.lst (natsV ns2.reverse))) := (ButL.upd (List.mem_singleton.mpr rfl)).trans (ButL.upd (List.mem_singleton.mpr rfl))
        have h3c : upd (upd H2 D (.lst (natsV (ns2.reverse ++ [n2])))) D (.lst (natsV ns2.reverse)) D = some (.lst (natsV ns2.reverse)) := upd_same
        generalize upd (upd H2 D (.lst (natsV (ns2.reverse ++ [n2])))) D (.lst (natsV ns2.reverse)) = H3 at b3 h3c ⊢
        have m3 := h7.but b3 nD1
        refine ⟨W, Ah, At, As, Ap, T', n1, n2, A, B, rfl, m3, p1, p2, by omega, fun n T2 H4 ex el en b4 m4 => ?_⟩
        have h3d := b4 D _ (not4 nDs) h3c
        simp only [List.length_cons] at hul hnl
        have hl2 : (natsV ns2.reverse).length = ns2.length := by rw [natsV_len, List.length_reverse]
        refine ⟨_, _, _, rfl, rfl, h3d, (by omega), ?_⟩
        have e4 : natsV ns2.reverse ++ [V.int n] = natsV (n :: ns2).reverse := by
          rw [List.reverse_cons, ← natsV_app]
        rw [e4]
        refine ⟨_, _, _, T2, n :: ns2, rfl, hv, .cons en (Nums.ext h2 ex), upd_same, h4.trans ex, by omega, fun b o' nb eb => ?_, m4.but (ButL.upd (as := [D]) (List.mem_singleton.mpr rfl)) nD1⟩
        have nb2 : b ≠ D := fun z => by rw [z, nD] at eb; cases eb
        rw [upd_ne nb2]
        exact b4 b o' nb (b3 b o' (fun z => nb2 (List.mem_singleton.mp z)) (h6 b o' nb eb))
    · rintro σ H2 ⟨x, y, us, T', ns, rfl, h1, h2, h3, h4, h5, h6, h7⟩
      rw [Nat.sub_self, List.drop_zero] at h1 h5
      rw [stO_one] at h1
      cases h1
      cases h2 with
      | @cons n _ ns1 _ p1 h2 =>
      cases h2
      rw [t.count_1] at h5
      exact ⟨_, rfl, _, _, _, _, rfl, rfl, SqL.of h3, atI_nat (j := 0) rfl, q n T' H2 h4 h5 p1 h6 h7⟩
abbrev s_law_loaded : Stmt := topS 100
abbrev nm_law_loaded : List Str := ["world", "program", "rows", "one"]
theorem sc_law_loaded : FnScope nm_law_loaded ["world", "program"] (defScope s_law_loaded) := ⟨rfl, rfl, rfl, by decide +kernel, rfl, by decide +kernel, by decide +kernel⟩
def sp_law_loaded (K : PySem.W.Frag) (cl : Cn → Addr) : Sp := fun vs H Q E => ∃ (W Ah At As Ap p : Addr) (T : List Tr) (is : List Ins), vs = [.ref W, .ref p] ∧ WAt H W Ah At As Ap T ∧ PgK K H p is ∧ T.length + bigSum is ≤ 8000000 ∧ (∀ i ∈ is, i.big ≤ 1000000) ∧ is.length ≤ 1000000 ∧
  ∀ (L : Addr) (T' : List Tr) H', Ext T T' → T'.length ≤ T.length + bigSum is → H L = none → ButL (wL Ah At As Ap) H H' → WAt H' W Ah At As Ap T' → LdAt K H' T' L is → Q (.ref L) H'
theorem ok_law_loaded (T : Txt K mg cl w) (H_law_in : Has P w K mg base CX0 2 "_law_in" ["world", "text"] (sp_law_in K cl)) {f : Addr} {fd : FuncData} (F : Fun K "_law_loaded" "_law_loaded" s_law_loaded f fd) : FnOk P w K mg base CX0 3 f fd ["world", "program"] (sp_law_loaded K cl) := by
  obtain ⟨g_Machine, c_Machine⟩ := T.m_Machine
  have n_heads := T.n_Machine_heads
  have n_tails := T.n_Machine_tails
  have n_sizes := T.n_Machine_sizes
  have n_at := T.n_Machine_at
  have n_registers := T.n_Machine_registers
  have n_plan := T.n_Machine_plan
  obtain ⟨f_law_in, d_law_in, G_law_in, g_law_in, k_law_in, b_law_in⟩ := H_law_in.ex
  refine F.ok sc_law_loaded (fun vs H Q E h => ?_) (fun cdv A outer s H vs Q E hr h => ?_)
  · obtain ⟨W, Ah, At, As, Ap, p, T, is, rfl, _⟩ := h
    rfl
  · obtain ⟨W, Ah, At, As, Ap, p, T, is, rfl, hw, hp, hz, hb, hl, q⟩ := h
    have hsl : sizeLine = 16777216 := rfl
    refine ⟨_, (pss_cons (ps_set (i := 2) sc_law_loaded.nd rfl (Or.inl rfl) (pe_lst pa_nil))
      (pss_cons (ps_for PassesOwn.never rfl (pi_list (pv 1)) (pg_name (i := 3) sc_law_loaded.nd rfl (Or.inl rfl)) (pss_one (ps_if (pt_cmpR op_eq (pe_ix (ix_tup : IxR _ (rIxT K)) (pv 3) pe_int (fun _ _ => rfl)) pe_str (nomark _)) (pss_one (ps_expr (pe_bm PySem.F.plainAttrs_list PySem.F.slot_list_append PySem.F.type_list_append mt_append (pv 2) (pa_cons (pe_tup (pa_cons (pe_ix (ix_tup : IxR _ (rIxT K)) (pv 3) pe_int (fun _ _ => rfl)) (pa_cons (pe_ix (ix_tup : IxR _ (rIxT K)) (pv 3) pe_int (fun _ _ => rfl)) (pa_cons (pe_call G_law_in (hr.mono (by decide)) (by rfl) g_law_in k_law_in b_law_in .nil pass0 (pa_cons (pv 0) (pa_cons (pe_ix (ix_tup : IxR _ (rIxT K)) (pv 3) pe_int (fun _ _ => rfl)) pa_nil))) pa_nil)))) pa_nil)))) (pss_one (ps_expr (pe_bm PySem.F.plainAttrs_list PySem.F.slot_list_append PySem.F.type_list_append mt_append (pv 2) (pa_cons (pv 3) pa_nil)))))))
      (pss_one (ps_ret (pv 2))))), ?_⟩
    refine ⟨(by show 0 ≤ sizeLine; omega), fun L nL => ?_⟩
    have sL := Same.upd (o := .lst []) nL
    have hL : upd H L (.lst []) L = some (.lst []) := upd_same
    have nLw := hw.none nL
    have hw0 := hw.same sL
    have hp0 := hp.same sL
    have npL : p ≠ L := hp.apart nL
    have b0 : ButL (wL Ah At As Ap) H (upd H L (.lst [])) := sL.butL
    have nL1 : ∀ b ∈ W :: wL Ah At As Ap, b ∉ [L] := fun b hb z => nLw (by rw [← List.mem_singleton.mp z]; exact hb)
    generalize upd H L (.lst []) = H1 at hL hw0 hp0 b0 ⊢
    obtain ⟨xs, hx, hxl, hxs⟩ := hp0.get
    have npw := not4 (hw0.pg hp0)
    refine ⟨_, rfl, p, rfl, ⟨_, SqL.of hx⟩, for_it (walk_list (K := K) (a := p) (xs := xs)) (fun j σ H' => ∃ (x : Option V) (T' : List Tr) (qs : List Addr), σ = [some (.ref W), some (.ref p), some (.ref L), x] ∧ Ext T T' ∧ T'.length ≤ T.length + bigSum (is.take j) ∧ ButL (wL Ah At As Ap) H H' ∧ WAt H' W Ah At As Ap T' ∧ PgK K H' p is ∧ H' p = some (.lst xs) ∧ (∀ (i : Nat) (x : Ins), is[i]? = some x → ∃ a : Addr, xs[i]? = some (V.ref a) ∧ SqT K H' a x.vs) ∧ H' L = some (.lst (qs.map V.ref)) ∧ qs.length = j ∧ ∀ (m : Nat) (i : Ins), m < j → is[m]? = some i → ∃ (q : Addr) (n : Nat), qs[m]? = some q ∧ SqT K H' q (ldV i n) ∧ SetN T' i n)
      ⟨_, T, [], rfl, Ext.refl T, Nat.le_add_right _ _, b0, hw0, hp0, hx, hxs, hL, rfl, fun m i h => by omega⟩ (fun j σ H' _ ⟨_, _, _, _, _, _, _, _, _, e, _⟩ => SqL.of e) ?_ ?_⟩
    · rintro j y σ Hx H2 hj ⟨x, T', qs, rfl, e1, e2, e3, e4, e5, e6, e7, e8, e9, e10⟩ ⟨rfl, hy⟩
      have hj2 : j < is.length := by omega
      obtain ⟨i, hi⟩ : ∃ i, is[j]? = some i := ⟨_, List.getElem?_eq_getElem hj2⟩
      obtain ⟨a, ea, ha⟩ := e7 j i hi
      rw [hy] at ea
      cases ea
      have hbt := bigSum_take hi
      have hbl := bigSum_le is (j + 1)
      have hbi := hb i (List.mem_of_getElem? hi)
      have hsz : (qs.map V.ref).length = j := by rw [List.length_map, e9]
      have app : ∀ {m : Nat} {q0 q : Addr}, qs[m]? = some q → (qs ++ [q0])[m]? = some q := fun {m q0 q} h => by
        rw [List.getElem?_append_left (List.getElem?_eq_some_iff.mp h).1]
        exact h
      refine ⟨_, rfl, _, _, _, .str i.word, rfl, rfl, ha, atI_nat (j := 0) rfl, rfl, _, rfl, ?_⟩
      by_cases hs : ∃ a t, i = .set a t
      · obtain ⟨r, t, rfl⟩ := hs
        have htp := pairs_le t
        have hbi : t.sg.length ≤ 1000000 := hbi
        have hbt : bigSum (is.take (j + 1)) = bigSum (is.take j) + t.sg.length := hbt
        refine iteS rfl ⟨_, rfl, .inl ⟨rfl, _, SqL.of e8⟩, _, rfl, _, _, _, _, rfl, rfl, ha, atI_nat (j := 0) rfl, _, rfl, _, _, _, _, rfl, rfl, ha, atI_nat (j := 1) rfl, _, rfl, _, rfl, _, _, _, _, rfl, rfl, ha, atI_nat (j := 2) rfl, W, Ah, At, As, Ap, T', t, rfl, e4, by omega, by omega, fun n T2 H3 ex el en b3 w3 => ⟨(by show 3 ≤ sizeLine; omega), fun t0 nt0 => ?_⟩⟩
        have sT := Same.upd (o := .tup [.str (Ins.set r t).word, .int r, .int n]) nt0
        have b3' : ButL (wL Ah At As Ap) H2 (upd H3 t0 (.tup [.str (Ins.set r t).word, .int r, .int n])) := b3.trans sT.butL
        have hq0 : upd H3 t0 (.tup [.str (Ins.set r t).word, .int r, .int n]) t0 = some (.tup [.str (Ins.set r t).word, .int r, .int n]) := upd_same
        have w4 := w3.same sT
        generalize upd H3 t0 (.tup [V.str (Ins.set r t).word, V.int r, V.int n]) = H4 at b3' hq0 w4 ⊢
        have hL4 := b3' _ _ (not4 nLw) e8
        refine ⟨_, _, _, rfl, rfl, hL4, by omega, ?_⟩
        have nt := e4.noT
        have np4 := not4 (e4.pg e5)
        have b5 : ButL (wL Ah At As Ap) H (upd H4 L (.lst (qs.map V.ref ++ [.ref t0]))) := fun b o n e => by
          rw [upd_ne (fun z => by rw [z, nL] at e; cases e)]
          exact b3' b o n (e3 b o n e)
        have nt4 : NoT H4 [L] := NoT.lst hL4 .nil
        have bL : ButL [L] H4 (upd H4 L (.lst (qs.map V.ref ++ [.ref t0]))) := ButL.upd (by simp)
        have tq0 : t0 ≠ L := fun z => by rw [z, hL4] at hq0; cases hq0
        refine ⟨_, T2, qs ++ [t0], rfl, e1.trans ex, by omega, b5, w4.but bL nL1, (e5.butL b3' nt np4).butL bL nt4 (by simp [npL]), (upd_ne npL).trans (b3' _ _ np4 e6), fun m z hm => ?_, by rw [List.map_append]; exact upd_same, by rw [List.length_append, e9]; rfl, fun m z hm hz => ?_⟩
        · obtain ⟨c, h1, h2⟩ := e7 m z hm
          exact ⟨c, h1, (h2.butL b3' nt).butL bL nt4⟩
        · by_cases c : m < j
          · obtain ⟨c1, n1, h1, h2, h3⟩ := e10 m z c hz
            exact ⟨c1, n1, app h1, (h2.butL b3' nt).butL bL nt4, h3.ext ex⟩
          · have : m = j := by omega
            subst this
            rw [hi] at hz
            cases hz
            refine ⟨t0, n, by rw [List.getElem?_append_right (by omega), e9, Nat.sub_self]; rfl, SqT.of ((upd_ne tq0).trans hq0), fun a' t' z => ?_⟩
            cases z
            exact en
      · have hnw : ¬ V.str i.word = V.str (Str.ofString "set") := by
          intro z
          have z := V.str.inj z
          cases i with
          | set a t => exact hs ⟨_, _, rfl⟩
          | move a b => exact absurd z (by decide +kernel : ¬ (Str.ofString "move") = Str.ofString "set")
          | cons a b c => exact absurd z (by decide +kernel : ¬ (Str.ofString "cons") = Str.ofString "set")
          | head a b => exact absurd z (by decide +kernel : ¬ (Str.ofString "head") = Str.ofString "set")
          | tail a b => exact absurd z (by decide +kernel : ¬ (Str.ofString "tail") = Str.ofString "set")
          | jump a b => exact absurd z (by decide +kernel : ¬ (Str.ofString "jump") = Str.ofString "set")
        have hld : ∀ n, ldV i n = i.vs := fun n => by
          cases i with
          | set a t => exact absurd ⟨_, _, rfl⟩ hs
          | _ => rfl
        refine iteNo hnw ⟨_, rfl, .inl ⟨rfl, _, SqL.of e8⟩, _, rfl, _, _, _, rfl, rfl, e8, by omega, ?_⟩
        have b5 : ButL (wL Ah At As Ap) H (upd H2 L (.lst (qs.map V.ref ++ [.ref a]))) := fun b o n e => by
          rw [upd_ne (fun z => by rw [z, nL] at e; cases e)]
          exact e3 b o n e
        have nt4 : NoT H2 [L] := NoT.lst e8 .nil
        have bL : ButL [L] H2 (upd H2 L (.lst (qs.map V.ref ++ [.ref a]))) := ButL.upd (by simp)
        refine ⟨_, T', qs ++ [a], rfl, e1, by omega, b5, e4.but bL nL1, e5.butL bL nt4 (by simp [npL]), (upd_ne npL).trans e6, fun m z hm => ?_, by rw [List.map_append]; exact upd_same, by rw [List.length_append, e9]; rfl, fun m z hm hz => ?_⟩
        · obtain ⟨c, h1, h2⟩ := e7 m z hm
          exact ⟨c, h1, h2.butL bL nt4⟩
        · by_cases c : m < j
          · obtain ⟨c1, n1, h1, h2, h3⟩ := e10 m z c hz
            exact ⟨c1, n1, app h1, h2.butL bL nt4, h3⟩
          · have : m = j := by omega
            subst this
            rw [hi] at hz
            cases hz
            refine ⟨a, 0, by rw [List.getElem?_append_right (by omega), e9, Nat.sub_self]; rfl, ?_, fun a' t' z => absurd ⟨_, _, z⟩ hs⟩
            rw [hld]
            exact ha.butL bL nt4
    · rintro σ H2 ⟨x, T', qs, rfl, e1, e2, e3, e4, e5, e6, e7, e8, e9, e10⟩
      rw [hxl, List.take_length] at e2
      refine ⟨_, rfl, q L T' H2 e1 e2 nL e3 e4 ⟨qs, e8, by omega, fun j i hi => e10 j i ?_ hi⟩⟩
      have := (List.getElem?_eq_some_iff.mp hi).1
      omega
abbrev s_law_step : Stmt := topS 101
abbrev nm_law_step : List Str := ["world", "rows", "at", "registers", "one", "word"]
theorem sc_law_step : FnScope nm_law_step ["world", "rows", "at", "registers"] (defScope s_law_step) := ⟨rfl, rfl, rfl, by decide +kernel, rfl, by decide +kernel, by decide +kernel⟩
def sp_law_step (K : PySem.W.Frag) (cl : Cn → Addr) : Sp := fun vs H Q E => ∃ (W Ah At As Ap L R : Addr) (T : List Tr) (is : List Ins) (k : Nat) (i : Ins) (rs : List Tr) (ns : List Nat), vs = [.ref W, .ref L, .int k, .ref R] ∧ WAt H W Ah At As Ap T ∧ LdAt K H T L is ∧ is[k]? = some i ∧ H R = some (.lst (natsV ns)) ∧ Nums T ns rs ∧ i.below rs.length ∧ R ∉ W :: wL Ah At As Ap ∧ T.length ≤ 16000000 ∧
  ∀ (T' : List Tr) (ns' : List Nat) H', Ext T T' → T'.length ≤ T.length + 1 → ButL (R :: wL Ah At As Ap) H H' → WAt H' W Ah At As Ap T' → H' R = some (.lst (natsV ns')) → Nums T' ns' (stepRs i rs) → Q (.int (stepAt i k rs)) H'
theorem ok_law_step (T : Txt K mg cl w) (H_law_cons : Has P w K mg base CX0 1 "_law_cons" ["world", "a", "b"] (sp_law_cons K cl)) {f : Addr} {fd : FuncData} (F : Fun K "_law_step" "_law_step" s_law_step f fd) : FnOk P w K mg base CX0 2 f fd ["world", "rows", "at", "registers"] (sp_law_step K cl) := by
  obtain ⟨g_Machine, c_Machine⟩ := T.m_Machine
  have n_heads := T.n_Machine_heads
  have n_tails := T.n_Machine_tails
  have n_sizes := T.n_Machine_sizes
  have n_at := T.n_Machine_at
  have n_registers := T.n_Machine_registers
  have n_plan := T.n_Machine_plan
  obtain ⟨f_law_cons, d_law_cons, G_law_cons, g_law_cons, k_law_cons, b_law_cons⟩ := H_law_cons.ex
  refine F.ok sc_law_step (fun vs H Q E h => ?_) (fun cdv A outer s H vs Q E hr h => ?_)
  · obtain ⟨W, Ah, At, As, Ap, L, R, T, is, k, i, rs, ns, rfl, _⟩ := h
    rfl
  · obtain ⟨W, Ah, At, As, Ap, L, R, T, is, k, i, rs, ns, rfl, hw, hL, hi, hR, hn, hb, nR, hl, q⟩ := h
    have hz : sizeLine = 16777216 := rfl
    obtain ⟨qs, hL, hql, hq⟩ := hL
    obtain ⟨a, m, ea, ha, hm⟩ := hq k i hi
    have hk : (qs.map V.ref)[k]? = some (.ref a) := by rw [List.getElem?_map, ea]; rfl
    have hnl := Paired.len hn
    obtain ⟨hs, ts, h1, h2, h3, g⟩ := hw.tb.get
    have at_ : ∀ b, b ∈ i.regs → ∃ n, ns[b]? = some n ∧ T[n]? = some (reg rs b) := fun b h => Paired.get (F := fun (n : Nat) (t : Tr) => T[n]? = some t) hn (reg_get (hb b h))
    have ixa := ixN_nat (n := (natsV ns).length) (j := i.a) (by rw [natsV_len, hnl]; exact Ins.below_a hb)
    have bR : ∀ {X : Hp} {o : HO}, ButL (R :: wL Ah At As Ap) X (upd X R o) := ButL.upd (List.mem_cons_self ..)
    have nR1 : ∀ b ∈ W :: wL Ah At As Ap, b ∉ [R] := fun b hb z => nR (by rw [← List.mem_singleton.mp z]; exact hb)
    have put : ∀ (n : Nat) (t : Tr) (T' : List Tr) (H' : Hp), i.isJ = false → newT i rs = t → Ext T T' → T'.length ≤ T.length + 1 → ButL (wL Ah At As Ap) H H' → WAt H' W Ah At As Ap T' → T'[n]? = some t → Q (.int ((k : Int) + 1)) (upd H' R (.lst ((natsV ns).set i.a (.int n)))) := fun n t T' H' hj ht ex hlt hb' hw' hn' => by
      rw [natsV_set, ← stepAt_no hj (k : Int) rs]
      refine q T' (ns.set i.a n) _ ex hlt (ButL.trans (fun b o nb e => hb' b o (fun z => nb (.tail _ z)) e) bR) (hw'.but (ButL.upd (as := [R]) (by simp)) nR1) upd_same ?_
      rw [stepRs_no hj, ht]
      exact nums_set hn' i.a (Nums.ext hn ex)
    have bH : ∀ {H' : Hp}, ButL (wL Ah At As Ap) H H' → H' R = some (.lst (natsV ns)) := fun hb' => hb' _ _ (not4 nR) hR
    refine ⟨_, (pss_cons (ps_set (i := 4) sc_law_step.nd rfl (Or.inl rfl) (pe_ix (ix_list : IxR _ (rIxL K)) (pv 1) (pv 2) (fun _ _ => rfl)))
      (pss_cons (ps_set (i := 5) sc_law_step.nd rfl (Or.inl rfl) (pe_ix (ix_tup : IxR _ (rIxT K)) (pv 4) pe_int (fun _ _ => rfl)))
      (pss_cons (ps_if (pt_cmpR op_eq (pv 5) pe_str (nomark _)) (pss_cons (ps_if (pt_cmpR op_ne (pe_ix (ix_list : IxR _ (rIxL K)) (pv 3) (pe_ix (ix_tup : IxR _ (rIxT K)) (pv 4) pe_int (fun _ _ => rfl)) (fun _ _ => rfl)) pe_int (nomark _)) (pss_one (ps_ret (pe_op op_add (pv 2) (pe_ix (ix_tup : IxR _ (rIxT K)) (pv 4) pe_int (fun _ _ => rfl))))) pss_nil)
      (pss_one (ps_ret (pe_op op_add (pv 2) pe_int)))) pss_nil)
      (pss_cons (ps_if (pt_cmpR op_eq (pv 5) pe_str (nomark _)) (pss_one (ps_asg (pe_ix (ix_tup : IxR _ (rIxT K)) (pv 4) pe_int (fun _ _ => rfl)) (pg_sub (pv 3) (pe_ix (ix_tup : IxR _ (rIxT K)) (pv 4) pe_int (fun _ _ => rfl)) set_list))) (pss_one (ps_if (pt_cmpR op_eq (pv 5) pe_str (nomark _)) (pss_one (ps_asg (pe_ix (ix_list : IxR _ (rIxL K)) (pv 3) (pe_ix (ix_tup : IxR _ (rIxT K)) (pv 4) pe_int (fun _ _ => rfl)) (fun _ _ => rfl)) (pg_sub (pv 3) (pe_ix (ix_tup : IxR _ (rIxT K)) (pv 4) pe_int (fun _ _ => rfl)) set_list))) (pss_one (ps_if (pt_cmpR op_eq (pv 5) pe_str (nomark _)) (pss_one (ps_asg (pe_call G_law_cons (hr.mono (by decide)) (by rfl) g_law_cons k_law_cons b_law_cons .nil pass0 (pa_cons (pv 0) (pa_cons (pe_ix (ix_list : IxR _ (rIxL K)) (pv 3) (pe_ix (ix_tup : IxR _ (rIxT K)) (pv 4) pe_int (fun _ _ => rfl)) (fun _ _ => rfl)) (pa_cons (pe_ix (ix_list : IxR _ (rIxL K)) (pv 3) (pe_ix (ix_tup : IxR _ (rIxT K)) (pv 4) pe_int (fun _ _ => rfl)) (fun _ _ => rfl)) pa_nil)))) (pg_sub (pv 3) (pe_ix (ix_tup : IxR _ (rIxT K)) (pv 4) pe_int (fun _ _ => rfl)) set_list))) (pss_one (ps_if (pt_cmpR op_eq (pv 5) pe_str (nomark _)) (pss_one (ps_asg (pe_ix (ix_list : IxR _ (rIxL K)) (pe_dget (hu_of hr) (pv 0) pe_str (fun _ _ => rfl)) (pe_ix (ix_list : IxR _ (rIxL K)) (pv 3) (pe_ix (ix_tup : IxR _ (rIxT K)) (pv 4) pe_int (fun _ _ => rfl)) (fun _ _ => rfl)) (fun _ _ => rfl)) (pg_sub (pv 3) (pe_ix (ix_tup : IxR _ (rIxT K)) (pv 4) pe_int (fun _ _ => rfl)) set_list))) (pss_one (ps_asg (pe_ix (ix_list : IxR _ (rIxL K)) (pe_dget (hu_of hr) (pv 0) pe_str (fun _ _ => rfl)) (pe_ix (ix_list : IxR _ (rIxL K)) (pv 3) (pe_ix (ix_tup : IxR _ (rIxT K)) (pv 4) pe_int (fun _ _ => rfl)) (fun _ _ => rfl)) (fun _ _ => rfl)) (pg_sub (pv 3) (pe_ix (ix_tup : IxR _ (rIxT K)) (pv 4) pe_int (fun _ _ => rfl)) set_list))))))))))
      (pss_one (ps_ret (pe_op op_add (pv 2) pe_int))))))), ?_⟩
    refine ⟨_, rfl, _, rfl, _, _, _, _, rfl, rfl, SqL.of hL, atI_nat (j := k) hk, ?_⟩
    have hwd : (ldV i m)[0]? = some (.str i.word) := by cases i <;> rfl
    refine ⟨_, rfl, _, _, _, .str i.word, rfl, rfl, ha, atI_nat (j := 0) hwd, ?_⟩
    refine ⟨_, rfl, rfl, _, rfl, ?_⟩
    have ne : ∀ {x y : String}, (Str.ofString x ≠ Str.ofString y) → ¬ V.str (Str.ofString x) = V.str (Str.ofString y) := fun h z => h (V.str.inj z)
    cases i with
    | jump x n =>
      obtain ⟨c0, hx1, hx2⟩ := at_ x (by simp [Ins.regs])
      refine iteS rfl ⟨_, rfl, _, rfl, _, _, _, _, rfl, rfl, ha, atI_nat (j := 1) rfl, _, _, _, _, rfl, rfl, SqL.of hR, natsV_at hx1, rfl, _, rfl, ?_⟩
      by_cases c : reg rs x = .leaf
      · have e : stepAt (.jump x n) k rs = (k : Int) + 1 := if_pos c
        rw [e] at q
        have c00 : c0 = 0 := hw.nd c0 0 .leaf (by rw [hx2, c]) g.z
        subst c00
        refine iteF' (by rfl) ⟨_, rfl, _, _, rfl, rfl, q T ns H (Ext.refl T) (by omega) (ButL.refl _ _) hw hR hn⟩
      · have e : stepAt (.jump x n) k rs = (k : Int) + n := if_neg c
        rw [e] at q
        have c00 : c0 ≠ 0 := fun z => c (by
          rw [z, g.z] at hx2
          exact (Option.some.inj hx2).symm)
        refine iteT' (by rw [decide_eq_false (fun z => c00 (by have := V.int.inj z; omega))]; rfl) ⟨_, rfl, _, rfl, _, _, _, _, rfl, rfl, ha, atI_nat (j := 2) rfl, _, _, rfl, rfl, q T ns H (Ext.refl T) (by omega) (ButL.refl _ _) hw hR hn⟩
    | set x t =>
      refine iteNo (ne (by decide +kernel)) ⟨_, rfl, rfl, _, rfl, iteS rfl ⟨_, rfl, _, _, _, _, rfl, rfl, ha, atI_nat (j := 2) rfl, _, rfl, _, rfl, _, _, _, _, rfl, rfl, ha, atI_nat (j := 1) rfl, R, _, _, x, rfl, rfl, hR, ixa, ?_⟩⟩
      exact ⟨_, rfl, _, _, rfl, rfl, put m t T H rfl rfl (Ext.refl T) (by omega) (ButL.refl _ _) hw (hm _ _ rfl)⟩
    | move x b =>
      obtain ⟨c0, hx1, hx2⟩ := at_ b (by simp [Ins.regs])
      refine iteNo (ne (by decide +kernel)) ⟨_, rfl, rfl, _, rfl, iteNo (ne (by decide +kernel)) ⟨_, rfl, rfl, _, rfl, iteS rfl ?_⟩⟩
      refine ⟨_, rfl, _, rfl, _, _, _, _, rfl, rfl, ha, atI_nat (j := 2) rfl, _, _, _, _, rfl, rfl, SqL.of hR, natsV_at hx1, _, rfl, _, rfl, _, _, _, _, rfl, rfl, ha, atI_nat (j := 1) rfl, R, _, _, x, rfl, rfl, hR, ixa, ?_⟩
      exact ⟨_, rfl, _, _, rfl, rfl, put c0 _ T H rfl rfl (Ext.refl T) (by omega) (ButL.refl _ _) hw hx2⟩
    | cons x b c =>
      obtain ⟨c0, hx1, hx2⟩ := at_ b (by simp [Ins.regs])
      obtain ⟨c1, hy1, hy2⟩ := at_ c (by simp [Ins.regs])
      refine iteNo (ne (by decide +kernel)) ⟨_, rfl, rfl, _, rfl, iteNo (ne (by decide +kernel)) ⟨_, rfl, rfl, _, rfl, iteNo (ne (by decide +kernel)) ⟨_, rfl, rfl, _, rfl, iteS rfl ?_⟩⟩⟩
      refine ⟨_, rfl, _, rfl, _, rfl, _, _, _, _, rfl, rfl, ha, atI_nat (j := 2) rfl, _, _, _, _, rfl, rfl, SqL.of hR, natsV_at hx1, _, rfl, _, rfl, _, _, _, _, rfl, rfl, ha, atI_nat (j := 3) rfl, _, _, _, _, rfl, rfl, SqL.of hR, natsV_at hy1, ?_⟩
      refine ⟨W, Ah, At, As, Ap, T, c0, c1, _, _, rfl, hw, hx2, hy2, hl, fun n T' H' ex el en b' w' => ?_⟩
      refine ⟨_, rfl, _, rfl, _, _, _, _, rfl, rfl, ha.butL b' hw.noT, atI_nat (j := 1) rfl, R, _, _, x, rfl, rfl, bH b', ixa, ?_⟩
      exact ⟨_, rfl, _, _, rfl, rfl, put n _ T' H' rfl rfl ex el b' w' en⟩
    | head x b =>
      obtain ⟨c0, hx1, hx2⟩ := at_ b (by simp [Ins.regs])
      obtain ⟨u, v, hu, hv, hu2, hv2⟩ := g.at_ c0 _ hx2
      refine iteNo (ne (by decide +kernel)) ⟨_, rfl, rfl, _, rfl, iteNo (ne (by decide +kernel)) ⟨_, rfl, rfl, _, rfl, iteNo (ne (by decide +kernel)) ⟨_, rfl, rfl, _, rfl, iteNo (ne (by decide +kernel)) ⟨_, rfl, rfl, _, rfl, iteS rfl ?_⟩⟩⟩⟩
      refine ⟨_, rfl, _, _, rfl, hw.gh, _, rfl, _, rfl, _, _, _, _, rfl, rfl, ha, atI_nat (j := 2) rfl, _, _, _, _, rfl, rfl, SqL.of hR, natsV_at hx1, _, _, _, _, rfl, rfl, SqL.of h1, natsV_at hu, _, rfl, _, rfl, _, _, _, _, rfl, rfl, ha, atI_nat (j := 1) rfl, R, _, _, x, rfl, rfl, hR, ixa, ?_⟩
      exact ⟨_, rfl, _, _, rfl, rfl, put u _ T H rfl rfl (Ext.refl T) (by omega) (ButL.refl _ _) hw hu2⟩
    | tail x b =>
      obtain ⟨c0, hx1, hx2⟩ := at_ b (by simp [Ins.regs])
      obtain ⟨u, v, hu, hv, hu2, hv2⟩ := g.at_ c0 _ hx2
      refine iteNo (ne (by decide +kernel)) ⟨_, rfl, rfl, _, rfl, iteNo (ne (by decide +kernel)) ⟨_, rfl, rfl, _, rfl, iteNo (ne (by decide +kernel)) ⟨_, rfl, rfl, _, rfl, iteNo (ne (by decide +kernel)) ⟨_, rfl, rfl, _, rfl, iteNo (ne (by decide +kernel)) ?_⟩⟩⟩⟩
      refine ⟨_, rfl, _, _, rfl, hw.gt, _, rfl, _, rfl, _, _, _, _, rfl, rfl, ha, atI_nat (j := 2) rfl, _, _, _, _, rfl, rfl, SqL.of hR, natsV_at hx1, _, _, _, _, rfl, rfl, SqL.of h2, natsV_at hv, _, rfl, _, rfl, _, _, _, _, rfl, rfl, ha, atI_nat (j := 1) rfl, R, _, _, x, rfl, rfl, hR, ixa, ?_⟩
      exact ⟨_, rfl, _, _, rfl, rfl, put v _ T H rfl rfl (Ext.refl T) (by omega) (ButL.refl _ _) hw hv2⟩
abbrev s_law_run : Stmt := topS 102
abbrev nm_law_run : List Str := ["world", "program", "x", "steps", "rows", "registers", "at", "k", "now"]
theorem sc_law_run : FnScope nm_law_run ["world", "program", "x", "steps"] (defScope s_law_run) := ⟨rfl, rfl, rfl, by decide +kernel, rfl, by decide +kernel, by decide +kernel⟩
def sp_law_run (K : PySem.W.Frag) (cl : Cn → Addr) : Sp := fun vs H Q E => ∃ (W Ah At As Ap p : Addr) (T : List Tr) (is : List Ins) (x : Tr) (nx steps : Nat), vs = [.ref W, .ref p, .int nx, .int steps] ∧ WAt H W Ah At As Ap T ∧ PgK K H p is ∧ T[nx]? = some x ∧ JOk is ∧ (∀ i ∈ is, i.below 20 ∧ i.big ≤ 1000000) ∧ is.length ≤ 1000000 ∧ T.length + bigSum is + steps ≤ 8000000 ∧
  ∀ (v : V) (T' : List Tr) H', RunV H' T' is x steps v → Ext T T' → T'.length ≤ T.length + bigSum is + steps → ButL (wL Ah At As Ap) H H' → WAt H' W Ah At As Ap T' → Q v H'
theorem ok_law_run (T : Txt K mg cl w) (H_law_loaded : Has P w K mg base CX0 3 "_law_loaded" ["world", "program"] (sp_law_loaded K cl)) (H_law_step : Has P w K mg base CX0 2 "_law_step" ["world", "rows", "at", "registers"] (sp_law_step K cl)) {f : Addr} {fd : FuncData} (F : Fun K "_law_run" "_law_run" s_law_run f fd) : FnOk P w K mg base CX0 4 f fd ["world", "program", "x", "steps"] (sp_law_run K cl) := by
  have m_range := T.m_range
  have m_len := T.m_len
  obtain ⟨g_Machine, c_Machine⟩ := T.m_Machine
  have n_heads := T.n_Machine_heads
  have n_tails := T.n_Machine_tails
  have n_sizes := T.n_Machine_sizes
  have n_at := T.n_Machine_at
  have n_registers := T.n_Machine_registers
  have n_plan := T.n_Machine_plan
  obtain ⟨f_law_loaded, d_law_loaded, G_law_loaded, g_law_loaded, k_law_loaded, b_law_loaded⟩ := H_law_loaded.ex
  obtain ⟨f_law_step, d_law_step, G_law_step, g_law_step, k_law_step, b_law_step⟩ := H_law_step.ex
  refine F.ok sc_law_run (fun vs H Q E h => ?_) (fun cdv A outer s H vs Q E hr h => ?_)
  · obtain ⟨W, Ah, At, As, Ap, p, T, is, x, nx, steps, rfl, _⟩ := h
    rfl
  · obtain ⟨W, Ah, At, As, Ap, p, T, is, x, nx, steps, rfl, hw, hp, hx, hJ, hb, hl, hz, qv⟩ := h
    obtain ⟨q1, q2⟩ := runV_mk qv
    have hsl : sizeLine = 16777216 := rfl
    refine ⟨_, (pss_cons (ps_set (i := 4) sc_law_run.nd rfl (Or.inl rfl) (pe_call G_law_loaded (hr.mono (by decide)) (by rfl) g_law_loaded k_law_loaded b_law_loaded .nil pass0 (pa_cons (pv 0) (pa_cons (pv 1) pa_nil))))
      (pss_cons (ps_set (i := 5) sc_law_run.nd rfl (Or.inl rfl) (pe_op op_cat (pe_lst (pa_cons (pv 2) pa_nil)) (pe_op op_rep (pe_lst (pa_cons pe_int pa_nil)) pe_int)))
      (pss_cons (ps_set (i := 6) sc_law_run.nd rfl (Or.inl rfl) pe_int)
      (pss_cons (ps_for PassesOwn.never rfl (pi_range1 (by rfl) m_range (pa_cons (pe_op op_add (pv 3) pe_int) pa_nil)) (pg_name (i := 7) sc_law_run.nd rfl (Or.inl rfl)) (pss_cons (ps_if (pt_cmpR op_eq (pv 6) (pe_callB (call_lenS : CallR _ _ (rLenS K)) (by rfl) m_len (by decide +kernel) (pa_cons (pv 4) pa_nil)) (nomark _)) (pss_one (ps_ret (pe_tup (pa_cons (pe_ix (ix_list : IxR _ (rIxL K)) (pv 5) pe_int (fun _ _ => rfl)) (pa_cons (pv 7) pa_nil))))) pss_nil)
      (pss_cons (ps_if (pt_cmpR op_eq (pv 7) (pv 3) (nomark _)) (pss_one (ps_ret pe_non)) pss_nil)
      (pss_cons (ps_set (i := 8) sc_law_run.nd rfl (Or.inl rfl) (pv 6))
      (pss_cons (ps_set (i := 6) sc_law_run.nd rfl (Or.inl rfl) (pe_call G_law_step (hr.mono (by decide)) (by rfl) g_law_step k_law_step b_law_step .nil pass0 (pa_cons (pv 0) (pa_cons (pv 4) (pa_cons (pv 6) (pa_cons (pv 5) pa_nil))))))
      (pss_one (ps_if (PW.pt (pw_and (pt_cmpR op_eq (pe_ix (ix_tup : IxR _ (rIxT K)) (pe_ix (ix_list : IxR _ (rIxL K)) (pv 4) (pv 8) (fun _ _ => rfl)) pe_int (fun _ _ => rfl)) pe_str (nomark _)) (pw_and1 (pt_cmpR op_gt (pe_ix (ix_list : IxR _ (rIxL K)) (pe_dget (hu_of hr) (pv 0) pe_str (fun _ _ => rfl)) (pe_ix (ix_list : IxR _ (rIxL K)) (pv 5) (pe_ix (ix_tup : IxR _ (rIxT K)) (pe_ix (ix_list : IxR _ (rIxL K)) (pv 4) (pv 8) (fun _ _ => rfl)) pe_int (fun _ _ => rfl)) (fun _ _ => rfl)) (fun _ _ => rfl)) pe_int (nomark _))))) (pss_one (ps_ret pe_str)) pss_nil)))))))
      (pss_one (ps_ret pe_non)))))), ?_⟩
    refine ⟨_, rfl, _, rfl, W, Ah, At, As, Ap, p, T, is, rfl, hw, hp, by omega, fun i hi => (hb i hi).2, hl, fun L T1 H1 x1 l1 nL b1 w1 hL => ?_⟩
    refine ⟨_, rfl, (by show 1 ≤ sizeLine; omega), fun p1 n1 => ?_⟩
    have e1 : upd H1 p1 (.lst [.int nx]) p1 = some (.lst [.int nx]) := upd_same
    have m1 := Same.upd (o := .lst [.int nx]) n1
    generalize upd H1 p1 (.lst [V.int nx]) = H2 at e1 m1 ⊢
    refine ⟨(by show 1 ≤ sizeLine; omega), fun p2 n2 => ?_⟩
    have e2 : upd H2 p2 (.lst [.int 0]) p2 = some (.lst [.int 0]) := upd_same
    have m2 := Same.upd (o := .lst [.int 0]) n2
    generalize upd H2 p2 (.lst [V.int 0]) = H3 at e2 m2 ⊢
    refine ⟨_, _, _, rfl, rfl, e2, (by omega), (by omega), (by show 1 * 19 ≤ sizeLine; omega), fun p3 n3 => ?_⟩
    have e3 : upd H3 p3 (.lst (List.replicate (19 : Int).toNat [V.int 0]).flatten) p3 = some (.lst (List.replicate (19 : Int).toNat [V.int 0]).flatten) := upd_same
    have m3 := Same.upd (o := .lst (List.replicate (19 : Int).toNat [V.int 0]).flatten) n3
    generalize upd H3 p3 (.lst (List.replicate (19 : Int).toNat [V.int 0]).flatten) = H4 at e3 m3 ⊢
    refine ⟨_, _, _, _, rfl, rfl, m3 _ _ (m2 _ _ e1), e3, le6 rfl, fun R nR => ?_⟩
    have zs : [V.int nx] ++ (List.replicate (19 : Int).toNat [V.int 0]).flatten = natsV (nx :: List.replicate 19 0) := rfl
    rw [zs]
    have eR : upd H4 R (.lst (natsV (nx :: List.replicate 19 0))) R = some (.lst (natsV (nx :: List.replicate 19 0))) := upd_same
    have mR := ((m1.trans m2).trans m3).trans (Same.upd (o := .lst (natsV (nx :: List.replicate 19 0))) nR)
    have nR1 : H1 R = none := by
      cases e : H1 R with
      | none => rfl
      | some u => rw [((m1.trans m2).trans m3) R u e] at nR; cases nR
    have nRw := w1.none nR1
    have nR0 : H R = none := by
      cases e : H R with
      | none => rfl
      | some u => rw [b1 R u (not4 nRw) e] at nR1; cases nR1
    have b5 := b1.trans (mR.butL (as := wL Ah At As Ap))
    have w5 := w1.same mR
    obtain ⟨qs0, hL1, _⟩ := id hL
    have nLR : L ≠ R := fun z => by rw [z, nR1] at hL1; cases hL1
    have nLw := w1.refs hL1
    have hL5 := hL.on (as := []) mR.butL .nil (by simp) (Ext.refl T1)
    have hx1 := x1 nx x hx
    obtain ⟨hs1, ts1, _, _, _, g1⟩ := w1.tb.get
    have hn0 : Nums T1 (nx :: List.replicate 19 0) (rs0 x) := .cons hx1 (nums_0 g1.z 19)
    generalize upd H4 R (.lst (natsV (nx :: List.replicate 19 0))) = H5 at eR mR b5 w5 hL5 ⊢
    clear e1 m1 n1 e2 m2 n2 e3 m3 n3
    refine ⟨_, rfl, _, _, rfl, rfl, steps + 1, rfl, by omega, by omega, ?_⟩
    refine for_range (lo := 0) (n := steps + 1) (fun j σ H' => ∃ (k : Nat) (rs : List Tr) (ns : List Nat) (T' : List Tr) (v7 v8 : Option V), σ = [some (.ref W), some (.ref p), some (.int nx), some (.int steps), some (.ref L), some (.ref R), some (.int k), v7, v8] ∧ k ≤ is.length ∧ rs.length = 20 ∧ go is steps 0 (rs0 x) = addN j (go is (steps - j) k rs) ∧ j ≤ steps ∧ Ext T T' ∧ T'.length ≤ T.length + bigSum is + j ∧ ButL (wL Ah At As Ap) H H' ∧ WAt H' W Ah At As Ap T' ∧ LdAt K H' T' L is ∧ H' R = some (.lst (natsV ns)) ∧ Nums T' ns rs)
      ⟨0, rs0 x, _, T1, _, _, rfl, Nat.zero_le _, rs0_len x, (addN_0 _).symm, Nat.zero_le _, x1, by omega, b5, w5, hL5, eR, hn0⟩ ?_ ?_
    · rintro j σ H6 hj ⟨k, rs, ns, T', v7, v8, rfl, hk, hrl, hgo, hjs, hxT, hlT, hbH, w6, hL6, hR6, hn6⟩
      obtain ⟨qs, hL7, hql, hq⟩ := id hL6
      have hqm : (qs.map V.ref).length = is.length := by rw [List.length_map, hql]
      have hnl := Paired.len hn6
      have r0 : ∃ n, ns[0]? = some n ∧ T'[n]? = some (reg rs 0) := Paired.get (F := fun (n : Nat) (t : Tr) => T'[n]? = some t) hn6 (reg_get (by omega))
      obtain ⟨n0, hn0, ht0⟩ := r0
      refine ⟨_, rfl, _, rfl, _, _, rfl, .inl (SqL.of hL7), rfl, _, rfl, ?_⟩
      by_cases c1 : k = is.length
      · refine iteS (by rw [hqm, c1]) ?_
        refine ⟨_, rfl, _, _, _, _, rfl, rfl, SqL.of hR6, natsV_at (j := 0) hn0, _, rfl, (by show 2 ≤ sizeLine; omega), fun q nq => ?_⟩
        have hge : go is (steps - j) k rs = some (k, rs, 0) := go_end (List.getElem?_eq_none_iff.mpr (by omega))
        rw [hge] at hgo
        have sq := Same.upd (o := .tup [.int n0, .int (0 + (j : Int))]) nq
        refine (q1 k (0 + j) rs hgo T' _ hxT (by omega) (hbH.trans sq.butL) (w6.same sq)).2 c1 n0 q ht0 ?_
        rw [upd_same]
        rw [show (0 : Int) + (j : Int) = ((0 + j : Nat) : Int) by omega]
      refine iteNo (fun z => c1 (by have := V.int.inj z; rw [hqm] at this; omega)) ?_
      refine ⟨_, rfl, _, rfl, rfl, _, rfl, ?_⟩
      by_cases c2 : j = steps
      · refine iteS (by rw [show (0 : Int) + (j : Int) = (steps : Int) by omega]) ?_
        subst c2
        rw [Nat.sub_self] at hgo
        exact (q1 k _ rs hgo T' _ hxT (by omega) hbH w6).1 (by omega)
      refine iteNo (fun z => c2 (by have := V.int.inj z; omega)) ?_
      refine ⟨_, rfl, ?_⟩
      obtain ⟨i, hi⟩ : ∃ i, is[k]? = some i := ⟨_, List.getElem?_eq_getElem (by omega)⟩
      have hbi := (hb i (List.mem_of_getElem? hi)).1
      have hbr : i.below rs.length := by rw [hrl]; exact hbi
      obtain ⟨j2, hj2, hj3⟩ := hJ k i rs hi
      refine ⟨_, rfl, _, rfl, _, rfl, _, rfl, ?_⟩
      refine ⟨W, Ah, At, As, Ap, L, R, T', is, k, i, rs, ns, rfl, w6, hL6, hi, hR6, hn6, hbr, nRw, by omega, fun T2 ns2 H7 x7 l7 b7 w7 r7 hn7 => ?_⟩
      rw [hj2]
      have nt6 : NoT H6 (R :: wL Ah At As Ap) := NoT.lst hR6 w6.noT
      have nL5 : L ∉ R :: wL Ah At As Ap := by
        intro z
        rcases List.mem_cons.mp z with z | z
        · exact nLR z
        · exact not4 nLw z
      have hL8 := hL6.on b7 nt6 nL5 x7
      obtain ⟨a, m, ea, ha, hm⟩ := hq k i hi
      have hk2 : (qs.map V.ref)[k]? = some (.ref a) := by rw [List.getElem?_map, ea]; rfl
      have hwd : (ldV i m)[0]? = some (.str i.word) := by cases i <;> rfl
      have hwd1 : (ldV i m)[1]? = some (.int i.a) := by cases i <;> rfl
      have ha7 := ha.butL b7 nt6
      have hL77 := b7 _ _ nL5 hL7
      have hgs : go is (steps - j) k rs = if bigS i rs then none else addN 1 (go is (steps - (j + 1)) (stepAt i k rs).toNat (stepRs i rs)) := by
        rw [show steps - j = (steps - (j + 1)) + 1 by omega, go_succ, hi]
      have hsl2 : (stepRs i rs).length = 20 := by rw [stepRs_len, hrl]
      have hRa : ∃ n, ns2[i.a]? = some n ∧ T2[n]? = some (reg (stepRs i rs) i.a) := Paired.get (F := fun (n : Nat) (t : Tr) => T2[n]? = some t) hn7 (reg_get (by rw [hsl2]; exact Ins.below_a hbi))
      obtain ⟨na, hna, hta⟩ := hRa
      have bH7 : ButL (wL Ah At As Ap) H H7 := fun b o nb e => b7 b o (fun z => by
        rcases List.mem_cons.mp z with z | z
        · rw [z, nR0] at e; cases e
        · exact nb z) (hbH b o nb e)
      refine ⟨_, rfl, _, rfl, _, _, _, _, rfl, rfl, SqL.of hL77, atI_nat (j := k) hk2, _, _, _, _, rfl, rfl, ha7, atI_nat (j := 0) hwd, rfl, _, rfl, ?_⟩
      have hb2 : ∀ (a' b' c' : Nat), i = .cons a' b' c' → bigS i rs = decide (200000 < (reg (stepRs i rs) i.a).sg.length) := fun a' b' c' z => by
        subst z
        show decide _ = decide (200000 < (reg (rs.set a' (.node (reg rs b') (reg rs c'))) a').sg.length)
        rw [reg_set _ (by rw [hrl]; exact hbi _ (by simp [Ins.regs]))]
      have goOn : bigS i rs = false → go is steps 0 (rs0 x) = addN (j + 1) (go is (steps - (j + 1)) j2 (stepRs i rs)) := fun z => by
        rw [hgo, hgs, z, hj2]
        show addN j (addN 1 _) = _
        rw [addN_addN, Nat.add_comm 1 j]
        rfl
      have l77 : T2.length ≤ T.length + bigSum is + (j + 1) := by omega
      by_cases hc : ∃ a b c, i = .cons a b c
      · obtain ⟨a', b', c', rfl⟩ := hc
        have hb3 := hb2 _ _ _ rfl
        obtain ⟨hs2, ts2, _, _, z3, _⟩ := w7.tb.get
        refine iteS rfl ⟨_, rfl, _, _, rfl, w7.gs, _, rfl, _, rfl, _, rfl, _, _, _, _, rfl, rfl, SqL.of hL77, atI_nat (j := k) hk2, _, _, _, _, rfl, rfl, ha7, atI_nat (j := 1) rfl, _, _, _, _, rfl, rfl, SqL.of r7, natsV_at hna, _, _, _, _, rfl, rfl, SqL.of z3, sizV_at hta, _, _, rfl, rfl, _, rfl, ?_⟩
        by_cases c3 : 200000 < (reg (stepRs (.cons a' b' c') rs) (Ins.cons a' b' c').a).sg.length
        · refine iteT' (by rw [decide_eq_true (by show (200000 : Int) < _; omega)]) ?_
          refine q2 ?_ T2 H7 (hxT.trans x7) (by omega) bH7 w7
          rw [hgo, hgs, hb3]
          show addN j (if decide (200000 < (reg (stepRs (.cons a' b' c') rs) (Ins.cons a' b' c').a).sg.length) = true then _ else _) = _
          rw [decide_eq_true c3]
          rfl
        · refine iteF' (by rw [decide_eq_false (by show ¬ (200000 : Int) < _; omega)]) ?_
          exact ⟨j2, _, ns2, T2, _, _, rfl, hj3, hsl2, goOn (by rw [hb3]; exact decide_eq_false c3), by omega, hxT.trans x7, l77, bH7, w7, hL8, r7, hn7⟩
      · have hnw : ¬ V.str i.word = V.str (Str.ofString "cons") := by
          intro z
          have z := V.str.inj z
          cases i with
          | cons a b c => exact hc ⟨_, _, _, rfl⟩
          | move a b => exact absurd z (by decide +kernel : ¬ (Str.ofString "move") = Str.ofString "cons")
          | set a b => exact absurd z (by decide +kernel : ¬ (Str.ofString "set") = Str.ofString "cons")
          | head a b => exact absurd z (by decide +kernel : ¬ (Str.ofString "head") = Str.ofString "cons")
          | tail a b => exact absurd z (by decide +kernel : ¬ (Str.ofString "tail") = Str.ofString "cons")
          | jump a b => exact absurd z (by decide +kernel : ¬ (Str.ofString "jump") = Str.ofString "cons")
        have hbf : bigS i rs = false := by
          cases i with
          | cons a b c => exact absurd ⟨_, _, _, rfl⟩ hc
          | _ => rfl
        refine iteNo hnw (iteF ?_)
        exact ⟨j2, _, ns2, T2, _, _, rfl, hj3, hsl2, goOn hbf, by omega, hxT.trans x7, l77, bH7, w7, hL8, r7, hn7⟩
    · rintro σ H6 ⟨k, rs, ns, T', v7, v8, rfl, hk, hrl, hgo, hjs, _⟩
      omega
abbrev s_trees_of : Stmt := topS 20
abbrev nm_trees_of : List Str := ["program", "instruction"]
theorem sc_trees_of : FnScope nm_trees_of ["program"] (defScope s_trees_of) := ⟨rfl, rfl, rfl, by decide +kernel, rfl, by decide +kernel, by decide +kernel⟩
/-- the rows of a list, with the trees that they set -/
def TrR (K : PySem.W.Frag) (H : Hp) (xs : List V) (os : List (Option Str)) : Prop := xs.length = os.length ∧ ∀ (j : Nat) (y : V), xs[j]? = some y → ∃ (T : Addr) (us : List V) (w : Str) (o : Option Str), y = .ref T ∧ SqT K H T us ∧ us[0]? = some (.str w) ∧ os[j]? = some o ∧
  ((w = Str.ofString "set" ∧ ∃ t, us[2]? = some (.str t) ∧ o = some t) ∨ (w ≠ Str.ofString "set" ∧ o = none))
theorem TrR.vd {K : PySem.W.Frag} {H : Hp} {xs : List V} {ds : List PyData} (r : VdA H xs ds)
    (form : ∀ (j : Nat) (d : PyData), ds[j]? = some d → ∃ w ps, d = .tuple (.str w :: ps) ∧ ((w = Str.ofString "set" ∧ ∃ p0 t, ps = [p0, .str t] ∧ treeD d = some t) ∨ (w ≠ Str.ofString "set" ∧ treeD d = none))) : TrR K H xs (ds.map treeD) := by
  refine ⟨by rw [List.length_map]; exact r.len, fun j y hy => ?_⟩
  obtain ⟨d, hd, hvd⟩ := r.get' hy
  obtain ⟨w, ps, rfl, hf⟩ := form j d hd
  obtain ⟨T, us, rfl, hT, hu, _⟩ := hvd.row
  refine ⟨T, _, w, treeD (.tuple (.str w :: ps)), rfl, SqT.of hT, rfl, by rw [List.getElem?_map, hd]; rfl, ?_⟩
  rcases hf with ⟨hw, p0, t, rfl, ht⟩ | ⟨hw, ht⟩
  · refine .inl ⟨hw, t, ?_, ht⟩
    cases hu with
    | cons hu0 r1 =>
      cases r1 with
      | cons ht1 r2 =>
        cases r2
        cases ht1 with
        | str _ hts => rfl
  · exact .inr ⟨hw, ht⟩
theorem TrR.pg {K : PySem.W.Frag} {H : Hp} : ∀ {as : List Addr} {is : List Ins}, RowsK K H as is → TrR K H (as.map V.ref) (is.map fun i => i.tree.map Tr.str) := fun {as is} r => by
  have hl := Paired.len r
  refine ⟨by rw [List.length_map, List.length_map, hl], fun j y hy => ?_⟩
  have hj : j < is.length := by
    have := (List.getElem?_eq_some_iff.mp hy).1
    rw [List.length_map] at this
    omega
  have hi := List.getElem?_eq_getElem hj
  obtain ⟨a, h1, h2⟩ := Paired.get r hi
  rw [List.getElem?_map, h1] at hy
  cases hy
  generalize is[j] = i at hi h2
  refine ⟨a, i.vs, i.word, i.tree.map Tr.str, rfl, h2, rfl, by rw [List.getElem?_map, hi]; rfl, ?_⟩
  cases i with
  | set a t => exact .inl ⟨rfl, t.str, rfl, rfl⟩
  | move a b => exact .inr ⟨(by decide +kernel : Str.ofString "move" ≠ Str.ofString "set"), rfl⟩
  | cons a b c => exact .inr ⟨(by decide +kernel : Str.ofString "cons" ≠ Str.ofString "set"), rfl⟩
  | head a b => exact .inr ⟨(by decide +kernel : Str.ofString "head" ≠ Str.ofString "set"), rfl⟩
  | tail a b => exact .inr ⟨(by decide +kernel : Str.ofString "tail" ≠ Str.ofString "set"), rfl⟩
  | jump a m => exact .inr ⟨(by decide +kernel : Str.ofString "jump" ≠ Str.ofString "set"), rfl⟩
theorem take_id {os : List (Option Str)} {j : Nat} {o : Option Str} (h : os[j]? = some o) : (os.take (j + 1)).filterMap id = (os.take j).filterMap id ++ o.toList := by
  rw [List.take_add_one, h, List.filterMap_append]
  cases o <;> rfl
theorem id_map (ds : List PyData) : (ds.map treeD).filterMap id = ds.filterMap treeD := by
  rw [List.filterMap_map]
  rfl
theorem id_trees (is : List Ins) : (is.map fun i => i.tree.map Tr.str).filterMap id = (is.filterMap Ins.tree).map Tr.str := by
  induction is with
  | nil => rfl
  | cons i r ih =>
    rw [List.map_cons, List.filterMap_cons, List.filterMap_cons]
    cases e : i.tree with
    | none => exact ih
    | some t =>
      show t.str :: _ = _
      rw [ih]
      rfl
def sp_trees_of (K : PySem.W.Frag) (cl : Cn → Addr) : Sp := fun vs H Q _ => ∃ (a : Addr) (xs : List V) (os : List (Option Str)), vs = [.ref a] ∧ H a = some (.lst xs) ∧ TrR K H xs os ∧ os.length ≤ 1000000 ∧
  ∀ D H', Same H H' → H D = none → H' D = some (.lst ((os.filterMap id).map V.str)) → Q (.ref D) H'
theorem ok_trees_of (T : Txt K mg cl w) {f : Addr} {fd : FuncData} (F : Fun K "trees_of" "trees_of" s_trees_of f fd) : FnOk P w K mg base CX0 1 f fd ["program"] (sp_trees_of K cl) := by
  obtain ⟨g_Machine, c_Machine⟩ := T.m_Machine
  have n_heads := T.n_Machine_heads
  have n_tails := T.n_Machine_tails
  have n_sizes := T.n_Machine_sizes
  have n_at := T.n_Machine_at
  have n_registers := T.n_Machine_registers
  have n_plan := T.n_Machine_plan
  refine F.ok sc_trees_of (fun vs H Q E h => ?_) (fun cdv A outer s H vs Q E hr h => ?_)
  · obtain ⟨a, xs, ds, rfl, _⟩ := h
    rfl
  · obtain ⟨a, xs, os, rfl, ha, r, hlen, q⟩ := h
    have hn := r.1
    have szl : sizeLine = 16777216 := rfl
    refine ⟨_, (pss_one (ps_ret (pe_lc (own := [("instruction", 1)]) (g := gName 1) rfl sc_trees_of.nd (pi_list (pv 0)) (blkOk_by (N := nm_trees_of) (sc := defScope s_trees_of) (by decide +kernel)) (fun _ _ _ _ _ => (pg_name (i := 1) sc_trees_of.nd rfl (Or.inl rfl))) (fun _ _ _ _ _ => pts_one (pt_cmpR op_eq (pe_ix (ix_tup : IxR _ (rIxT K)) (pv 1) pe_int (fun _ _ => rfl)) pe_str (nomark _))) (fun _ _ _ _ _ => (pe_ix (ix_tup : IxR _ (rIxT K)) (pv 1) pe_int (fun _ _ => rfl)))))), ?_⟩
    refine ⟨_, rfl, a, rfl, ⟨_, SqL.of ha⟩, fun D nD => lc_it walk_list (fun j H' => Same H H' ∧ H' D = some (.lst (((os.take j).filterMap id).map V.str))) ⟨Same.upd nD, upd_same⟩ (fun j H' _ s => SqL.of (s.1 _ _ ha)) ?_ ?_⟩
    · rintro j y H2 H3 hj ⟨s2, hD⟩ ⟨rfl, hy⟩
      obtain ⟨T, us, w, o, rfl, hT, hw0, ho, hf⟩ := r.2 j y hy
      have hT := Same.seqT s2 hT
      have hsame : ∀ o, Same H (upd H3 D o) := fun o b x z => by
        rw [upd_ne (ne_of_none z nD)]
        exact s2 b x z
      refine ⟨rfl, ?_⟩
      refine ⟨_, rfl, _, _, _, _, rfl, rfl, hT, atI_nat (j := 0) hw0, rfl, _, rfl, ?_⟩
      rcases hf with ⟨hw, t, ht2, rfl⟩ | ⟨hw, rfl⟩
      · refine iteS (by rw [hw]) ?_
        refine ⟨_, rfl, _, _, _, _, rfl, rfl, hT, atI_nat (j := 2) ht2, ?_⟩
        refine ⟨_, hD, ?_, hsame _, ?_⟩
        · have h1 := List.length_filterMap_le id (os.take j)
          rw [List.length_map]
          rw [List.length_take] at h1
          omega
        · rw [upd_same, take_id ho, List.map_append]
          rfl
      · refine iteNo (fun z => hw (V.str.inj z)) ?_
        refine ⟨s2, ?_⟩
        rw [hD, take_id ho, show (none : Option Str).toList = [] from rfl, List.append_nil]
    · rintro H2 ⟨s2, hD⟩
      rw [List.take_of_length_le (by omega)] at hD
      exact q D H2 s2 nD hD
abbrev s_fits_programs : Stmt := topS 22
abbrev nm_fits_programs : List Str := ["kind", "part", "index", "count"]
theorem sc_fits_programs : FnScope nm_fits_programs ["kind", "part", "index", "count"] (defScope s_fits_programs) := ⟨rfl, rfl, rfl, by decide +kernel, rfl, by decide +kernel, by decide +kernel⟩
def sp_fits_programs (K : PySem.W.Frag) (cl : Cn → Addr) : Sp := fun vs H Q _ => ∃ (k : Nat) (v : V) (d : PyData) (i n : Int), vs = [.str ⟨#[k]⟩, v, .int i, .int n] ∧ Vd H v d ∧ Q (.bl (fitsD k d i n)) H
theorem ok_fits_programs (T : Txt K mg cl w) {f : Addr} {fd : FuncData} (F : Fun K "_fits" "_fits" s_fits_programs f fd) : FnOk P w K mg base CX0 1 f fd ["kind", "part", "index", "count"] (sp_fits_programs K cl) := by
  have m_isinstance := T.m_isinstance
  have m_str := T.m_str
  have m_bool := T.m_bool
  obtain ⟨t_REGISTERS, m_REGISTERS⟩ := T.m_REGISTERS
  have m_int := T.m_int
  obtain ⟨g_Machine, c_Machine⟩ := T.m_Machine
  have n_heads := T.n_Machine_heads
  have n_tails := T.n_Machine_tails
  have n_sizes := T.n_Machine_sizes
  have n_at := T.n_Machine_at
  have n_registers := T.n_Machine_registers
  have n_plan := T.n_Machine_plan
  refine F.ok sc_fits_programs (fun vs H Q E h => ?_) (fun cdv A outer s H vs Q E hr h => ?_)
  · obtain ⟨k, v, d, i, n, rfl, _⟩ := h
    rfl
  · obtain ⟨k, v, d, i, n, rfl, hv, q⟩ := h
    refine ⟨_, (pss_cons (ps_if (pt_cmpR op_eq (pv 0) pe_str (nomark _)) (pss_one (ps_ret (pe_callB (call_isi : CallR _ _ (rIsi K)) (by rfl) m_isinstance (by decide +kernel) (pa_cons (pv 1) (pa_cons (pe_bltn (v := .ty "str") (by rfl) m_str (by decide +kernel) rfl) pa_nil))))) pss_nil)
      (pss_cons (ps_if (PW.pt (pw_or (pt_not (pt_val (pe_callB (call_isi : CallR _ _ (rIsi K)) (by rfl) m_isinstance (by decide +kernel) (pa_cons (pv 1) (pa_cons (pe_bltn (v := .ty "int") (by rfl) m_int (by decide +kernel) rfl) pa_nil))))) (pw_or1 (pt_val (pe_callB (call_isi : CallR _ _ (rIsi K)) (by rfl) m_isinstance (by decide +kernel) (pa_cons (pv 1) (pa_cons (pe_bltn (v := .ty "bool") (by rfl) m_bool (by decide +kernel) rfl) pa_nil))))))) (pss_one (ps_ret pe_bl)) pss_nil)
      (pss_cons (ps_if (pt_cmpR op_eq (pv 0) pe_str (nomark _)) (pss_one (ps_ret (pe_chain op_le op_lt pe_int (pv 1) (pe_glob (v := .int 20) (by rfl) m_REGISTERS ⟨_, rfl⟩)))) pss_nil)
      (pss_one (ps_ret (pe_chain op_le op_le pe_int (pe_op op_add (pv 2) (pv 1)) (pv 3))))))), ?_⟩
    refine ⟨_, rfl, rfl, _, rfl, ?_⟩
    rw [one_is 116 (by decide +kernel : Str.ofString "t" = stS [116])]
    refine ite2 (fun c => ?_) (fun c => ?_)
    · have c' := of_decide_eq_true c
      refine ⟨_, rfl, _, _, _, _, _, rfl, .ty _, hv.ty, kS d, ?_⟩
      unfold fitsD at q
      rw [if_pos c'] at q
      exact q
    have c' : ¬ k = 116 := fun z => c (decide_eq_true z)
    unfold fitsD at q
    rw [if_neg c'] at q
    refine ⟨_, rfl, _, _, _, _, _, rfl, .ty _, hv.ty, kI d, _, rfl, ?_⟩
    have no : ∀ {A B : Prop}, isI d = false → A → if (!isI d) = true then A else B := fun h a => by
      rw [h]
      exact iteT a
    cases hv with
    | int m =>
      refine iteF ?_
      refine ⟨_, rfl, _, _, _, _, _, rfl, .ty _, .base (.int m), (kit_ty (b := "bool") (r := false) (by decide +kernel)), _, rfl, iteF ?_⟩
      refine ⟨_, rfl, rfl, _, rfl, ?_⟩
      rw [one_is 114 (by decide +kernel : Str.ofString "r" = stS [114])]
      dsimp only at q
      refine ite2 (fun c2 => ?_) (fun c2 => ?_)
      · rw [if_pos (of_decide_eq_true c2)] at q
        refine ⟨_, rfl, _, _, rfl, rfl, _, rfl, ?_⟩
        refine ite2 (fun c3 => ?_) (fun c3 => ?_)
        · have c3' : (0 : Int) ≤ m := of_decide_eq_true c3
          rw [decide_eq_true c3', Bool.true_and] at q
          exact ⟨_, _, rfl, rfl, q⟩
        · have c3' : ¬ (0 : Int) ≤ m := fun z => c3 (decide_eq_true z)
          rw [decide_eq_false c3', Bool.false_and] at q
          exact q
      · rw [if_neg fun z => c2 (decide_eq_true z)] at q
        refine ⟨_, rfl, _, rfl, _, _, rfl, rfl, _, _, rfl, rfl, _, rfl, ?_⟩
        refine ite2 (fun c3 => ?_) (fun c3 => ?_)
        · have c3' : (0 : Int) ≤ i + m := of_decide_eq_true c3
          rw [decide_eq_true c3', Bool.true_and] at q
          exact ⟨_, rfl, _, _, rfl, rfl, q⟩
        · have c3' : ¬ (0 : Int) ≤ i + m := fun z => c3 (decide_eq_true z)
          rw [decide_eq_false c3', Bool.false_and] at q
          exact q
    | bl b =>
      refine iteF ?_
      refine ⟨_, rfl, _, _, _, _, _, rfl, .ty _, .base (.bl b), (kit_ty (b := "bool") (r := true) (by decide +kernel)), _, rfl, iteT q⟩
    | non => exact iteT (iteT q)
    | str x _ => exact iteT (iteT q)
    | lst h _ _ => exact iteT (iteT q)
    | tup h _ _ => exact iteT (iteT q)
abbrev s_has_shape : Stmt := topS 21
abbrev nm_has_shape : List Str := ["value", "index", "count", "word", "shape", "kind", "part"]
theorem sc_has_shape : FnScope nm_has_shape ["value", "index", "count"] (defScope s_has_shape) := ⟨rfl, rfl, rfl, by decide +kernel, rfl, by decide +kernel, by decide +kernel⟩
def sp_has_shape (K : PySem.W.Frag) (cl : Cn → Addr) : Sp := fun vs H Q _ => ∃ (v : V) (d : PyData) (i n : Int), vs = [v, .int i, .int n] ∧ Vd H v d ∧ ∀ H', Same H H' → Q (.bl (rowD d i n)) H'
theorem ok_has_shape (T : Txt K mg cl w) (H_fits_programs : Has P w K mg base CX0 1 "fits_programs" ["kind", "part", "index", "count"] (sp_fits_programs K cl)) {f : Addr} {fd : FuncData} (F : Fun K "_has_shape" "_has_shape" s_has_shape f fd) : FnOk P w K mg base CX0 2 f fd ["value", "index", "count"] (sp_has_shape K cl) := by
  obtain ⟨m_SHAPES, L_SHAPES⟩ := T.m_SHAPES
  obtain ⟨es_SHAPES, n_SHAPES, D_SHAPES⟩ := L_SHAPES.kd
  have m_all := T.m_all
  have m_len := T.m_len
  have m_isinstance := T.m_isinstance
  have m_tuple := T.m_tuple
  have m_str := T.m_str
  have m_zip := T.m_zip
  obtain ⟨g_Machine, c_Machine⟩ := T.m_Machine
  have n_heads := T.n_Machine_heads
  have n_tails := T.n_Machine_tails
  have n_sizes := T.n_Machine_sizes
  have n_at := T.n_Machine_at
  have n_registers := T.n_Machine_registers
  have n_plan := T.n_Machine_plan
  obtain ⟨f_fits_programs, d_fits_programs, G_fits_programs, g_fits_programs, k_fits_programs, b_fits_programs⟩ := H_fits_programs.ex
  refine F.ok sc_has_shape (fun vs H Q E h => ?_) (fun cdv A outer s H vs Q E hr h => ?_)
  · obtain ⟨v, d, i, n, rfl, _⟩ := h
    rfl
  · obtain ⟨v, d, i, n, rfl, hv, q⟩ := h
    refine ⟨_, (pss_cons (ps_if (PW.pt (pw_or (pt_not (pt_val (pe_callB (call_isi : CallR _ _ (rIsi K)) (by rfl) m_isinstance (by decide +kernel) (pa_cons (pv 0) (pa_cons (pe_bltn (v := .ty "tuple") (by rfl) m_tuple (by decide +kernel) rfl) pa_nil))))) (pw_or1 (pt_cmpR op_eq (pe_callB (call_lenS : CallR _ _ (rLenS K)) (by rfl) m_len (by decide +kernel) (pa_cons (pv 0) pa_nil)) pe_int (nomark _))))) (pss_one (ps_ret pe_bl)) pss_nil)
      (pss_cons (ps_set (i := 3) sc_has_shape.nd rfl (Or.inl rfl) (pe_ix (ix_tup : IxR _ (rIxT K)) (pv 0) pe_int (fun _ _ => rfl)))
      (pss_cons (ps_if (PW.pt (pw_or (pt_not (pt_val (pe_callB (call_isi : CallR _ _ (rIsi K)) (by rfl) m_isinstance (by decide +kernel) (pa_cons (pv 3) (pa_cons (pe_bltn (v := .ty "str") (by rfl) m_str (by decide +kernel) rfl) pa_nil))))) (pw_or1 (pt_cmpR (op_notIn_kd D_SHAPES) (pv 3) (pe_glob (v := .ref (cl .SHAPES)) (by rfl) m_SHAPES rfl) (by rfl))))) (pss_one (ps_ret pe_bl)) pss_nil)
      (pss_cons (ps_set (i := 4) sc_has_shape.nd rfl (Or.inl rfl) (pe_ix ix_kdict (pe_glob (v := .ref (cl .SHAPES)) (by rfl) m_SHAPES rfl) (pv 3) (fun _ _ => rfl)))
      (pss_cons (ps_if (pt_cmpR op_ne (pe_callB (call_lenS : CallR _ _ (rLenS K)) (by rfl) m_len (by decide +kernel) (pa_cons (pv 0) pa_nil)) (pe_op op_add pe_int (pe_callB call_len_str (by rfl) m_len (by decide +kernel) (pa_cons (pv 4) pa_nil))) (nomark _)) (pss_one (ps_ret pe_bl)) pss_nil)
      (pss_one (ps_ret (pe_callB (cr_all rfl) (by rfl) m_all (by decide +kernel) (pa_cons (pe_lc (own := [("kind", 5), ("part", 6)]) (g := gTup K 2 (gCons (gName 5) (gCons (gName 6) gNil))) (tt := tYes) rfl sc_has_shape.nd (pi_zipS (by rfl) m_zip (pa_cons (pv 4) (pa_cons (pe_slice (sl_tupA : SlR _ (rSlA K)) (pv 0) (po_some pe_int) po_none) pa_nil))) (blkOk_by (N := nm_has_shape) (sc := defScope s_has_shape) (by decide +kernel)) (fun _ _ _ _ _ => (pg_tup rfl (pgs_cons (pg_name (i := 5) sc_has_shape.nd rfl (Or.inl rfl)) (pgs_cons (pg_name (i := 6) sc_has_shape.nd rfl (Or.inl rfl)) pgs_nil)))) (fun _ _ _ _ _ => pts_nil) (fun _ _ _ _ _ => (pe_call G_fits_programs (hr.mono (by decide)) (by rfl) g_fits_programs k_fits_programs b_fits_programs .nil pass0 (pa_cons (pv 5) (pa_cons (pv 6) (pa_cons (pv 1) (pa_cons (pv 2) pa_nil))))))) pa_nil))))))))), ?_⟩
    refine ⟨_, rfl, _, _, _, _, _, rfl, .ty _, hv.ty, kT d, _, rfl, notI (fun c => ?_) (fun c => ?_)⟩
    · have e : rowD d i n = false := by
        cases d with
        | tuple ds => cases c
        | _ => rfl
      rw [e] at q
      exact iteT (q H (.refl _))
    cases hv with
    | non => cases c
    | bl b => cases c
    | int m => cases c
    | str x _ => cases c
    | lst h _ _ => cases c
    | @tup a xs ds ha hl r =>
      have hn := r.len
      refine ⟨_, rfl, _, _, rfl, .inr (.inl (Rd.of ha)), rfl, _, rfl, ?_⟩
      cases r with
      | nil => exact iteT (q H (.refl _))
      | @cons v0 vs d0 ps h0 r =>
      have hn2 := r.len
      refine iteNo (fun z => ?_) ?_
      · have z1 := V.int.inj z
        rw [List.length_cons] at z1
        omega
      refine ⟨_, rfl, _, _, _, _, rfl, rfl, SqT.of ha, atI_nat (j := 0) rfl, ?_⟩
      refine ⟨_, rfl, _, _, _, _, _, rfl, .ty _, h0.ty, kS d0, _, rfl, notI (fun c => ?_) (fun c => ?_)⟩
      · have e : rowD (.tuple (d0 :: ps)) i n = false := by
          cases d0 with
          | str w => cases c
          | _ => rfl
        rw [e] at q
        exact iteT (q H (.refl _))
      cases h0 with
      | non => cases c
      | bl b => cases c
      | int m => cases c
      | lst h _ _ => cases c
      | tup h _ _ => cases c
      | str w hw =>
      rcases L_SHAPES.get w with ⟨sh, t, e1, e2⟩ | ⟨e1, e2⟩
      · refine ⟨_, rfl, w, _, rfl, rfl, e2, _, rfl, iteF ?_⟩
        refine ⟨_, rfl, _, _, _, rfl, rfl, L_SHAPES.dct e1, ?_⟩
        have e1' : shapes.lookup w = some sh := e1
        obtain ⟨l2, l3⟩ := shapes_len e1'
        have sz : sizeLine = 16777216 := rfl
        refine ⟨_, rfl, _, _, rfl, .inr (.inl (Rd.of ha)), _, rfl, _, rfl, (by omega), _, _, rfl, rfl, rfl, _, rfl, ?_⟩
        have er : rowD (.tuple (.str w :: ps)) i n = (decide (ps.length = sh.length) && (sh.cps.toList.zip ps).all fun q => fitsD q.1 q.2 i n) := by
          show (match shapes.lookup w with | some sh => _ | none => false) = _
          rw [e1']
        rw [er] at q
        refine ite2 (fun c => ?_) (fun c => ?_)
        · have c' : ¬ ps.length = sh.length := fun z => by
            rw [Bool.not_eq_true', decide_eq_false_iff_not] at c
            refine c ?_
            show V.int _ = V.int _
            congr 1
            rw [List.length_cons]
            omega
          rw [decide_eq_false c', Bool.false_and] at q
          exact q H (.refl _)
        have c' : ps.length = sh.length := by
          have : V.int ((V.str w :: vs).length : Nat) = V.int (1 + (sh.length : Nat)) := by
            refine Classical.byContradiction fun z => c ?_
            rw [decide_eq_false z]
            rfl
          have := V.int.inj this
          rw [List.length_cons] at this
          omega
        rw [decide_eq_true c', Bool.true_and] at q
        have hm : sh.cps.toList.length = vs.length := by
          have : sh.cps.toList.length = sh.length := Array.length_toList
          omega
        have hv2 : (V.str w :: vs).length = vs.length + 1 := rfl
        refine ⟨_, rfl, _, rfl, 1, rfl, a, _, rfl, SqT.of ha, fun hw => ?_, fun hw T nT => ?_⟩
        · exfalso
          have h1 := hw.1
          rw [show HT.sIx (V.str w :: vs).length 0 (some (1 : Int)) = min 1 (V.str w :: vs).length from HT.sIx_nat _ _ 1] at h1
          omega
        have hcut : cutV (V.str w :: vs) (some 1) none = vs := by
          show ((V.str w :: vs).drop (HT.sIx (V.str w :: vs).length 0 (some (1 : Int)))).take ((V.str w :: vs).length - HT.sIx (V.str w :: vs).length 0 (some (1 : Int))) = _
          rw [show HT.sIx (V.str w :: vs).length 0 (some (1 : Int)) = min 1 (V.str w :: vs).length from HT.sIx_nat _ _ 1]
          rw [show min 1 (V.str w :: vs).length = 1 by omega, hv2]
          exact List.take_of_length_le (Nat.le_refl _)
        rw [hcut]
        have smT := Same.upd (o := .tup vs) nT
        obtain ⟨bs, hbs⟩ : ∃ bs : List Bool, bs = (sh.cps.toList.zip ps).map fun q => fitsD q.1 q.2 i n := ⟨_, rfl⟩
        have hbl : bs.length = vs.length := by
          rw [hbs, List.length_map, List.length_zip]
          omega
        have hall : bs.all id = (sh.cps.toList.zip ps).all fun q => fitsD q.1 q.2 i n := by
          rw [hbs, List.all_map]
          rfl
        rw [← hall] at q
        refine ⟨sh, T, vs, rfl, SqT.of upd_same, fun D nD => lc_zipS hm (fun j H' => Same (upd H T (.tup vs)) H' ∧ H' D = some (.lst ((bs.take j).map V.bl))) ⟨Same.upd nD, upd_same⟩ (fun j H' s => SqT.of (s.1 _ _ upd_same)) ?_ ?_⟩
        · rintro j c y T2 H2 hc hy ⟨s2, hD⟩ nT2
          obtain ⟨d, hd, hvd⟩ := r.get' hy
          have hb : bs[j]? = some (fitsD c d i n) := by
            have hj1 := (List.getElem?_eq_some_iff.mp hc)
            have hj2 := (List.getElem?_eq_some_iff.mp hd)
            rw [hbs, List.getElem?_map, show (sh.cps.toList.zip ps)[j]? = some (c, d) from List.getElem?_zip_eq_some.mpr ⟨hc, hd⟩]
            rfl
          refine ⟨T2, [.str ⟨#[c]⟩, y], rfl, SqT.of upd_same, rfl, _, _, rfl, _, _, rfl, rfl, ?_⟩
          have s3 := s2.trans (Same.upd (o := .tup [.str ⟨#[c]⟩, y]) nT2)
          refine ⟨rfl, ?_⟩
          simp only [tYes, ↓reduceIte]
          refine ⟨_, rfl, _, rfl, _, rfl, _, rfl, ?_⟩
          refine ⟨c, y, d, i, n, rfl, (hvd.same smT).same s3, ?_⟩
          refine ⟨_, Same.upd nT2 _ _ hD, ?_, ?_⟩
          · rw [List.length_map, List.length_take]
            omega
          · refine ⟨fun b x z => ?_, ?_⟩
            · rw [upd_ne (ne_of_none z nD)]
              exact (s2.trans (Same.upd nT2)) b x z
            · rw [upd_same, List.take_add_one, hb, List.map_append]
              rfl
        · rintro H2 ⟨s2, hD⟩
          rw [List.take_of_length_le (by omega)] at hD
          exact ⟨D, bs, rfl, SqL.of hD, q H2 (smT.trans s2)⟩
      · have e : rowD (.tuple (.str w :: ps)) i n = false := by
          show (match shapes.lookup w with | some sh => _ | none => false) = false
          rw [show shapes.lookup w = none from e1]
        rw [e] at q
        exact ⟨_, rfl, w, _, rfl, rfl, e2, _, rfl, iteT (q H (.refl _))⟩
abbrev s_end_of : Stmt := topS 9
abbrev nm_end_of : List Str := ["signs", "start", "at", "wanted", "pairs"]
theorem sc_end_of : FnScope nm_end_of ["signs", "start"] (defScope s_end_of) := ⟨rfl, rfl, rfl, by decide +kernel, rfl, by decide +kernel, by decide +kernel⟩
def sp_end_of (K : PySem.W.Frag) (cl : Cn → Addr) : Sp := fun vs H Q _ => ∃ (x : Str) (i : Nat), vs = [.str x, .int i] ∧ Q (.int ((i + fin 1 (x.cps.toList.drop i) : Nat) : Int)) H
theorem ok_end_of (T : Txt K mg cl w) {f : Addr} {fd : FuncData} (F : Fun K "end_of" "end_of" s_end_of f fd) : FnOk P w K mg base CX0 1 f fd ["signs", "start"] (sp_end_of K cl) := by
  obtain ⟨g_Machine, c_Machine⟩ := T.m_Machine
  have n_heads := T.n_Machine_heads
  have n_tails := T.n_Machine_tails
  have n_sizes := T.n_Machine_sizes
  have n_at := T.n_Machine_at
  have n_registers := T.n_Machine_registers
  have n_plan := T.n_Machine_plan
  refine F.ok sc_end_of (fun vs H Q E h => ?_) (fun cdv A outer s H vs Q E hr h => ?_)
  · obtain ⟨x, i, rfl, _⟩ := h
    rfl
  · obtain ⟨x, i, rfl, q⟩ := h
    refine ⟨_, (pss_cons (ps_set (i := 2) sc_end_of.nd rfl (Or.inl rfl) (pv 1))
      (pss_cons (ps_set (i := 3) sc_end_of.nd rfl (Or.inl rfl) pe_int)
      (pss_cons (ps_while PassesOwn.never (pt_cmpR op_gt (pv 3) pe_int (nomark _)) (pss_cons (ps_set (i := 4) sc_end_of.nd rfl (Or.inl rfl) (pe_bm PySem.F.plainAttrs_str PySem.F.slot_str_count PySem.F.type_str_count mt_count4 (pv 0) (pa_cons pe_str (pa_cons (pv 2) (pa_cons (pe_op op_add (pv 2) (pv 3)) pa_nil)))))
      (pss_cons (ps_set (i := 2) sc_end_of.nd rfl (Or.inl rfl) (pe_op op_add (pv 2) (pv 3)))
      (pss_one (ps_set (i := 3) sc_end_of.nd rfl (Or.inl rfl) (pe_op op_mul pe_int (pv 4)))))))
      (pss_one (ps_ret (pv 2)))))), ?_⟩
    refine ⟨_, rfl, ?_⟩
    refine ⟨fun m σ H' => ∃ (at' wa : Nat) (v4 : Option V), σ = [some (.str x), some (.int i), some (.int at'), some (.int wa), v4] ∧ H = H' ∧ at' + fin wa (x.cps.toList.drop at') = i + fin 1 (x.cps.toList.drop i) ∧ m = (x.length - at') + (if wa = 0 then 0 else 1), ⟨_, i, 1, none, rfl, rfl, rfl, rfl⟩, ?_⟩
    rintro m σ H' ⟨at', wa, v4, rfl, rfl, e1, rfl⟩
    refine ⟨_, rfl, _, _, rfl, rfl, _, rfl, ?_⟩
    by_cases hw : wa = 0
    · subst hw
      rw [decide_eq_false (by omega)]
      refine iteF ?_
      refine ⟨_, rfl, ?_⟩
      rw [fin_zero, Nat.add_zero] at e1
      rw [e1]
      exact q
    · rw [decide_eq_true (by omega)]
      refine iteT ?_
      refine ⟨fun σ' H' => ∃ m', m' < (x.length - at') + (if wa = 0 then 0 else 1) ∧ ∃ (a2 w2 : Nat) (v4 : Option V), σ' = [some (.str x), some (.int i), some (.int a2), some (.int w2), v4] ∧ H = H' ∧ a2 + fin w2 (x.cps.toList.drop a2) = i + fin 1 (x.cps.toList.drop i) ∧ m' = (x.length - a2) + (if w2 = 0 then 0 else 1), fun σ' H' h => h, ?_⟩
      refine ⟨_, rfl, rfl, _, rfl, _, rfl, _, rfl, _, _, rfl, rfl, _, _, _, _, rfl, rfl, ?_⟩
      refine ⟨_, rfl, _, rfl, _, _, rfl, rfl, ?_⟩
      refine ⟨_, rfl, _, _, rfl, rfl, .inl (by decide), ?_⟩
      have hc : Txt.countIn x (Str.ofString "1") (at' : Int) ((at' : Int) + (wa : Int)) = (((x.cps.toList.drop at').take wa).count 49 : Nat) := by
        have h := count_in x 49 at' (at' + wa) (by omega)
        rw [Nat.add_sub_cancel_left] at h
        rw [show (Str.ofString "1") = (⟨#[49]⟩ : Str) by decide +kernel]
        exact h
      rw [hc]
      refine ⟨_, ?_, at' + wa, 2 * ((x.cps.toList.drop at').take wa).count 49, some (.int (((x.cps.toList.drop at').take wa).count 49 : Nat)), rfl, rfl, ?_, rfl⟩
      · have hl : x.cps.toList.length = x.length := Array.length_toList
        by_cases ha : at' < x.length
        · split <;> omega
        · rw [show x.cps.toList.drop at' = [] from List.drop_eq_nil_of_le (by omega), List.take_nil, List.count_nil, if_neg hw, if_pos (by omega)]
          omega
      · rw [← e1]
        have := fin_app ((x.cps.toList.drop at').take wa) ((x.cps.toList.drop at').drop wa) wa (by rw [List.length_take]; omega)
        rw [List.take_append_drop] at this
        rw [this, List.drop_drop]
        by_cases hl : wa ≤ (x.cps.toList.drop at').length
        · rw [List.length_take, Nat.min_eq_left hl, Nat.sub_self, Nat.zero_add]
          omega
        · rw [List.length_take, Nat.min_eq_right (by omega), show x.cps.toList.drop (at' + wa) = [] from List.drop_eq_nil_of_le (by rw [List.length_drop] at hl; omega), fin_nil, fin_nil]
          omega
abbrev s_is_tree : Stmt := topS 8
abbrev nm_is_tree : List Str := ["value"]
theorem sc_is_tree : FnScope nm_is_tree ["value"] (defScope s_is_tree) := ⟨rfl, rfl, rfl, by decide +kernel, rfl, by decide +kernel, by decide +kernel⟩
def sp_is_tree (K : PySem.W.Frag) (cl : Cn → Addr) : Sp := fun vs H Q _ => ∃ x, vs = [x] ∧ StrOr K H x ∧ Q (.bl (treeV x)) H
theorem ok_is_tree (T : Txt K mg cl w) (H_end_of : Has P w K mg base CX0 1 "end_of" ["signs", "start"] (sp_end_of K cl)) {f : Addr} {fd : FuncData} (F : Fun K "is_tree" "is_tree" s_is_tree f fd) : FnOk P w K mg base CX0 2 f fd ["value"] (sp_is_tree K cl) := by
  obtain ⟨t_MOST_TREE, m_MOST_TREE⟩ := T.m_MOST_TREE
  have m_len := T.m_len
  have m_isinstance := T.m_isinstance
  have m_str := T.m_str
  obtain ⟨g_Machine, c_Machine⟩ := T.m_Machine
  have n_heads := T.n_Machine_heads
  have n_tails := T.n_Machine_tails
  have n_sizes := T.n_Machine_sizes
  have n_at := T.n_Machine_at
  have n_registers := T.n_Machine_registers
  have n_plan := T.n_Machine_plan
  obtain ⟨f_end_of, d_end_of, G_end_of, g_end_of, k_end_of, b_end_of⟩ := H_end_of.ex
  refine F.ok sc_is_tree (fun vs H Q E h => ?_) (fun cdv A outer s H vs Q E hr h => ?_)
  · obtain ⟨x, rfl, _⟩ := h
    rfl
  · obtain ⟨x, rfl, ty, q⟩ := h
    refine ⟨_, (pss_cons (ps_if (PW.pt (pw_or (pt_not (pt_val (pe_callB (call_isi : CallR _ _ (rIsi K)) (by rfl) m_isinstance (by decide +kernel) (pa_cons (pv 0) (pa_cons (pe_bltn (v := .ty "str") (by rfl) m_str (by decide +kernel) rfl) pa_nil))))) (pw_or1 (pt_cmpR op_gt (pe_callB call_len_str (by rfl) m_len (by decide +kernel) (pa_cons (pv 0) pa_nil)) (pe_glob (v := .int 200000) (by rfl) m_MOST_TREE ⟨_, rfl⟩) (nomark _))))) (pss_one (ps_ret pe_bl)) pss_nil)
      (pss_cons (ps_if (pt_cmpR op_ne (pe_op op_add (pe_bm PySem.F.plainAttrs_str PySem.F.slot_str_count PySem.F.type_str_count mt_count (pv 0) (pa_cons pe_str pa_nil)) (pe_bm PySem.F.plainAttrs_str PySem.F.slot_str_count PySem.F.type_str_count mt_count (pv 0) (pa_cons pe_str pa_nil))) (pe_callB call_len_str (by rfl) m_len (by decide +kernel) (pa_cons (pv 0) pa_nil)) (nomark _)) (pss_one (ps_ret pe_bl)) pss_nil)
      (pss_one (ps_ret (pe_cmpR op_eq (pe_call G_end_of (hr.mono (by decide)) (by rfl) g_end_of k_end_of b_end_of .nil pass0 (pa_cons (pv 0) (pa_cons pe_int pa_nil))) (pe_callB call_len_str (by rfl) m_len (by decide +kernel) (pa_cons (pv 0) pa_nil)) (nomark _)))))), ?_⟩
    rcases ty with ⟨s, rfl, hs⟩ | ⟨t, ty, kt, hn⟩
    · refine ⟨_, rfl, _, _, _, _, true, rfl, .ty _, .base (.str s), (kit_ty (by decide +kernel)), _, rfl, ?_⟩
      refine iteF ⟨_, rfl, _, rfl, hs, _, _, rfl, rfl, _, rfl, ?_⟩
      have e0 : treeV (.str s) = (decide (s.length ≤ 200000) && isT s.cps.toList) := rfl
      refine ite2 (fun c => ?_) (fun c => ?_)
      · have c' : ¬ s.length ≤ 200000 := by
          have := of_decide_eq_true c
          omega
        rw [e0, decide_eq_false c'] at q
        exact q
      · have c' : s.length ≤ 200000 := by
          have : ¬ (200000 : Int) < (s.length : Int) := fun z => c (decide_eq_true z)
          omega
        rw [e0, decide_eq_true c', Bool.true_and] at q
        refine ⟨_, rfl, rfl, _, _, rfl, rfl, _, rfl, rfl, _, _, rfl, rfl, _, _, rfl, rfl, _, rfl, _, rfl, hs, rfl, _, rfl, ?_⟩
        rw [show (Str.ofString "0") = (⟨#[48]⟩ : Str) by decide +kernel, show (Str.ofString "1") = (⟨#[49]⟩ : Str) by decide +kernel, count_one, count_one]
        have hl : s.cps.toList.length = s.length := Array.length_toList
        have key := count_01 s.cps.toList
        refine ite2 (fun c2 => ?_) (fun c2 => ?_)
        · have h2 : ¬ s.cps.toList.count 48 + s.cps.toList.count 49 = s.cps.toList.length := fun z => by
            rw [Bool.not_eq_true', decide_eq_false_iff_not] at c2
            refine c2 ?_
            show V.int _ = V.int _
            congr 1
            omega
          have h3 : isT s.cps.toList = false := by
            cases e : isT s.cps.toList with
            | false => rfl
            | true => exact absurd (key.mpr ((isT_iff _).mpr ((isT_true _).mp e)).1) h2
          rw [h3] at q
          exact q
        · refine ⟨_, rfl, s, 0, rfl, _, rfl, _, rfl, hs, rfl, ?_⟩
          have h2 : s.cps.toList.count 48 + s.cps.toList.count 49 = s.cps.toList.length := by
            have : V.int ((s.cps.toList.count 48 : Nat) + (s.cps.toList.count 49 : Nat)) = V.int (s.length : Nat) := by
              refine Classical.byContradiction fun z => c2 ?_
              show (!decide (V.int ((s.cps.toList.count 48 : Nat) + (s.cps.toList.count 49 : Nat)) = V.int (s.length : Nat))) = true
              rw [decide_eq_false z]
              rfl
            have := V.int.inj this
            omega
          have h3 := key.mp h2
          have e1 : decide (V.int ((0 + fin 1 (s.cps.toList.drop 0) : Nat) : Int) = V.int (s.length : Nat)) = isT s.cps.toList := by
            unfold isT
            rw [(all01_iff _).mpr h3, Bool.true_and, Nat.zero_add, List.drop_zero, Bool.eq_iff_iff, decide_eq_true_eq, beq_iff_eq]
            constructor
            · intro z
              have := V.int.inj z
              omega
            · intro z
              rw [z, hl]
          show Q (V.bl (decide (V.int ((0 + fin 1 (s.cps.toList.drop 0) : Nat) : Int) = V.int (s.length : Nat)))) H
          rw [e1]
          exact q
    · refine ⟨_, rfl, _, _, _, _, false, rfl, .ty _, ty, kt, _, rfl, ?_⟩
      rw [treeV_no hn] at q
      exact iteT (iteT q)
abbrev s_is_program : Stmt := topS 19
abbrev nm_is_program : List Str := ["value", "index", "instruction", "trees", "tree"]
theorem sc_is_program : FnScope nm_is_program ["value"] (defScope s_is_program) := ⟨rfl, rfl, rfl, by decide +kernel, rfl, by decide +kernel, by decide +kernel⟩
def sp_is_program (K : PySem.W.Frag) (cl : Cn → Addr) : Sp := fun vs H Q _ => ∃ (v : V) (d : PyData), vs = [v] ∧ Vd H v d ∧ ∀ H', Same H H' → Q (.bl (progOk d)) H'
theorem ok_is_program (T : Txt K mg cl w) (H_trees_of : Has P w K mg base CX0 1 "trees_of" ["program"] (sp_trees_of K cl)) (H_has_shape : Has P w K mg base CX0 2 "_has_shape" ["value", "index", "count"] (sp_has_shape K cl)) (H_is_tree : Has P w K mg base CX0 2 "is_tree" ["value"] (sp_is_tree K cl)) {f : Addr} {fd : FuncData} (F : Fun K "is_program" "is_program" s_is_program f fd) : FnOk P w K mg base CX0 3 f fd ["value"] (sp_is_program K cl) := by
  have m_enumerate := T.m_enumerate
  obtain ⟨t_MOST_TREE, m_MOST_TREE⟩ := T.m_MOST_TREE
  have m_all := T.m_all
  obtain ⟨t_MOST_CODE, m_MOST_CODE⟩ := T.m_MOST_CODE
  have m_sum := T.m_sum
  have m_isinstance := T.m_isinstance
  have m_list := T.m_list
  have m_len := T.m_len
  obtain ⟨g_Machine, c_Machine⟩ := T.m_Machine
  have n_heads := T.n_Machine_heads
  have n_tails := T.n_Machine_tails
  have n_sizes := T.n_Machine_sizes
  have n_at := T.n_Machine_at
  have n_registers := T.n_Machine_registers
  have n_plan := T.n_Machine_plan
  obtain ⟨f_trees_of, d_trees_of, G_trees_of, g_trees_of, k_trees_of, b_trees_of⟩ := H_trees_of.ex
  obtain ⟨f_has_shape, d_has_shape, G_has_shape, g_has_shape, k_has_shape, b_has_shape⟩ := H_has_shape.ex
  obtain ⟨f_is_tree, d_is_tree, G_is_tree, g_is_tree, k_is_tree, b_is_tree⟩ := H_is_tree.ex
  refine F.ok sc_is_program (fun vs H Q E h => ?_) (fun cdv A outer s H vs Q E hr h => ?_)
  · obtain ⟨v, d, rfl, _⟩ := h
    rfl
  · obtain ⟨v, d, rfl, hv, q⟩ := h
    refine ⟨_, (pss_cons (ps_if (PW.pt (pw_or (pt_not (pt_val (pe_callB (call_isi : CallR _ _ (rIsi K)) (by rfl) m_isinstance (by decide +kernel) (pa_cons (pv 0) (pa_cons (pe_bltn (v := .ty "list") (by rfl) m_list (by decide +kernel) rfl) pa_nil))))) (pw_or1 (pt_cmpR op_gt (pe_callB (call_lenS : CallR _ _ (rLenS K)) (by rfl) m_len (by decide +kernel) (pa_cons (pv 0) pa_nil)) (pe_glob (v := .int 600) (by rfl) m_MOST_CODE ⟨_, rfl⟩) (nomark _))))) (pss_one (ps_ret pe_bl)) pss_nil)
      (pss_cons (ps_for PassesOwn.never rfl (pi_enum (by rfl) m_enumerate (pa_cons (pv 0) pa_nil)) (pg_tup rfl (pgs_cons (pg_name (i := 1) sc_is_program.nd rfl (Or.inl rfl)) (pgs_cons (pg_name (i := 2) sc_is_program.nd rfl (Or.inl rfl)) pgs_nil))) (pss_one (ps_if (pt_not (pt_val (pe_call G_has_shape (hr.mono (by decide)) (by rfl) g_has_shape k_has_shape b_has_shape .nil pass0 (pa_cons (pv 2) (pa_cons (pv 1) (pa_cons (pe_callB (call_lenS : CallR _ _ (rLenS K)) (by rfl) m_len (by decide +kernel) (pa_cons (pv 0) pa_nil)) pa_nil)))))) (pss_one (ps_ret pe_bl)) pss_nil)))
      (pss_cons (ps_set (i := 3) sc_is_program.nd rfl (Or.inl rfl) (pe_call G_trees_of (hr.mono (by decide)) (by rfl) g_trees_of k_trees_of b_trees_of .nil pass0 (pa_cons (pv 0) pa_nil)))
      (pss_cons (ps_if (pt_cmpR op_gt (pe_callB (cr_sum rfl) (by rfl) m_sum (by decide +kernel) (pa_cons (pe_lc (own := [("tree", 4)]) (g := gName 4) (tt := tYes) rfl sc_is_program.nd (pi_list (pv 3)) (blkOk_by (N := nm_is_program) (sc := defScope s_is_program) (by decide +kernel)) (fun _ _ _ _ _ => (pg_name (i := 4) sc_is_program.nd rfl (Or.inl rfl))) (fun _ _ _ _ _ => pts_nil) (fun _ _ _ _ _ => (pe_callB call_len_str (by rfl) m_len (by decide +kernel) (pa_cons (pv 4) pa_nil)))) pa_nil)) (pe_glob (v := .int 200000) (by rfl) m_MOST_TREE ⟨_, rfl⟩) (nomark _)) (pss_one (ps_ret pe_bl)) pss_nil)
      (pss_one (ps_ret (pe_callB (cr_all rfl) (by rfl) m_all (by decide +kernel) (pa_cons (pe_lc (own := [("tree", 4)]) (g := gName 4) (tt := tYes) rfl sc_is_program.nd (pi_list (pv 3)) (blkOk_by (N := nm_is_program) (sc := defScope s_is_program) (by decide +kernel)) (fun _ _ _ _ _ => (pg_name (i := 4) sc_is_program.nd rfl (Or.inl rfl))) (fun _ _ _ _ _ => pts_nil) (fun _ _ _ _ _ => (pe_call G_is_tree (hr.mono (by decide)) (by rfl) g_is_tree k_is_tree b_is_tree .nil pass0 (pa_cons (pv 4) pa_nil)))) pa_nil)))))))), ?_⟩
    refine ⟨_, rfl, _, _, _, _, _, rfl, .ty _, hv.ty, kL d, _, rfl, notI (fun c => ?_) (fun c => ?_)⟩
    · have e : progOk d = false := by
        cases d with
        | list ds => cases c
        | _ => rfl
      rw [e] at q
      exact iteT (q H (.refl _))
    cases hv with
    | non => cases c
    | bl b => cases c
    | int m => cases c
    | str x _ => cases c
    | tup h _ _ => cases c
    | @lst a xs ds ha hl r =>
    have hn := r.len
    refine ⟨_, rfl, _, _, rfl, .inl (SqL.of ha), _, _, rfl, rfl, _, rfl, ?_⟩
    refine ite2 (fun c => ?_) (fun c => ?_)
    · have c' : ¬ ds.length ≤ 600 := by
        have := of_decide_eq_true c
        omega
      have e : progOk (.list ds) = false := by
        show (decide (ds.length ≤ 600) && _) = false
        rw [decide_eq_false c']
        rfl
      rw [e] at q
      exact q H (.refl _)
    have c' : ds.length ≤ 600 := by
      have : ¬ (600 : Int) < (xs.length : Int) := fun z => c (decide_eq_true z)
      omega
    have e0 : progOk (.list ds) = (rowsD ds.length 0 ds && (decide (((ds.filterMap treeD).map Str.length).sum ≤ 200000) && (ds.filterMap treeD).all fun t => isT t.cps.toList)) := by
      show (decide (ds.length ≤ 600) && _) = _
      rw [decide_eq_true c']
      rfl
    rw [e0] at q
    refine ⟨_, rfl, a, xs, rfl, SqL.of ha, for_it walk_enum (fun j σ H' => ∃ v2 v3, σ = [some (.ref a), v2, v3, none, none] ∧ Same H H' ∧ ∀ (k : Nat) (d : PyData), k < j → ds[k]? = some d → rowD d k ds.length = true) ⟨none, none, rfl, .refl _, fun k d h _ => by omega⟩ (fun j σ H' _ ⟨_, _, _, sm, _⟩ => sm.seq (SqL.of ha)) ?_ ?_⟩
    · rintro j y σ H1 H2 hj ⟨v2, v3, rfl, sm, hk⟩ ⟨T1, x, y, rfl, nT, rfl, hx, hy⟩
      cases hx
      obtain ⟨d, hd, hvd⟩ := r.get' hy
      have s2 := sm.trans (Same.upd (o := .tup [.int (j : Nat), y]) nT)
      refine ⟨T1, [.int (j : Nat), y], rfl, SqT.of upd_same, rfl, _, _, rfl, _, _, rfl, rfl, ?_⟩
      refine ⟨_, rfl, _, rfl, _, rfl, _, _, rfl, .inl (SqL.of (s2 _ _ ha)), ?_⟩
      refine ⟨y, d, j, ds.length, ?_, hvd.same s2, fun H3 s3 => ?_⟩
      · rw [hn]
        rfl
      refine ⟨_, rfl, notI (fun c => ?_) (fun c => ?_)⟩
      · have e : rowsD ds.length 0 ds = false := by
          cases e : rowsD ds.length 0 ds with
          | false => rfl
          | true =>
            have := (rowsD_iff ds.length 0 ds).mp e j d hd
            rw [show (0 : Int) + (j : Nat) = j by omega, c] at this
            cases this
        rw [e, Bool.false_and] at q
        exact q H3 (s2.trans s3)
      · refine ⟨_, _, rfl, s2.trans s3, fun k d' hlt hd' => ?_⟩
        by_cases ck : k = j
        · subst ck
          rw [hd] at hd'
          rw [← Option.some.inj hd']
          exact c
        · exact hk k d' (by omega) hd'
    · rintro σ H1 ⟨v2, v3, rfl, sm, hk⟩
      have e : rowsD ds.length 0 ds = true := (rowsD_iff ds.length 0 ds).mpr fun j d hd => by
        rw [show (0 : Int) + (j : Nat) = j by omega]
        refine hk j d ?_ hd
        have := (List.getElem?_eq_some_iff.mp hd).1
        omega
      rw [e, Bool.true_and] at q
      have form : ∀ (j : Nat) (d : PyData), ds[j]? = some d → _ := fun j d hd => row_form (n := ds.length) (i := (j : Nat)) (by
        refine hk j d ?_ hd
        have := (List.getElem?_eq_some_iff.mp hd).1
        omega)
      refine ⟨_, rfl, a, xs, ds.map treeD, rfl, sm _ _ ha, TrR.vd (r.same sm) (fun j d hd => form j d hd), by rw [List.length_map]; omega, fun D H2 s2 nD hD => ?_⟩
      rw [id_map] at hD
      · have hts : ∀ t ∈ ds.filterMap treeD, t.length ≤ sizeLine := fun t ht => by
          obtain ⟨d, hd, e⟩ := List.mem_filterMap.mp ht
          obtain ⟨j, hj⟩ := List.getElem?_of_mem hd
          obtain ⟨y, _, hvd⟩ := r.get hj
          obtain ⟨w, ps, rfl, hf⟩ := form j d hj
          rcases hf with ⟨_, p0, t2, rfl, h2⟩ | ⟨_, h2⟩
          · rw [h2] at e
            obtain ⟨_, us, _, _, hu, _⟩ := hvd.row
            cases hu with
            | cons _ r1 =>
              cases r1 with
              | cons ht1 _ =>
                cases ht1 with
                | str _ h => 
                  rw [← Option.some.inj e]
                  exact h
          · rw [h2] at e
            cases e
        have hnt : (ds.filterMap treeD).length ≤ 600 := by
          have := List.length_filterMap_le treeD ds
          omega
        clear form hk e e0
        generalize ds.filterMap treeD = ts at *
        have szl : sizeLine = 16777216 := rfl
        refine ⟨_, rfl, D, rfl, ⟨_, SqL.of hD⟩, fun D2 nD2 => lc_map (K := K) (a := D) (xs := ts.map V.str) lenV nD2 (SqL.of hD) (by rw [List.length_map]; omega) (fun _ => rfl) (fun x H3 hx sm3 Q hq => ?_) (fun H3 sm3 hD2 => ?_)⟩
        · obtain ⟨t, ht, rfl⟩ := List.mem_map.mp hx
          exact ⟨_, rfl, _, rfl, hts t ht, hq H3 (.refl _)⟩
        have e1 : (ts.map V.str).map lenV = (ts.map fun t => ((t.length : Nat) : Int)).map V.int := by
          rw [List.map_map, List.map_map]
          rfl
        rw [e1] at hD2
        have e2 : ((ts.map fun t => ((t.length : Nat) : Int)).sum) = (((ts.map Str.length).sum : Nat) : Int) := by
          clear hts hnt hD e1 hD2 q
          induction ts with
          | nil => rfl
          | cons t r ih =>
            rw [List.map_cons, List.sum_cons, List.map_cons, List.sum_cons, ih]
            omega
        refine ⟨D2, _, rfl, SqL.of hD2, _, _, rfl, rfl, _, rfl, ?_⟩
        rw [e2]
        refine ite2 (fun c => ?_) (fun c => ?_)
        · have c1 : ¬ (ts.map Str.length).sum ≤ 200000 := by
            have := of_decide_eq_true c
            omega
          rw [decide_eq_false c1, Bool.false_and] at q
          exact q _ ((sm.trans s2).trans sm3)
        have c1 : (ts.map Str.length).sum ≤ 200000 := by
          have : ¬ (200000 : Int) < (((ts.map Str.length).sum : Nat) : Int) := fun z => c (decide_eq_true z)
          omega
        rw [decide_eq_true c1, Bool.true_and] at q
        have hs : ∀ t ∈ ts, t.length ≤ (ts.map Str.length).sum := by
          clear hts hnt hD e1 hD2 q e2 c c1
          induction ts with
          | nil => intro t h; cases h
          | cons x r ih =>
            intro t h
            rw [List.map_cons, List.sum_cons]
            rcases List.mem_cons.mp h with h | h
            · rw [h]
              omega
            · have := ih t h
              omega
        refine ⟨_, rfl, D, rfl, ⟨_, SqL.of (sm3 _ _ hD)⟩, fun D3 nD3 => lc_map (K := K) (a := D) (xs := ts.map V.str) (fun x => V.bl (treeV x)) nD3 (SqL.of (sm3 _ _ hD)) (by rw [List.length_map]; omega) (fun _ => rfl) (fun x H4 hx sm4 Q hq => ?_) (fun H4 sm4 hD3 => ?_)⟩
        · obtain ⟨t, ht, rfl⟩ := List.mem_map.mp hx
          exact ⟨_, rfl, _, rfl, .inl ⟨t, rfl, hts t ht⟩, hq H4 (.refl _)⟩
        have e3 : (ts.map V.str).map (fun x => V.bl (treeV x)) = (ts.map fun t => isT t.cps.toList).map V.bl := by
          rw [List.map_map, List.map_map]
          refine List.map_congr_left fun t ht => ?_
          have := hs t ht
          show V.bl (decide (t.length ≤ 200000) && isT t.cps.toList) = V.bl (isT t.cps.toList)
          rw [decide_eq_true (by omega), Bool.true_and]
        rw [e3] at hD3
        refine ⟨D3, _, rfl, SqL.of hD3, ?_⟩
        have e4 : (ts.map fun t => isT t.cps.toList).all id = ts.all fun t => isT t.cps.toList := by
          rw [List.all_map]
          rfl
        rw [e4]
        exact q _ (((sm.trans s2).trans sm3).trans sm4)
abbrev s_may_have : Stmt := topS 81
abbrev nm_may_have : List Str := ["kind", "many"]
theorem sc_may_have : FnScope nm_may_have ["kind", "many"] (defScope s_may_have) := ⟨rfl, rfl, rfl, by decide +kernel, rfl, by decide +kernel, by decide +kernel⟩
def mayD (k : Nat) (n : Nat) : Bool := if k = 114 then decide (1 ≤ n) && decide (n ≤ 8) else decide (n ≤ 20)
def sp_may_have (K : PySem.W.Frag) (cl : Cn → Addr) : Sp := fun vs H Q _ => ∃ (k n : Nat), vs = [.str ⟨#[k]⟩, .int n] ∧ Q (.bl (mayD k n)) H
theorem ok_may_have (T : Txt K mg cl w) {f : Addr} {fd : FuncData} (F : Fun K "_may_have" "_may_have" s_may_have f fd) : FnOk P w K mg base CX0 1 f fd ["kind", "many"] (sp_may_have K cl) := by
  obtain ⟨t_MOST_INPUTS, m_MOST_INPUTS⟩ := T.m_MOST_INPUTS
  obtain ⟨t_MOST_RING, m_MOST_RING⟩ := T.m_MOST_RING
  obtain ⟨g_Machine, c_Machine⟩ := T.m_Machine
  have n_heads := T.n_Machine_heads
  have n_tails := T.n_Machine_tails
  have n_sizes := T.n_Machine_sizes
  have n_at := T.n_Machine_at
  have n_registers := T.n_Machine_registers
  have n_plan := T.n_Machine_plan
  refine F.ok sc_may_have (fun vs H Q E h => ?_) (fun cdv A outer s H vs Q E hr h => ?_)
  · obtain ⟨k, n, rfl, _⟩ := h
    rfl
  · obtain ⟨k, n, rfl, q⟩ := h
    refine ⟨_, (pss_cons (ps_if (pt_cmpR op_eq (pv 0) pe_str (nomark _)) (pss_one (ps_ret (pe_chain op_le op_le pe_int (pv 1) (pe_glob (v := .int 8) (by rfl) m_MOST_RING ⟨_, rfl⟩)))) pss_nil)
      (pss_one (ps_ret (pe_cmpR op_le (pv 1) (pe_glob (v := .int 20) (by rfl) m_MOST_INPUTS ⟨_, rfl⟩) (nomark _))))), ?_⟩
    unfold mayD at q
    refine ⟨_, rfl, rfl, _, rfl, ?_⟩
    rw [one_is 114 (by decide +kernel : Str.ofString "r" = stS [114])]
    refine ite2 (fun c => ?_) (fun c => ?_)
    · rw [if_pos (of_decide_eq_true c)] at q
      refine ⟨_, rfl, _, _, rfl, rfl, _, rfl, ?_⟩
      refine ite2 (fun c3 => ?_) (fun c3 => ?_)
      · have c3' : (1 : Int) ≤ n := of_decide_eq_true c3
        rw [decide_eq_true (show 1 ≤ n by omega), Bool.true_and] at q
        refine ⟨_, _, rfl, rfl, ?_⟩
        show Q (V.bl (decide ((n : Int) ≤ 8))) H
        rw [show decide ((n : Int) ≤ 8) = decide (n ≤ 8) by congr 1; exact propext (by omega)]
        exact q
      · have c3' : ¬ (1 : Int) ≤ n := fun z => c3 (decide_eq_true z)
        rw [decide_eq_false (show ¬ 1 ≤ n by omega), Bool.false_and] at q
        exact q
    · rw [if_neg fun z => c (decide_eq_true z)] at q
      refine ⟨_, rfl, _, _, rfl, rfl, ?_⟩
      show Q (V.bl (decide ((n : Int) ≤ 20))) H
      rw [show decide ((n : Int) ≤ 20) = decide (n ≤ 20) by congr 1; exact propext (by omega)]
      exact q
abbrev s_fits_claims : Stmt := topS 79
abbrev nm_fits_claims : List Str := ["kind", "part", "item"]
theorem sc_fits_claims : FnScope nm_fits_claims ["kind", "part"] (defScope s_fits_claims) := ⟨rfl, rfl, rfl, by decide +kernel, rfl, by decide +kernel, by decide +kernel⟩
/-- what a part of a claim of this kind is -/
def partD (k : Nat) (d : PyData) : Bool :=
  if k = 112 then progOk d else if k = 116 then treeD2 d else if k = 110 then numD d else match listD d with
    | some ds => mayD k ds.length && ds.all fun e => if k = 114 then progOk e else treeD2 e
    | none => false
def kindK (n k : Nat) : Prop := (0 < n ∧ (k = 112 ∨ k = 116)) ∨ (1 < n ∧ (k = 110 ∨ k = 114 ∨ k = 105))
def sp_fits_claims_n (n : Nat) (K : PySem.W.Frag) (cl : Cn → Addr) : Sp := fun vs H Q _ => ∃ (k : Nat) (v : V) (d : PyData), vs = [.str ⟨#[k]⟩, v] ∧ kindK n k ∧ Vd H v d ∧ ∀ H', Same H H' → Q (.bl (partD k d)) H'
theorem sp_fits_claims_0 (K : PySem.W.Frag) (cl : Cn → Addr) {vs : List V} {H : Hp} {Q : VK} {E : XK} : ¬ sp_fits_claims_n 0 K cl vs H Q E := fun ⟨_, _, _, _, h, _⟩ => by
  rcases h with h | h
  · exact absurd h.1 (by decide)
  · exact absurd h.1 (by decide)
def sp_fits_claims (K : PySem.W.Frag) (cl : Cn → Addr) : Sp := sp_fits_claims_n 2 K cl
theorem vd_strOr {K : PySem.W.Frag} {H : Hp} {v : V} {d : PyData} (h : Vd H v d) : StrOr K H v ∧ treeV v = treeD2 d := by
  have no : ∀ {v : V} {d : PyData}, Vd H v d → isS d = false → (∀ s, v ≠ .str s) → StrOr K H v := fun {v d} h hs hn => .inr ⟨_, h.ty, (kS d).trans (congrArg _ hs), hn⟩
  cases h with
  | non => exact ⟨no (.non) rfl (fun s z => by cases z), rfl⟩
  | bl b => exact ⟨no (.bl b) rfl (fun s z => by cases z), rfl⟩
  | int m => exact ⟨no (.int m) rfl (fun s z => by cases z), rfl⟩
  | str x hx => exact ⟨.inl ⟨x, rfl, hx⟩, rfl⟩
  | lst a b c => exact ⟨no (.lst a b c) rfl (fun s z => by cases z), rfl⟩
  | tup a b c => exact ⟨no (.tup a b c) rfl (fun s z => by cases z), rfl⟩
theorem ok_fits_claims (T : Txt K mg cl w) (H_is_program : Has P w K mg base CX0 3 "is_program" ["value"] (sp_is_program K cl)) (H_is_tree : Has P w K mg base CX0 2 "is_tree" ["value"] (sp_is_tree K cl)) (H_may_have : Has P w K mg base CX0 1 "_may_have" ["kind", "many"] (sp_may_have K cl)) {f : Addr} {fd : FuncData} (F : Fun K "_fits" "_fits" s_fits_claims f fd) (g_fits_claims : mg "fits_claims" = some (.ref f)) (b_fits_claims : Binds K fd ["kind", "part"] []) : ∀ n : Nat, FnOk P w K mg base CX0 (4 + n) f fd ["kind", "part"] (sp_fits_claims_n n K cl) := by
  have m_all := T.m_all
  have m_isinstance := T.m_isinstance
  have m_int := T.m_int
  obtain ⟨t_MOST_NUMBER, m_MOST_NUMBER⟩ := T.m_MOST_NUMBER
  have m_list := T.m_list
  have m_bool := T.m_bool
  have m_len := T.m_len
  obtain ⟨m_ITEMS, L_ITEMS⟩ := T.m_ITEMS
  obtain ⟨es_ITEMS, n_ITEMS, D_ITEMS⟩ := L_ITEMS.kd
  obtain ⟨g_Machine, c_Machine⟩ := T.m_Machine
  have n_heads := T.n_Machine_heads
  have n_tails := T.n_Machine_tails
  have n_sizes := T.n_Machine_sizes
  have n_at := T.n_Machine_at
  have n_registers := T.n_Machine_registers
  have n_plan := T.n_Machine_plan
  obtain ⟨f_is_program, d_is_program, G_is_program, g_is_program, k_is_program, b_is_program⟩ := H_is_program.ex
  obtain ⟨f_is_tree, d_is_tree, G_is_tree, g_is_tree, k_is_tree, b_is_tree⟩ := H_is_tree.ex
  obtain ⟨f_may_have, d_may_have, G_may_have, g_may_have, k_may_have, b_may_have⟩ := H_may_have.ex
  have k_fits_claims := F.kp
  intro n
  induction n with
  | zero => exact F.ok sc_fits_claims (fun vs H Q E h => absurd h (sp_fits_claims_0 K cl)) (fun cdv A outer s H vs Q E hr h => absurd h (sp_fits_claims_0 K cl))
  | succ n G_fits_claims =>
  refine F.ok sc_fits_claims (fun vs H Q E h => ?_) (fun cdv A outer s H vs Q E hr h => ?_)
  · obtain ⟨k, v, d, rfl, _⟩ := h
    rfl
  · obtain ⟨k, v, d, rfl, hk, hv, q⟩ := h
    have hr : Room (4 + n) _ := hr
    have hz : sizeLine = 16777216 := rfl
    refine ⟨_, (pss_cons (ps_if (pt_cmpR op_eq (pv 0) pe_str (nomark _)) (pss_one (ps_ret (pe_call G_is_program (hr.mono (by first | decide | omega)) (by rfl) g_is_program k_is_program b_is_program .nil pass0 (pa_cons (pv 1) pa_nil)))) pss_nil)
      (pss_cons (ps_if (pt_cmpR op_eq (pv 0) pe_str (nomark _)) (pss_one (ps_ret (pe_call G_is_tree (hr.mono (by first | decide | omega)) (by rfl) g_is_tree k_is_tree b_is_tree .nil pass0 (pa_cons (pv 1) pa_nil)))) pss_nil)
      (pss_cons (ps_if (pt_cmpR op_eq (pv 0) pe_str (nomark _)) (pss_one (ps_ret (pe_and (pe_callB (call_isi : CallR _ _ (rIsi K)) (by rfl) m_isinstance (by decide +kernel) (pa_cons (pv 1) (pa_cons (pe_bltn (v := .ty "int") (by rfl) m_int (by decide +kernel) rfl) pa_nil))) (pe_and (pe_not (pe_callB (call_isi : CallR _ _ (rIsi K)) (by rfl) m_isinstance (by decide +kernel) (pa_cons (pv 1) (pa_cons (pe_bltn (v := .ty "bool") (by rfl) m_bool (by decide +kernel) rfl) pa_nil)))) (pe_one (pe_chain op_le op_le pe_int (pv 1) (pe_glob (v := .int 1000000) (by rfl) m_MOST_NUMBER ⟨_, rfl⟩))))))) pss_nil)
      (pss_cons (ps_if (PW.pt (pw_or (pt_not (pt_val (pe_callB (call_isi : CallR _ _ (rIsi K)) (by rfl) m_isinstance (by decide +kernel) (pa_cons (pv 1) (pa_cons (pe_bltn (v := .ty "list") (by rfl) m_list (by decide +kernel) rfl) pa_nil))))) (pw_or1 (pt_not (pt_val (pe_call G_may_have (hr.mono (by first | decide | omega)) (by rfl) g_may_have k_may_have b_may_have .nil pass0 (pa_cons (pv 0) (pa_cons (pe_callB (call_lenS : CallR _ _ (rLenS K)) (by rfl) m_len (by decide +kernel) (pa_cons (pv 1) pa_nil)) pa_nil)))))))) (pss_one (ps_ret pe_bl)) pss_nil)
      (pss_one (ps_ret (pe_callB (cr_all rfl) (by rfl) m_all (by decide +kernel) (pa_cons (pe_lc (own := [("item", 2)]) (g := gName 2) (tt := tYes) rfl sc_fits_claims.nd (pi_list (pv 1)) (blkOk_by (N := nm_fits_claims) (sc := defScope s_fits_claims) (by decide +kernel)) (fun _ _ _ _ _ => (pg_name (i := 2) sc_fits_claims.nd rfl (Or.inl rfl))) (fun _ _ _ _ _ => pts_nil) (fun _ _ _ _ _ => (pe_call G_fits_claims (hr.mono (by first | decide | omega)) (by rfl) g_fits_claims k_fits_claims b_fits_claims .nil pass0 (pa_cons (pe_ix (ix_kdict : IxR _ (rIxD K w)) (pe_glob (v := .ref (cl .ITEMS)) (by rfl) m_ITEMS rfl) (pv 0) (fun _ _ => rfl)) (pa_cons (pv 2) pa_nil))))) pa_nil)))))))), ?_⟩
    unfold partD at q
    refine ⟨_, rfl, rfl, _, rfl, ?_⟩
    rw [one_is 112 (by decide +kernel : Str.ofString "p" = stS [112])]
    refine ite2 (fun c => ?_) (fun c => ?_)
    · rw [if_pos (of_decide_eq_true c)] at q
      exact ⟨_, rfl, v, d, rfl, hv, q⟩
    have k1 : ¬ k = 112 := fun z => c (decide_eq_true z)
    rw [if_neg k1] at q
    clear c
    refine ⟨_, rfl, rfl, _, rfl, ?_⟩
    rw [one_is 116 (by decide +kernel : Str.ofString "t" = stS [116])]
    refine ite2 (fun c => ?_) (fun c => ?_)
    · rw [if_pos (of_decide_eq_true c)] at q
      refine ⟨_, rfl, v, rfl, (vd_strOr hv).1, ?_⟩
      rw [(vd_strOr (K := K) hv).2]
      exact q H (.refl _)
    have k2 : ¬ k = 116 := fun z => c (decide_eq_true z)
    rw [if_neg k2] at q
    clear c
    refine ⟨_, rfl, rfl, _, rfl, ?_⟩
    rw [one_is 110 (by decide +kernel : Str.ofString "n" = stS [110])]
    refine ite2 (fun c => ?_) (fun c => ?_)
    · rw [if_pos (of_decide_eq_true c)] at q
      refine ⟨_, rfl, _, _, _, _, _, rfl, .ty _, hv.ty, kI d, ?_⟩
      cases hv with
      | int m =>
        refine ⟨_, rfl, iteT ⟨_, rfl, _, _, _, _, false, rfl, .ty _, .base (.int m), kit_ty (by decide +kernel), _, rfl, _, rfl, iteT ⟨_, rfl, _, _, rfl, rfl, _, rfl, ?_⟩⟩⟩
        have q : ∀ H', Same H H' → Q (.bl (decide (0 ≤ m) && decide (m ≤ 1000000))) H' := q
        refine ite2 (fun c3 => ?_) (fun c3 => ?_)
        · have c3' : (0 : Int) ≤ m := of_decide_eq_true c3
          rw [decide_eq_true c3', Bool.true_and] at q
          exact ⟨_, _, rfl, rfl, q H (.refl _)⟩
        · have c3' : ¬ (0 : Int) ≤ m := fun z => c3 (decide_eq_true z)
          rw [decide_eq_false c3', Bool.false_and] at q
          exact q H (.refl _)
      | bl b =>
        exact ⟨_, rfl, iteT ⟨_, rfl, _, _, _, _, true, rfl, .ty _, .base (.bl b), kit_ty (by decide +kernel), _, rfl, _, rfl, iteF (q H (.refl _))⟩⟩
      | non => exact ⟨_, rfl, iteF (q H (.refl _))⟩
      | str x _ => exact ⟨_, rfl, iteF (q H (.refl _))⟩
      | lst _ _ _ => exact ⟨_, rfl, iteF (q H (.refl _))⟩
      | tup _ _ _ => exact ⟨_, rfl, iteF (q H (.refl _))⟩
    have k3 : ¬ k = 110 := fun z => c (decide_eq_true z)
    rw [if_neg k3] at q
    clear c
    refine ⟨_, rfl, _, _, _, _, _, rfl, .ty _, hv.ty, kL d, _, rfl, notI (fun c => ?_) (fun c => ?_)⟩
    · have e : listD d = none := by
        cases d with
        | list ds => cases c
        | _ => rfl
      rw [e] at q
      exact iteT (q H (.refl _))
    cases hv with
    | non => cases c
    | bl b => cases c
    | int m => cases c
    | str x _ => cases c
    | tup h _ _ => cases c
    | @lst a xs ds ha hl r =>
    have hn := r.len
    have q : ∀ H', Same H H' → Q (.bl (mayD k ds.length && ds.all fun e => if k = 114 then progOk e else treeD2 e)) H' := q
    rw [← hn] at q
    refine ⟨_, rfl, _, rfl, _, _, rfl, .inl (SqL.of ha), k, xs.length, rfl, _, rfl, notI (fun c => ?_) (fun c => ?_)⟩
    · rw [c, Bool.false_and] at q
      exact q H (.refl _)
    rw [c, Bool.true_and] at q
    have hk2 : 0 < n ∧ (k = 114 ∨ k = 105) := by
      rcases hk with h | h
      · exact absurd h.2 (fun z => z.elim k1 k2)
      · refine ⟨by omega, h.2.elim (fun z => absurd z k3) id⟩
    obtain ⟨k', hlk, hpt, hkk⟩ : ∃ k' : Nat, ([(Str.ofString "r", Str.ofString "p"), (Str.ofString "i", Str.ofString "t")] : List (Str × Str)).lookup ⟨#[k]⟩ = some ⟨#[k']⟩ ∧ (∀ e, partD k' e = if k = 114 then progOk e else treeD2 e) ∧ kindK n k' := by
      rcases hk2 with ⟨h0, rfl | rfl⟩
      · exact ⟨112, by decide +kernel, fun e => rfl, .inl ⟨h0, .inl rfl⟩⟩
      · exact ⟨116, by decide +kernel, fun e => rfl, .inl ⟨h0, .inr rfl⟩⟩
    obtain ⟨bs, hbs⟩ : ∃ bs : List Bool, bs = ds.map (partD k') := ⟨_, rfl⟩
    have hbl : bs.length = xs.length := by rw [hbs, List.length_map, hn]
    have hall : (ds.all fun e => if k = 114 then progOk e else treeD2 e) = bs.all id := by
      rw [hbs, List.all_map]
      congr 1
      funext e
      exact (hpt e).symm
    rw [hall] at q
    refine ⟨_, rfl, a, rfl, ⟨_, SqL.of ha⟩, fun D nD => lc_it walk_list (fun j H' => Same H H' ∧ H' D = some (.lst ((bs.take j).map V.bl))) ⟨Same.upd nD, upd_same⟩ (fun j H' _ s => SqL.of (s.1 _ _ ha)) ?_ ?_⟩
    · rintro j y H2 H3 hj ⟨s2, hD⟩ ⟨rfl, hy⟩
      obtain ⟨d', hd', hvd⟩ := r.get' hy
      have hb : bs[j]? = some (partD k' d') := by
        rw [hbs, List.getElem?_map, hd']
        rfl
      refine ⟨rfl, ?_⟩
      simp only [tYes, ↓reduceIte]
      refine ⟨_, rfl, _, _, _, rfl, rfl, L_ITEMS.dct hlk, _, rfl, k', y, d', rfl, hkk, hvd.same s2, fun H4 s4 => ?_⟩
      refine ⟨_, s4 _ _ hD, ?_, fun b x z => ?_, ?_⟩
      · rw [List.length_map, List.length_take]
        omega
      · rw [upd_ne (ne_of_none z nD)]
        exact (s2.trans s4) b x z
      · rw [upd_same, List.take_add_one, hb, List.map_append]
        rfl
    · rintro H2 ⟨s2, hD⟩
      rw [← hbl, List.take_length] at hD
      exact ⟨D, bs, rfl, SqL.of hD, q H2 s2⟩
abbrev s_is_claim : Stmt := topS 78
abbrev nm_is_claim : List Str := ["value", "word", "form", "kind", "part"]
theorem sc_is_claim : FnScope nm_is_claim ["value"] (defScope s_is_claim) := ⟨rfl, rfl, rfl, by decide +kernel, rfl, by decide +kernel, by decide +kernel⟩
def claimD (d : PyData) : Bool := match d with
  | .tuple (.str w :: ps) => match formsL.lookup w with
    | some sh => decide (ps.length = sh.length) && (sh.cps.toList.zip ps).all fun q => partD q.1 q.2
    | none => false
  | _ => false
theorem forms_all : (formsL.all fun p => decide (p.2.length ≤ 6) && p.2.cps.toList.all fun c => c == 112 || c == 116 || c == 110 || c == 114 || c == 105) = true := by decide +kernel
theorem forms_ok {w sh : Str} (h : formsL.lookup w = some sh) : sh.length ≤ 6 ∧ ∀ c ∈ sh.cps.toList, kindK 2 c := by
  have h1 := List.all_eq_true.mp forms_all _ (lookup_mem h)
  have h1 : (decide (sh.length ≤ 6) && sh.cps.toList.all fun c => c == 112 || c == 116 || c == 110 || c == 114 || c == 105) = true := h1
  rw [Bool.and_eq_true] at h1
  refine ⟨of_decide_eq_true h1.1, fun c hc => ?_⟩
  have h2 := List.all_eq_true.mp h1.2 c hc
  simp only [Bool.or_eq_true, beq_iff_eq] at h2
  unfold kindK
  omega
def sp_is_claim (K : PySem.W.Frag) (cl : Cn → Addr) : Sp := fun vs H Q _ => ∃ (v : V) (d : PyData), vs = [v] ∧ Vd H v d ∧ ∀ H', Same H H' → Q (.bl (claimD d)) H'
theorem ok_is_claim (T : Txt K mg cl w) (H_fits_claims : Has P w K mg base CX0 6 "fits_claims" ["kind", "part"] (sp_fits_claims K cl)) {f : Addr} {fd : FuncData} (F : Fun K "is_claim" "is_claim" s_is_claim f fd) : FnOk P w K mg base CX0 7 f fd ["value"] (sp_is_claim K cl) := by
  obtain ⟨m_FORMS, L_FORMS⟩ := T.m_FORMS
  obtain ⟨es_FORMS, n_FORMS, D_FORMS⟩ := L_FORMS.kd
  have m_all := T.m_all
  have m_len := T.m_len
  have m_isinstance := T.m_isinstance
  have m_tuple := T.m_tuple
  have m_str := T.m_str
  have m_zip := T.m_zip
  obtain ⟨g_Machine, c_Machine⟩ := T.m_Machine
  have n_heads := T.n_Machine_heads
  have n_tails := T.n_Machine_tails
  have n_sizes := T.n_Machine_sizes
  have n_at := T.n_Machine_at
  have n_registers := T.n_Machine_registers
  have n_plan := T.n_Machine_plan
  obtain ⟨f_fits_claims, d_fits_claims, G_fits_claims, g_fits_claims, k_fits_claims, b_fits_claims⟩ := H_fits_claims.ex
  refine F.ok sc_is_claim (fun vs H Q E h => ?_) (fun cdv A outer s H vs Q E hr h => ?_)
  · obtain ⟨v, d, rfl, _⟩ := h
    rfl
  · obtain ⟨v, d, rfl, hv, q⟩ := h
    refine ⟨_, (pss_cons (ps_if (PW.pt (pw_or (pt_not (pt_val (pe_callB (call_isi : CallR _ _ (rIsi K)) (by rfl) m_isinstance (by decide +kernel) (pa_cons (pv 0) (pa_cons (pe_bltn (v := .ty "tuple") (by rfl) m_tuple (by decide +kernel) rfl) pa_nil))))) (pw_or1 (pt_cmpR op_eq (pe_callB (call_lenS : CallR _ _ (rLenS K)) (by rfl) m_len (by decide +kernel) (pa_cons (pv 0) pa_nil)) pe_int (nomark _))))) (pss_one (ps_ret pe_bl)) pss_nil)
      (pss_cons (ps_set (i := 1) sc_is_claim.nd rfl (Or.inl rfl) (pe_ix (ix_tup : IxR _ (rIxT K)) (pv 0) pe_int (fun _ _ => rfl)))
      (pss_cons (ps_if (PW.pt (pw_or (pt_not (pt_val (pe_callB (call_isi : CallR _ _ (rIsi K)) (by rfl) m_isinstance (by decide +kernel) (pa_cons (pv 1) (pa_cons (pe_bltn (v := .ty "str") (by rfl) m_str (by decide +kernel) rfl) pa_nil))))) (pw_or1 (pt_cmpR (op_notIn_kd D_FORMS) (pv 1) (pe_glob (v := .ref (cl .FORMS)) (by rfl) m_FORMS rfl) (by rfl))))) (pss_one (ps_ret pe_bl)) pss_nil)
      (pss_cons (ps_set (i := 2) sc_is_claim.nd rfl (Or.inl rfl) (pe_ix ix_kdict (pe_glob (v := .ref (cl .FORMS)) (by rfl) m_FORMS rfl) (pv 1) (fun _ _ => rfl)))
      (pss_cons (ps_if (pt_cmpR op_ne (pe_callB (call_lenS : CallR _ _ (rLenS K)) (by rfl) m_len (by decide +kernel) (pa_cons (pv 0) pa_nil)) (pe_op op_add pe_int (pe_callB call_len_str (by rfl) m_len (by decide +kernel) (pa_cons (pv 2) pa_nil))) (nomark _)) (pss_one (ps_ret pe_bl)) pss_nil)
      (pss_one (ps_ret (pe_callB (cr_all rfl) (by rfl) m_all (by decide +kernel) (pa_cons (pe_lc (own := [("kind", 3), ("part", 4)]) (g := gTup K 2 (gCons (gName 3) (gCons (gName 4) gNil))) (tt := tYes) rfl sc_is_claim.nd (pi_zipS (by rfl) m_zip (pa_cons (pv 2) (pa_cons (pe_slice (sl_tupA : SlR _ (rSlA K)) (pv 0) (po_some pe_int) po_none) pa_nil))) (blkOk_by (N := nm_is_claim) (sc := defScope s_is_claim) (by decide +kernel)) (fun _ _ _ _ _ => (pg_tup rfl (pgs_cons (pg_name (i := 3) sc_is_claim.nd rfl (Or.inl rfl)) (pgs_cons (pg_name (i := 4) sc_is_claim.nd rfl (Or.inl rfl)) pgs_nil)))) (fun _ _ _ _ _ => pts_nil) (fun _ _ _ _ _ => (pe_call G_fits_claims (hr.mono (by decide)) (by rfl) g_fits_claims k_fits_claims b_fits_claims .nil pass0 (pa_cons (pv 3) (pa_cons (pv 4) pa_nil))))) pa_nil))))))))), ?_⟩
    refine ⟨_, rfl, _, _, _, _, _, rfl, .ty _, hv.ty, kT d, _, rfl, notI (fun c => ?_) (fun c => ?_)⟩
    · have e : claimD d = false := by
        cases d with
        | tuple ds => cases c
        | _ => rfl
      rw [e] at q
      exact iteT (q H (.refl _))
    cases hv with
    | non => cases c
    | bl b => cases c
    | int m => cases c
    | str x _ => cases c
    | lst h _ _ => cases c
    | @tup a xs ds ha hl r =>
      have hn := r.len
      refine ⟨_, rfl, _, _, rfl, .inr (.inl (Rd.of ha)), rfl, _, rfl, ?_⟩
      cases r with
      | nil => exact iteT (q H (.refl _))
      | @cons v0 vs d0 ps h0 r =>
      have hn2 := r.len
      refine iteNo (fun z => ?_) ?_
      · have z1 := V.int.inj z
        rw [List.length_cons] at z1
        omega
      refine ⟨_, rfl, _, _, _, _, rfl, rfl, SqT.of ha, atI_nat (j := 0) rfl, ?_⟩
      refine ⟨_, rfl, _, _, _, _, _, rfl, .ty _, h0.ty, kS d0, _, rfl, notI (fun c => ?_) (fun c => ?_)⟩
      · have e : claimD (.tuple (d0 :: ps)) = false := by
          cases d0 with
          | str w => cases c
          | _ => rfl
        rw [e] at q
        exact iteT (q H (.refl _))
      cases h0 with
      | non => cases c
      | bl b => cases c
      | int m => cases c
      | lst h _ _ => cases c
      | tup h _ _ => cases c
      | str w hw =>
      rcases L_FORMS.get w with ⟨sh, t, e1, e2⟩ | ⟨e1, e2⟩
      · refine ⟨_, rfl, w, _, rfl, rfl, e2, _, rfl, iteF ?_⟩
        refine ⟨_, rfl, _, _, _, rfl, rfl, L_FORMS.dct e1, ?_⟩
        have e1' : formsL.lookup w = some sh := e1
        obtain ⟨l2, lk⟩ := forms_ok e1'
        have sz : sizeLine = 16777216 := rfl
        refine ⟨_, rfl, _, _, rfl, .inr (.inl (Rd.of ha)), _, rfl, _, rfl, (by omega), _, _, rfl, rfl, rfl, _, rfl, ?_⟩
        have er : claimD (.tuple (.str w :: ps)) = (decide (ps.length = sh.length) && (sh.cps.toList.zip ps).all fun q => partD q.1 q.2) := by
          show (match formsL.lookup w with | some sh => _ | none => false) = _
          rw [e1']
        rw [er] at q
        refine ite2 (fun c => ?_) (fun c => ?_)
        · have c' : ¬ ps.length = sh.length := fun z => by
            rw [Bool.not_eq_true', decide_eq_false_iff_not] at c
            refine c ?_
            show V.int _ = V.int _
            congr 1
            rw [List.length_cons]
            omega
          rw [decide_eq_false c', Bool.false_and] at q
          exact q H (.refl _)
        have c' : ps.length = sh.length := by
          have : V.int ((V.str w :: vs).length : Nat) = V.int (1 + (sh.length : Nat)) := by
            refine Classical.byContradiction fun z => c ?_
            rw [decide_eq_false z]
            rfl
          have := V.int.inj this
          rw [List.length_cons] at this
          omega
        rw [decide_eq_true c', Bool.true_and] at q
        have hm : sh.cps.toList.length = vs.length := by
          have : sh.cps.toList.length = sh.length := Array.length_toList
          omega
        have hv2 : (V.str w :: vs).length = vs.length + 1 := rfl
        refine ⟨_, rfl, _, rfl, 1, rfl, a, _, rfl, SqT.of ha, fun hw => ?_, fun hw T nT => ?_⟩
        · exfalso
          have h1 := hw.1
          rw [show HT.sIx (V.str w :: vs).length 0 (some (1 : Int)) = min 1 (V.str w :: vs).length from HT.sIx_nat _ _ 1] at h1
          omega
        have hcut : cutV (V.str w :: vs) (some 1) none = vs := by
          show ((V.str w :: vs).drop (HT.sIx (V.str w :: vs).length 0 (some (1 : Int)))).take ((V.str w :: vs).length - HT.sIx (V.str w :: vs).length 0 (some (1 : Int))) = _
          rw [show HT.sIx (V.str w :: vs).length 0 (some (1 : Int)) = min 1 (V.str w :: vs).length from HT.sIx_nat _ _ 1]
          rw [show min 1 (V.str w :: vs).length = 1 by omega, hv2]
          exact List.take_of_length_le (Nat.le_refl _)
        rw [hcut]
        have smT := Same.upd (o := .tup vs) nT
        obtain ⟨bs, hbs⟩ : ∃ bs : List Bool, bs = (sh.cps.toList.zip ps).map fun q => partD q.1 q.2 := ⟨_, rfl⟩
        have hbl : bs.length = vs.length := by
          rw [hbs, List.length_map, List.length_zip]
          omega
        have hall : bs.all id = (sh.cps.toList.zip ps).all fun q => partD q.1 q.2 := by
          rw [hbs, List.all_map]
          rfl
        rw [← hall] at q
        refine ⟨sh, T, vs, rfl, SqT.of upd_same, fun D nD => lc_zipS hm (fun j H' => Same (upd H T (.tup vs)) H' ∧ H' D = some (.lst ((bs.take j).map V.bl))) ⟨Same.upd nD, upd_same⟩ (fun j H' s => SqT.of (s.1 _ _ upd_same)) ?_ ?_⟩
        · rintro j c y T2 H2 hc hy ⟨s2, hD⟩ nT2
          obtain ⟨d, hd, hvd⟩ := r.get' hy
          have hb : bs[j]? = some (partD c d) := by
            have hj1 := (List.getElem?_eq_some_iff.mp hc)
            have hj2 := (List.getElem?_eq_some_iff.mp hd)
            rw [hbs, List.getElem?_map, show (sh.cps.toList.zip ps)[j]? = some (c, d) from List.getElem?_zip_eq_some.mpr ⟨hc, hd⟩]
            rfl
          refine ⟨T2, [.str ⟨#[c]⟩, y], rfl, SqT.of upd_same, rfl, _, _, rfl, _, _, rfl, rfl, ?_⟩
          have s3 := s2.trans (Same.upd (o := .tup [.str ⟨#[c]⟩, y]) nT2)
          refine ⟨rfl, ?_⟩
          simp only [tYes, ↓reduceIte]
          refine ⟨_, rfl, _, rfl, ?_⟩
          refine ⟨c, y, d, rfl, lk c (List.mem_of_getElem? hc), (hvd.same smT).same s3, fun H4 s4 => ?_⟩
          refine ⟨_, s4 _ _ (Same.upd nT2 _ _ hD), ?_, ?_⟩
          · rw [List.length_map, List.length_take]
            omega
          · refine ⟨fun b x z => ?_, ?_⟩
            · rw [upd_ne (ne_of_none z nD)]
              exact ((s2.trans (Same.upd nT2)).trans s4) b x z
            · rw [upd_same, List.take_add_one, hb, List.map_append]
              rfl
        · rintro H2 ⟨s2, hD⟩
          rw [List.take_of_length_le (by omega)] at hD
          exact ⟨D, bs, rfl, SqL.of hD, q H2 (smT.trans s2)⟩
      · have e : claimD (.tuple (.str w :: ps)) = false := by
          show (match formsL.lookup w with | some sh => _ | none => false) = false
          rw [show formsL.lookup w = none from e1]
        rw [e] at q
        exact ⟨_, rfl, w, _, rfl, rfl, e2, _, rfl, iteT (q H (.refl _))⟩
theorem part_ok {x : Prt} (h : x.ok) : partD x.kind x.d = true := by
  cases x with
  | pg is => exact (show prgOk is from h).1
  | tr u =>
    have hu : u.pairs ≤ 5 := h
    have := u.sg_len
    show (decide (u.str.length ≤ 200000) && isT u.sg) = true
    rw [isT_sg, Tr.str_len, decide_eq_true (by omega)]
    rfl
  | nm k =>
    have hk : k ≤ 1000000 := h
    show (decide ((0 : Int) ≤ (k : Int)) && decide ((k : Int) ≤ 1000000)) = true
    rw [decide_eq_true (by omega), decide_eq_true (by omega)]
    rfl
  | ls iss =>
    obtain ⟨g1, g2, g3⟩ := (show 1 ≤ iss.length ∧ iss.length ≤ 8 ∧ ∀ is ∈ iss, prgOk is from h)
    show (mayD 114 (iss.map progD).length && (iss.map progD).all fun e => if 114 = 114 then progOk e else treeD2 e) = true
    have e1 : mayD 114 (iss.map progD).length = true := by
      unfold mayD
      rw [if_pos rfl, List.length_map, decide_eq_true g1, decide_eq_true g2]
      rfl
    rw [e1, Bool.true_and, List.all_eq_true]
    intro d hd
    obtain ⟨is, hi, rfl⟩ := List.mem_map.mp hd
    rw [if_pos rfl]
    exact (g3 is hi).1
  | il ts =>
    obtain ⟨g1, g2⟩ := (show ts.length ≤ 20 ∧ ∀ t ∈ ts, t.pairs ≤ 5 from h)
    show (mayD 105 (ts.map fun t => PyData.str t.str).length && (ts.map fun t => PyData.str t.str).all fun e => if 105 = 114 then progOk e else treeD2 e) = true
    have e1 : mayD 105 (ts.map fun t => PyData.str t.str).length = true := by
      unfold mayD
      rw [if_neg (by decide), List.length_map, decide_eq_true g1]
    rw [e1, Bool.true_and, List.all_eq_true]
    intro d hd
    obtain ⟨t, hi, rfl⟩ := List.mem_map.mp hd
    have := g2 t hi
    have := t.sg_len
    rw [if_neg (by decide)]
    show (decide (t.str.length ≤ 200000) && isT t.sg) = true
    rw [isT_sg, Tr.str_len, decide_eq_true (by omega)]
    rfl
theorem claimD_ok {w sh : Str} {ps : List Prt} (hw : formsL.lookup w = some sh) (hk : sh.cps.toList = ps.map Prt.kind) (hok : ∀ x ∈ ps, x.ok) : claimD (claimOf w ps) = true := by
  show (match formsL.lookup w with | some sh => decide ((ps.map Prt.d).length = sh.length) && (sh.cps.toList.zip (ps.map Prt.d)).all fun q => partD q.1 q.2 | none => false) = true
  rw [hw]
  have hsl : sh.cps.toList.length = sh.length := Array.length_toList
  have hkl : sh.cps.toList.length = ps.length := by rw [hk, List.length_map]
  show (decide ((ps.map Prt.d).length = sh.length) && (sh.cps.toList.zip (ps.map Prt.d)).all fun q => partD q.1 q.2) = true
  rw [List.length_map, decide_eq_true (by omega), Bool.true_and, hk, List.all_eq_true]
  intro q hq
  have : ∀ ps : List Prt, (∀ x ∈ ps, x.ok) → ∀ q ∈ (ps.map Prt.kind).zip (ps.map Prt.d), partD q.1 q.2 = true := fun ps => by
    induction ps with
    | nil => exact fun _ q hq => nomatch hq
    | cons x r ih =>
      intro h q hq
      rcases List.mem_cons.mp hq with rfl | hq
      · exact part_ok (h x (List.mem_cons_self ..))
      · exact ih (fun y hy => h y (List.mem_cons_of_mem _ hy)) q hq
  exact this ps hok q hq
abbrev s_Machine_pair : Stmt := inClass (topS 65) 3
abbrev nm_Machine_pair : List Str := ["self", "first", "second"]
theorem sc_Machine_pair : FnScope nm_Machine_pair ["self", "first", "second"] (defScope s_Machine_pair) := ⟨rfl, rfl, rfl, by decide +kernel, rfl, by decide +kernel, by decide +kernel⟩
def sp_Machine_pair (K : PySem.W.Frag) (cl : Cn → Addr) : Sp := fun vs H Q E => ∃ (o dx Ah At As : Addr) (fs : List (Str × V)) (T : List Tr) (a b : Nat) (s t : Tr), vs = [.ref o, .int a, .int b] ∧ H o = some (.ins (cl .Machine) dx fs) ∧ FsOk fs Ah At As ∧ MacAt H Ah At As T ∧
  T[a]? = some s ∧ T[b]? = some t ∧ T.length + 1 ≤ sizeLine ∧ ∀ H', ButL [Ah, At, As] H H' → MacAt H' Ah At As (T ++ [.node s t]) → Q (.int T.length) H'
theorem ok_Machine_pair (T : Txt K mg cl w) {f : Addr} {fd : FuncData} (F : Fun K "pair" "Machine.pair" s_Machine_pair f fd) : FnOk P w K mg base CX0 1 f fd ["self", "first", "second"] (sp_Machine_pair K cl) := by
  have m_len := T.m_len
  obtain ⟨g_Machine, c_Machine⟩ := T.m_Machine
  have n_heads := T.n_Machine_heads
  have n_tails := T.n_Machine_tails
  have n_sizes := T.n_Machine_sizes
  have n_at := T.n_Machine_at
  have n_registers := T.n_Machine_registers
  have n_plan := T.n_Machine_plan
  refine F.ok sc_Machine_pair (fun vs H Q E h => ?_) (fun cdv A outer s H vs Q E hr h => ?_)
  · obtain ⟨o, dx, Ah, At, As, fs, T, a, b, s, t, rfl, _⟩ := h
    rfl
  · obtain ⟨o, dx, Ah, At, As, fs, T, a, b, s, t, rfl, ho, hf, hm, ha, hb, hz, q⟩ := h
    refine ⟨_, (pss_cons (ps_expr (pe_bm PySem.F.plainAttrs_list PySem.F.slot_list_append PySem.F.type_list_append mt_append (pe_fld (pv 0) rfl) (pa_cons (pv 1) pa_nil)))
      (pss_cons (ps_expr (pe_bm PySem.F.plainAttrs_list PySem.F.slot_list_append PySem.F.type_list_append mt_append (pe_fld (pv 0) rfl) (pa_cons (pv 2) pa_nil)))
      (pss_cons (ps_expr (pe_bm PySem.F.plainAttrs_list PySem.F.slot_list_append PySem.F.type_list_append mt_append (pe_fld (pv 0) rfl) (pa_cons (pe_op op_add (pe_op op_add pe_int (pe_ix (ix_list : IxR _ (rIxL K)) (pe_fld (pv 0) rfl) (pv 1) (fun _ _ => rfl))) (pe_ix (ix_list : IxR _ (rIxL K)) (pe_fld (pv 0) rfl) (pv 2) (fun _ _ => rfl))) pa_nil)))
      (pss_one (ps_ret (pe_op op_sub (pe_callB (call_lenS : CallR _ _ (rLenS K)) (by rfl) m_len (by decide +kernel) (pa_cons (pe_fld (pv 0) rfl) pa_nil)) pe_int)))))), ?_⟩
    obtain ⟨hs, ts, h1, h2, h3, g⟩ := hm.get
    have n1 : o ≠ Ah := fun z => by rw [z, h1] at ho; cases ho
    have n2 : o ≠ At := fun z => by rw [z, h2] at ho; cases ho
    have n3 : o ≠ As := fun z => by rw [z, h3] at ho; cases ho
    have l1 := natsV_len hs
    have l2 := natsV_len ts
    have l3 := sizV_len T
    have g1 := g.lh
    have g2 := g.lt
    refine ⟨_, rfl, _, _, _, _, _, rfl, ho, c_Machine, n_heads, hf.h, .inl ⟨rfl, _, SqL.of h1⟩, _, rfl, _, _, _, rfl, rfl, h1, (by omega), ?_⟩
    rw [natsV_app]
    have b1 := ButL.upd (as := [Ah, At, As]) (H := H) (o := .lst (natsV (hs ++ [a]))) (List.mem_cons_self ..)
    have o1 : upd H Ah (.lst (natsV (hs ++ [a]))) o = _ := (upd_ne n1).trans ho
    have x1 : upd H Ah (.lst (natsV (hs ++ [a]))) Ah = some (.lst (natsV (hs ++ [a]))) := upd_same
    have x2 : upd H Ah (.lst (natsV (hs ++ [a]))) At = _ := (upd_ne hm.ht.symm).trans h2
    have x3 : upd H Ah (.lst (natsV (hs ++ [a]))) As = _ := (upd_ne hm.hs.symm).trans h3
    generalize upd H Ah (.lst (natsV (hs ++ [a]))) = H1 at b1 o1 x1 x2 x3 ⊢
    refine ⟨_, rfl, _, _, _, _, _, rfl, o1, c_Machine, n_tails, hf.t, .inl ⟨rfl, _, SqL.of x2⟩, _, rfl, _, _, _, rfl, rfl, x2, (by omega), ?_⟩
    rw [natsV_app]
    have b2 := ButL.upd (as := [Ah, At, As]) (H := H1) (a := At) (o := .lst (natsV (ts ++ [b]))) (List.mem_cons_of_mem _ (List.mem_cons_self ..))
    have o2 : upd H1 At (.lst (natsV (ts ++ [b]))) o = _ := (upd_ne n2).trans o1
    have y1 : upd H1 At (.lst (natsV (ts ++ [b]))) Ah = _ := (upd_ne hm.ht).trans x1
    have y2 : upd H1 At (.lst (natsV (ts ++ [b]))) At = some (.lst (natsV (ts ++ [b]))) := upd_same
    have y3 : upd H1 At (.lst (natsV (ts ++ [b]))) As = _ := (upd_ne hm.ts.symm).trans x3
    generalize upd H1 At (.lst (natsV (ts ++ [b]))) = H2 at b2 o2 y1 y2 y3 ⊢
    refine ⟨_, rfl, _, _, _, _, _, rfl, o2, c_Machine, n_sizes, hf.s, .inl ⟨rfl, _, SqL.of y3⟩, _, rfl, _, _, _, _, _, rfl, o2, c_Machine, n_sizes, hf.s, _, rfl, _, _, _, _, rfl, rfl, SqL.of y3, sizV_at ha, _, _, rfl, rfl, _, rfl, _, _, _, _, _, rfl, o2, c_Machine, n_sizes, hf.s, _, rfl, _, _, _, _, rfl, rfl, SqL.of y3, sizV_at hb, _, _, rfl, rfl, _, _, _, rfl, rfl, y3, (by omega), ?_⟩
    have e : (1 : Int) + (s.sg.length : Int) + (t.sg.length : Int) = ((Tr.node s t).sg.length : Int) := by
      rw [node_len]
      omega
    dsimp only
    rw [e, sizV_app]
    have b3 := ButL.upd (as := [Ah, At, As]) (H := H2) (a := As) (o := .lst (sizV (T ++ [.node s t]))) (List.mem_cons_of_mem _ (List.mem_cons_of_mem _ (List.mem_cons_self ..)))
    have o3 : upd H2 As (.lst (sizV (T ++ [.node s t]))) o = _ := (upd_ne n3).trans o2
    have z1 : upd H2 As (.lst (sizV (T ++ [.node s t]))) Ah = _ := (upd_ne hm.hs).trans y1
    have z2 : upd H2 As (.lst (sizV (T ++ [.node s t]))) At = _ := (upd_ne hm.ts).trans y2
    have z3 : upd H2 As (.lst (sizV (T ++ [.node s t]))) As = some (.lst (sizV (T ++ [.node s t]))) := upd_same
    generalize upd H2 As (.lst (sizV (T ++ [.node s t]))) = H3 at b3 o3 z1 z2 z3 ⊢
    refine ⟨_, rfl, _, _, _, _, _, rfl, o3, c_Machine, n_sizes, hf.s, _, _, rfl, .inl (SqL.of z3), _, _, rfl, rfl, ?_⟩
    have e2 : (((sizV (T ++ [.node s t])).length : Nat) : Int) - 1 = (T.length : Int) := by
      rw [sizV_len, List.length_append, List.length_singleton]
      omega
    show Q (.int ((((sizV (T ++ [.node s t])).length : Nat) : Int) - 1)) H3
    rw [e2]
    exact q H3 ((b1.trans b2).trans b3) ⟨⟨_, _, z1, z2, z3, g.push ha hb⟩, hm.ht, hm.hs, hm.ts⟩
abbrev s_Machine_enter : Stmt := inClass (topS 65) 2
abbrev nm_Machine_enter : List Str := ["self", "tree", "waiting", "sign", "first", "second"]
theorem sc_Machine_enter : FnScope nm_Machine_enter ["self", "tree"] (defScope s_Machine_enter) := ⟨rfl, rfl, rfl, by decide +kernel, rfl, by decide +kernel, by decide +kernel⟩
def sp_Machine_enter (K : PySem.W.Frag) (cl : Cn → Addr) : Sp := fun vs H Q E => ∃ (o dx Ah At As : Addr) (fs : List (Str × V)) (T : List Tr) (t : Tr), vs = [.ref o, .str t.str] ∧ H o = some (.ins (cl .Machine) dx fs) ∧ FsOk fs Ah At As ∧ MacAt H Ah At As T ∧
  T.length + t.pairs ≤ 8000000 ∧ t.sg.length ≤ 1000000 ∧ ∀ (n : Nat) (T' : List Tr) H', Ext T T' → T'.length ≤ T.length + t.pairs → T'[n]? = some t → ButL [Ah, At, As] H H' → MacAt H' Ah At As T' → Q (.int n) H'
theorem ok_Machine_enter (T : Txt K mg cl w) (H_Machine_pair : HasM P w K (cl .Machine) mg base CX0 1 "pair" ["self", "first", "second"] (sp_Machine_pair K cl)) {f : Addr} {fd : FuncData} (F : Fun K "enter" "Machine.enter" s_Machine_enter f fd) : FnOk P w K mg base CX0 2 f fd ["self", "tree"] (sp_Machine_enter K cl) := by
  have m_reversed := T.m_reversed
  obtain ⟨g_Machine, c_Machine⟩ := T.m_Machine
  have n_heads := T.n_Machine_heads
  have n_tails := T.n_Machine_tails
  have n_sizes := T.n_Machine_sizes
  have n_at := T.n_Machine_at
  have n_registers := T.n_Machine_registers
  have n_plan := T.n_Machine_plan
  obtain ⟨f_Machine_pair, d_Machine_pair, G_Machine_pair, M_Machine_pair, b_Machine_pair⟩ := H_Machine_pair.ex
  refine F.ok sc_Machine_enter (fun vs H Q E h => ?_) (fun cdv A outer s H vs Q E hr h => ?_)
  · obtain ⟨o, dx, Ah, At, As, fs, T, t, rfl, _⟩ := h
    rfl
  · obtain ⟨o, dx, Ah, At, As, fs, T, t, rfl, ho, hf, hm, hz, hl, q⟩ := h
    have hsl : sizeLine = 16777216 := rfl
    refine ⟨_, (pss_cons (ps_set (i := 2) sc_Machine_enter.nd rfl (Or.inl rfl) (pe_lst pa_nil))
      (pss_cons (ps_for PassesOwn.never rfl (pi_revS (by rfl) m_reversed (pv 1)) (pg_name (i := 3) sc_Machine_enter.nd rfl (Or.inl rfl)) (pss_one (ps_if (pt_cmpR op_eq (pv 3) pe_str (nomark _)) (pss_cons (ps_set (i := 4) sc_Machine_enter.nd rfl (Or.inl rfl) (pe_bm0 PySem.F.plainAttrs_list PySem.F.slot_list_pop PySem.F.type_list_pop mt_pop (pv 2)))
      (pss_cons (ps_set (i := 5) sc_Machine_enter.nd rfl (Or.inl rfl) (pe_bm0 PySem.F.plainAttrs_list PySem.F.slot_list_pop PySem.F.type_list_pop mt_pop (pv 2)))
      (pss_one (ps_expr (pe_bm PySem.F.plainAttrs_list PySem.F.slot_list_append PySem.F.type_list_append mt_append (pv 2) (pa_cons (pe_meth (pv 0) c_Machine M_Machine_pair G_Machine_pair (hr.mono (by decide)) b_Machine_pair .nil pass0 (pa_cons (pv 4) (pa_cons (pv 5) pa_nil))) pa_nil)))))) (pss_one (ps_expr (pe_bm PySem.F.plainAttrs_list PySem.F.slot_list_append PySem.F.type_list_append mt_append (pv 2) (pa_cons pe_int pa_nil)))))))
      (pss_one (ps_ret (pe_ix (ix_list : IxR _ (rIxL K)) (pv 2) pe_int (fun _ _ => rfl)))))), ?_⟩
    refine ⟨(by show 0 ≤ sizeLine; omega), fun W nW => ?_⟩
    have sW := Same.upd (o := .lst []) nW
    have hW : upd H W (.lst []) W = some (.lst []) := upd_same
    have oA : o ∉ [Ah, At, As] := fun z => by
      obtain ⟨hs, ts, h1, h2, h3, g⟩ := hm.get
      simp only [List.mem_cons, List.not_mem_nil, or_false] at z
      rcases z with rfl | rfl | rfl
      · rw [h1] at ho; cases ho
      · rw [h2] at ho; cases ho
      · rw [h3] at ho; cases ho
    have nWs : W ∉ [Ah, At, As] := fun z => by
      obtain ⟨hs, ts, h1, h2, h3, g⟩ := hm.get
      simp only [List.mem_cons, List.not_mem_nil, or_false] at z
      rcases z with rfl | rfl | rfl
      · rw [h1] at nW; cases nW
      · rw [h2] at nW; cases nW
      · rw [h3] at nW; cases nW
    have hm0 : MacAt (upd H W (.lst [])) Ah At As T := hm.but (as := []) sW.butL (by simp) (by simp) (by simp)
    have b0 : ButL [Ah, At, As] H (upd H W (.lst [])) := sW.butL
    generalize upd H W (.lst []) = H1 at hW hm0 b0 ⊢
    refine ⟨_, rfl, t.str, rfl, (by show t.str.length ≤ sizeLine; rw [t.str_len]; omega), for_revS (fun a r σ H' => ∃ (x y z : Option V) (us T' : List Tr) (ns : List Nat), σ = [some (.ref o), some (.str t.str), some (.ref W), x, y, z] ∧ stO r = some us ∧ Nums T' ns us ∧ H' W = some (.lst (natsV ns.reverse)) ∧ Ext T T' ∧ T'.length ≤ T.length + r.count 49 ∧ ButL [Ah, At, As] H H' ∧ MacAt H' Ah At As T')
      ⟨_, _, _, [], T, [], rfl, rfl, .nil, hW, Ext.refl T, Nat.le_refl _, b0, hm0⟩ ?_ ?_⟩
    · rintro a c r σ H2 hcat ⟨x, y, z, us, T', ns, rfl, h1, h2, h3, h4, h5, h6, h7⟩
      have hcat : a ++ c :: r = t.sg := hcat
      have hlen : (a ++ c :: r).length = t.sg.length := by rw [hcat]
      rw [List.length_append, List.length_cons] at hlen
      have hcnt : r.count 49 ≤ t.pairs := by
        rw [← t.count_1, ← hcat, List.count_append, List.count_cons]
        omega
      have hul := stO_len r us h1
      have hnl := Paired.len h2
      have hrl : (natsV ns.reverse).length = ns.length := by rw [natsV_len, List.length_reverse]
      obtain ⟨vs, hv⟩ := stO_suf a (c :: r) [t] (by rw [hcat]; exact stO_one)
      have ho2 := h6 o _ oA ho
      refine ⟨_, rfl, rfl, _, rfl, ?_⟩
      have hc := t.sg_01 c (by rw [← hcat]; simp)
      rcases hc with rfl | rfl
      · refine iteNo (fun z => ?_) ?_
        · have z := stS_inj ((V.str.inj z).trans s1)
          cases z
        · obtain ⟨us2, e1, rfl⟩ := stO_48 hv
          rw [h1] at e1
          cases e1
          refine ⟨_, rfl, .inl ⟨rfl, _, SqL.of h3⟩, _, _, _, rfl, rfl, h3, (by omega), ?_⟩
          have e2 : natsV ns.reverse ++ [V.int 0] = natsV (0 :: ns).reverse := by
            rw [List.reverse_cons, ← natsV_app]
            rfl
          rw [e2]
          have pz := h7.get
          obtain ⟨hs, ts, _, _, _, g⟩ := pz
          refine ⟨_, _, _, _, T', 0 :: ns, rfl, hv, .cons g.z h2, upd_same, h4, by rw [List.count_cons]; omega, fun b o' nb eb => ?_, h7.but (ButL.upd (as := [W]) (List.mem_singleton.mpr rfl)) ?_ ?_ ?_⟩
          · rw [upd_ne (fun z => by rw [z, nW] at eb; cases eb)]
            exact h6 b o' nb eb
          · exact fun z => nWs (by rw [← List.mem_singleton.mp z]; simp)
          · exact fun z => nWs (by rw [← List.mem_singleton.mp z]; simp)
          · exact fun z => nWs (by rw [← List.mem_singleton.mp z]; simp)
      · refine iteS (congrArg V.str s1.symm) ?_
        obtain ⟨A, B, q', e1, rfl⟩ := stO_49 hv
        rw [h1] at e1
        cases e1
        cases h2 with
        | @cons n1 _ ns1 _ p1 h2 => cases h2 with
        | @cons n2 _ ns2 _ p2 h2 =>
        have e2 : (n1 :: n2 :: ns2).reverse = (ns2.reverse ++ [n2]) ++ [n1] := by rw [List.reverse_cons, List.reverse_cons]
        rw [e2] at h3
        refine ⟨_, rfl, .inl ⟨rfl, _, SqL.of h3⟩, _, _, _, rfl, rfl, h3, natsV_pop _ _, ?_⟩
        rw [natsV_drop]
        have h3b : upd H2 W (.lst (natsV (ns2.reverse ++ [n2]))) W = some (.lst (natsV (ns2.reverse ++ [n2]))) := upd_same
        refine ⟨_, rfl, .inl ⟨rfl, _, SqL.of h3b⟩, _, _, _, rfl, rfl, h3b, natsV_pop _ _, ?_⟩
        rw [natsV_drop]
        have b3 : ButL [W] H2 (upd (upd H2 W (.lst (natsV (ns2.reverse ++ [n2])))) W (.lst (natsV ns2.reverse))) := (ButL.upd (List.mem_singleton.mpr rfl)).trans (ButL.upd (List.mem_singleton.mpr rfl))
        have h3c : upd (upd H2 W (.lst (natsV (ns2.reverse ++ [n2])))) W (.lst (natsV ns2.reverse)) W = some (.lst (natsV ns2.reverse)) := upd_same
        generalize upd (upd H2 W (.lst (natsV (ns2.reverse ++ [n2])))) W (.lst (natsV ns2.reverse)) = H3 at b3 h3c ⊢
        have nW1 : ∀ b ∈ [Ah, At, As], b ∉ [W] := fun b hb z => nWs (by rw [← List.mem_singleton.mp z]; exact hb)
        have m3 := h7.but b3 (nW1 _ (by simp)) (nW1 _ (by simp)) (nW1 _ (by simp))
        have oW : o ∉ [W] := fun z => by rw [List.mem_singleton.mp z, nW] at ho; cases ho
        have ho3 := b3 o _ oW ho2
        have hcnt2 : (49 :: r).count 49 ≤ t.pairs := by
          rw [← t.count_1, ← hcat, List.count_append]
          omega
        have c49' := c49 r
        refine ⟨_, rfl, .inl ⟨rfl, _, SqL.of h3c⟩, _, rfl, _, _, _, rfl, ho3, hf.pair, _, rfl, _, rfl, o, dx, Ah, At, As, fs, T', n1, n2, A, B, rfl, ho3, hf, m3, p1, p2, by omega, fun H4 b4 m4 => ?_⟩
        have h3d := b4 W _ nWs h3c
        simp only [List.length_cons] at hul hnl
        have hl2 : (natsV ns2.reverse).length = ns2.length := by rw [natsV_len, List.length_reverse]
        refine ⟨_, _, _, rfl, rfl, h3d, (by omega), ?_⟩
        have e4 : natsV ns2.reverse ++ [V.int T'.length] = natsV (T'.length :: ns2).reverse := by
          rw [List.reverse_cons, ← natsV_app]
        rw [e4]
        have ex : Ext T' (T' ++ [.node A B]) := Ext.app _ _
        refine ⟨_, _, _, _, T' ++ [.node A B], T'.length :: ns2, rfl, hv, .cons ?_ (Nums.ext h2 ex), upd_same, h4.trans ex, ?_, fun b o' nb eb => ?_, m4.but (ButL.upd (as := [W]) (List.mem_singleton.mpr rfl)) (nW1 _ (by simp)) (nW1 _ (by simp)) (nW1 _ (by simp))⟩
        · rw [List.getElem?_append_right (Nat.le_refl _), Nat.sub_self]
          rfl
        · rw [List.length_append, List.length_singleton]
          omega
        · have nb2 : b ≠ W := fun z => by rw [z, nW] at eb; cases eb
          rw [upd_ne nb2]
          exact b4 b o' nb (b3 b o' (fun z => nb2 (List.mem_singleton.mp z)) (h6 b o' nb eb))
    · rintro σ H2 ⟨x, y, z, us, T', ns, rfl, h1, h2, h3, h4, h5, h6, h7⟩
      have h1 : stO t.sg = some us := h1
      rw [stO_one] at h1
      cases h1
      cases h2 with
      | @cons n _ ns1 _ p1 h2 =>
      cases h2
      have h5 : T'.length ≤ T.length + t.sg.count 49 := h5
      rw [t.count_1] at h5
      exact ⟨_, rfl, _, _, _, _, rfl, rfl, SqL.of h3, atI_nat (j := 0) rfl, q n T' H2 h4 h5 p1 h6 h7⟩
abbrev s_Machine_planned : Stmt := inClass (topS 65) 1
abbrev nm_Machine_planned : List Str := ["self", "index", "instruction", "word", "first"]
theorem sc_Machine_planned : FnScope nm_Machine_planned ["self", "index", "instruction"] (defScope s_Machine_planned) := ⟨rfl, rfl, rfl, by decide +kernel, rfl, by decide +kernel, by decide +kernel⟩
def sp_Machine_planned (K : PySem.W.Frag) (cl : Cn → Addr) : Sp := fun vs H Q E => ∃ (o dx Ah At As a : Addr) (fs : List (Str × V)) (T : List Tr) (i : Ins) (k : Int), vs = [.ref o, .int k, .ref a] ∧ H a = some (.tup i.vs) ∧ H o = some (.ins (cl .Machine) dx fs) ∧ FsOk fs Ah At As ∧ MacAt H Ah At As T ∧
  T.length + i.big ≤ 8000000 ∧ i.big ≤ 1000000 ∧ ∀ (n : Nat) (T' : List Tr) (p : Addr) H', Ext T T' → T'.length ≤ T.length + i.big → SetN T' i n → ButL [Ah, At, As] H H' → MacAt H' Ah At As T' → H' p = some (.tup (plV i k n)) → Q (.ref p) H'
theorem ok_Machine_planned (T : Txt K mg cl w) (H_Machine_enter : HasM P w K (cl .Machine) mg base CX0 2 "enter" ["self", "tree"] (sp_Machine_enter K cl)) {f : Addr} {fd : FuncData} (F : Fun K "planned" "Machine.planned" s_Machine_planned f fd) : FnOk P w K mg base CX0 3 f fd ["self", "index", "instruction"] (sp_Machine_planned K cl) := by
  obtain ⟨g_Machine, c_Machine⟩ := T.m_Machine
  have n_heads := T.n_Machine_heads
  have n_tails := T.n_Machine_tails
  have n_sizes := T.n_Machine_sizes
  have n_at := T.n_Machine_at
  have n_registers := T.n_Machine_registers
  have n_plan := T.n_Machine_plan
  obtain ⟨f_Machine_enter, d_Machine_enter, G_Machine_enter, M_Machine_enter, b_Machine_enter⟩ := H_Machine_enter.ex
  refine F.ok sc_Machine_planned (fun vs H Q E h => ?_) (fun cdv A outer s H vs Q E hr h => ?_)
  · obtain ⟨o, dx, Ah, At, As, a, fs, T, i, k, rfl, _⟩ := h
    rfl
  · obtain ⟨o, dx, Ah, At, As, a, fs, T, i, k, rfl, ha, ho, hf, hm, hz, hl, q⟩ := h
    have hsl : sizeLine = 16777216 := rfl
    refine ⟨_, (pss_cons (ps_set (i := 3) sc_Machine_planned.nd rfl (Or.inl rfl) (pe_ix (ix_tup : IxR _ (rIxT K)) (pv 2) pe_int (fun _ _ => rfl)))
      (pss_cons (ps_set (i := 4) sc_Machine_planned.nd rfl (Or.inl rfl) (pe_ix (ix_tup : IxR _ (rIxT K)) (pv 2) pe_int (fun _ _ => rfl)))
      (pss_cons (ps_if (pt_cmpR op_eq (pv 3) pe_str (nomark _)) (pss_one (ps_ret (pe_tup (pa_cons (pv 3) (pa_cons (pv 4) (pa_cons (pe_meth (pv 0) c_Machine M_Machine_enter G_Machine_enter (hr.mono (by decide)) b_Machine_enter .nil pass0 (pa_cons (pe_ix (ix_tup : IxR _ (rIxT K)) (pv 2) pe_int (fun _ _ => rfl)) pa_nil)) (pa_cons pe_int pa_nil))))))) pss_nil)
      (pss_cons (ps_if (pt_cmpR op_eq (pv 3) pe_str (nomark _)) (pss_one (ps_ret (pe_tup (pa_cons (pv 3) (pa_cons (pv 4) (pa_cons (pe_op op_add (pv 1) (pe_ix (ix_tup : IxR _ (rIxT K)) (pv 2) pe_int (fun _ _ => rfl))) (pa_cons pe_int pa_nil))))))) pss_nil)
      (pss_cons (ps_if (pt_cmpR op_eq (pv 3) pe_str (nomark _)) (pss_one (ps_ret (pe_tup (pa_cons (pv 3) (pa_cons (pv 4) (pa_cons (pe_ix (ix_tup : IxR _ (rIxT K)) (pv 2) pe_int (fun _ _ => rfl)) (pa_cons (pe_ix (ix_tup : IxR _ (rIxT K)) (pv 2) pe_int (fun _ _ => rfl)) pa_nil))))))) pss_nil)
      (pss_one (ps_ret (pe_tup (pa_cons (pv 3) (pa_cons (pv 4) (pa_cons (pe_ix (ix_tup : IxR _ (rIxT K)) (pv 2) pe_int (fun _ _ => rfl)) (pa_cons pe_int pa_nil)))))))))))), ?_⟩
    have new : ∀ (n : Nat) (T' : List Tr) (H1 : Hp) (p : Addr), Ext T T' → T'.length ≤ T.length + i.big → SetN T' i n → ButL [Ah, At, As] H H1 → MacAt H1 Ah At As T' → H1 p = none → Q (.ref p) (upd H1 p (.tup (plV i k n))) := fun n T' H1 p h1 h2 h3 h4 h5 np =>
      q n T' p _ h1 h2 h3 (h4.trans (Same.upd np).butL) (h5.but (as := []) (Same.upd np).butL (by simp) (by simp) (by simp)) upd_same
    have old := fun (p : Addr) (np : H p = none) (hs : SetN T i 0) => new 0 T H p (Ext.refl T) (Nat.le_add_right _ _) hs (ButL.refl _ _) hm np
    refine ⟨_, rfl, _, _, _, .str i.word, rfl, rfl, SqT.of ha, atI_nat (j := 0) rfl, _, rfl, _, _, _, _, rfl, rfl, SqT.of ha, atI_nat (j := 1) i.a_at, ?_⟩
    refine ⟨_, rfl, rfl, _, rfl, ?_⟩
    cases i with
    | set x t =>
      have hb : (Ins.set x t).big = t.sg.length := rfl
      have hp := pairs_le t
      refine iteS rfl ⟨_, rfl, _, rfl, _, rfl, _, _, _, rfl, ho, hf.enter, _, rfl, _, _, _, _, rfl, rfl, SqT.of ha, atI_nat (j := 2) rfl, ?_⟩
      refine ⟨o, dx, Ah, At, As, fs, T, t, rfl, ho, hf, hm, by omega, by omega, fun n T' H1 h1 h2 h3 h4 h5 => ⟨(by show 4 ≤ sizeLine; omega), fun p np => ?_⟩⟩
      exact new n T' H1 p h1 (by omega) (fun a' t' z => by cases z; exact h3) h4 h5 np
    | jump x m =>
      refine iteNo (by decide +kernel : ¬ V.str (Str.ofString "jump") = V.str (Str.ofString "set")) ⟨_, rfl, rfl, _, rfl, iteS rfl ⟨_, rfl, _, rfl, _, rfl, _, rfl, _, _, _, _, rfl, rfl, SqT.of ha, atI_nat (j := 2) rfl, _, _, rfl, rfl, (by show 4 ≤ sizeLine; omega), fun p np => ?_⟩⟩
      exact old p np fun a' t' z => by cases z
    | cons x b c =>
      refine iteNo (by decide +kernel : ¬ V.str (Str.ofString "cons") = V.str (Str.ofString "set")) ⟨_, rfl, rfl, _, rfl, iteNo (by decide +kernel : ¬ V.str (Str.ofString "cons") = V.str (Str.ofString "jump")) ⟨_, rfl, rfl, _, rfl, iteS rfl ⟨_, rfl, _, rfl, _, rfl, _, _, _, _, rfl, rfl, SqT.of ha, atI_nat (j := 2) rfl, _, rfl, _, _, _, _, rfl, rfl, SqT.of ha, atI_nat (j := 3) rfl, (by show 4 ≤ sizeLine; omega), fun p np => ?_⟩⟩⟩
      exact old p np fun a' t' z => by cases z
    | move x b =>
      refine iteNo (by decide +kernel : ¬ V.str (Str.ofString "move") = V.str (Str.ofString "set")) ⟨_, rfl, rfl, _, rfl, iteNo (by decide +kernel : ¬ V.str (Str.ofString "move") = V.str (Str.ofString "jump")) ⟨_, rfl, rfl, _, rfl, iteNo (by decide +kernel : ¬ V.str (Str.ofString "move") = V.str (Str.ofString "cons")) ⟨_, rfl, _, rfl, _, rfl, _, _, _, _, rfl, rfl, SqT.of ha, atI_nat (j := 2) rfl, (by show 4 ≤ sizeLine; omega), fun p np => ?_⟩⟩⟩
      exact old p np fun a' t' z => by cases z
    | head x b =>
      refine iteNo (by decide +kernel : ¬ V.str (Str.ofString "head") = V.str (Str.ofString "set")) ⟨_, rfl, rfl, _, rfl, iteNo (by decide +kernel : ¬ V.str (Str.ofString "head") = V.str (Str.ofString "jump")) ⟨_, rfl, rfl, _, rfl, iteNo (by decide +kernel : ¬ V.str (Str.ofString "head") = V.str (Str.ofString "cons")) ⟨_, rfl, _, rfl, _, rfl, _, _, _, _, rfl, rfl, SqT.of ha, atI_nat (j := 2) rfl, (by show 4 ≤ sizeLine; omega), fun p np => ?_⟩⟩⟩
      exact old p np fun a' t' z => by cases z
    | tail x b =>
      refine iteNo (by decide +kernel : ¬ V.str (Str.ofString "tail") = V.str (Str.ofString "set")) ⟨_, rfl, rfl, _, rfl, iteNo (by decide +kernel : ¬ V.str (Str.ofString "tail") = V.str (Str.ofString "jump")) ⟨_, rfl, rfl, _, rfl, iteNo (by decide +kernel : ¬ V.str (Str.ofString "tail") = V.str (Str.ofString "cons")) ⟨_, rfl, _, rfl, _, rfl, _, _, _, _, rfl, rfl, SqT.of ha, atI_nat (j := 2) rfl, (by show 4 ≤ sizeLine; omega), fun p np => ?_⟩⟩⟩
      exact old p np fun a' t' z => by cases z
abbrev s_Machine___init__ : Stmt := inClass (topS 65) 0
abbrev nm_Machine___init__ : List Str := ["self", "program", "x", "index", "instruction"]
theorem sc_Machine___init__ : FnScope nm_Machine___init__ ["self", "program", "x"] (defScope s_Machine___init__) := ⟨rfl, rfl, rfl, by decide +kernel, rfl, by decide +kernel, by decide +kernel⟩
def sp_Machine___init__ (K : PySem.W.Frag) (cl : Cn → Addr) : Sp := fun vs H Q E => ∃ (o dx p : Addr) (is : List Ins) (x : Tr), vs = [.ref o, .ref p, .str x.str] ∧ H o = some (.ins (cl .Machine) dx []) ∧ PgAt H p is ∧
  x.pairs + bigSum is ≤ 7000000 ∧ x.sg.length ≤ 1000000 ∧ is.length ≤ 1000 ∧ (∀ i ∈ is, i.big ≤ 1000000) ∧ ∀ (H' : Hp) (Ah At As R L : Addr) (T : List Tr) (ns : List Nat), ButL [o] H H' → (∀ a ∈ [Ah, At, As, R], H a = none) → MacF (cl .Machine) H' o dx Ah At As R L 0 T ns (x :: List.replicate 19 .leaf) is → T.length ≤ 1 + x.pairs + bigSum is → Q .non H'
theorem ok_Machine___init__ (T : Txt K mg cl w) (H_Machine_planned : HasM P w K (cl .Machine) mg base CX0 3 "planned" ["self", "index", "instruction"] (sp_Machine_planned K cl)) (H_Machine_enter : HasM P w K (cl .Machine) mg base CX0 2 "enter" ["self", "tree"] (sp_Machine_enter K cl)) {f : Addr} {fd : FuncData} (F : Fun K "__init__" "Machine.__init__" s_Machine___init__ f fd) : FnOk P w K mg base CX0 4 f fd ["self", "program", "x"] (sp_Machine___init__ K cl) := by
  obtain ⟨t_REGISTERS, m_REGISTERS⟩ := T.m_REGISTERS
  have m_enumerate := T.m_enumerate
  obtain ⟨g_Machine, c_Machine⟩ := T.m_Machine
  have n_heads := T.n_Machine_heads
  have n_tails := T.n_Machine_tails
  have n_sizes := T.n_Machine_sizes
  have n_at := T.n_Machine_at
  have n_registers := T.n_Machine_registers
  have n_plan := T.n_Machine_plan
  obtain ⟨f_Machine_planned, d_Machine_planned, G_Machine_planned, M_Machine_planned, b_Machine_planned⟩ := H_Machine_planned.ex
  obtain ⟨f_Machine_enter, d_Machine_enter, G_Machine_enter, M_Machine_enter, b_Machine_enter⟩ := H_Machine_enter.ex
  refine F.ok sc_Machine___init__ (fun vs H Q E h => ?_) (fun cdv A outer s H vs Q E hr h => ?_)
  · obtain ⟨o, dx, p, is, x, rfl, _⟩ := h
    rfl
  · obtain ⟨o, dx, p, is, x, rfl, ho, hp, hz, hl, hn, hb, q⟩ := h
    have hsl : sizeLine = 16777216 := rfl
    refine ⟨_, (pss_cons (ps_fld (pv 0) (pe_lst (pa_cons pe_int pa_nil)) rfl)
      (pss_cons (ps_fld (pv 0) (pe_lst (pa_cons pe_int pa_nil)) rfl)
      (pss_cons (ps_fld (pv 0) (pe_lst (pa_cons pe_int pa_nil)) rfl)
      (pss_cons (ps_fld (pv 0) pe_int rfl)
      (pss_cons (ps_fld (pv 0) (pe_op op_cat (pe_lst (pa_cons (pe_meth (pv 0) c_Machine M_Machine_enter G_Machine_enter (hr.mono (by decide)) b_Machine_enter .nil pass0 (pa_cons (pv 2) pa_nil)) pa_nil)) (pe_op op_rep (pe_lst (pa_cons pe_int pa_nil)) (pe_op op_sub (pe_glob (v := .int 20) (by rfl) m_REGISTERS ⟨_, rfl⟩) pe_int))) rfl)
      (pss_one (ps_fld (pv 0) (pe_lc (own := [("index", 3), ("instruction", 4)]) (g := gTup K 2 (gCons (gName 3) (gCons (gName 4) gNil))) (tt := tYes) rfl sc_Machine___init__.nd (pi_enum (by rfl) m_enumerate (pa_cons (pv 1) pa_nil)) (blkOk_by (N := nm_Machine___init__) (sc := defScope s_Machine___init__) (by decide +kernel)) (fun _ _ _ _ _ => (pg_tup rfl (pgs_cons (pg_name (i := 3) sc_Machine___init__.nd rfl (Or.inl rfl)) (pgs_cons (pg_name (i := 4) sc_Machine___init__.nd rfl (Or.inl rfl)) pgs_nil)))) (fun _ _ _ _ _ => pts_nil) (fun _ _ _ _ _ => (pe_meth (pv 0) c_Machine M_Machine_planned G_Machine_planned (hr.mono (by decide)) b_Machine_planned .nil pass0 (pa_cons (pv 3) (pa_cons (pv 4) pa_nil))))) rfl))))))), ?_⟩
    refine ⟨(by show 1 ≤ sizeLine; omega), fun Ah nAh => ⟨_, rfl, o, _, dx, _, rfl, (upd_ne (ne_of_none ho nAh)).trans ho, c_Machine, n_heads, (by show 0 < 1000; decide), ?_⟩⟩
    have b1 : ButL [o] H (upd (upd H Ah (.lst [.int 0])) o (.ins (cl .Machine) dx (putF "heads" (.ref Ah) []))) := (Same.upd nAh).butL.trans (ButL.upd (List.mem_singleton.mpr rfl))
    have o1 : upd (upd H Ah (.lst [.int 0])) o (.ins (cl .Machine) dx (putF "heads" (.ref Ah) [])) o = some (.ins (cl .Machine) dx (putF "heads" (.ref Ah) [])) := upd_same
    have a1 : upd (upd H Ah (.lst [.int 0])) o (.ins (cl .Machine) dx (putF "heads" (.ref Ah) [])) Ah = some (.lst [.int 0]) := (upd_ne (ne_of_none ho nAh).symm).trans upd_same
    generalize upd (upd H Ah (.lst [V.int 0])) o (.ins (cl .Machine) dx (putF "heads" (.ref Ah) [])) = H1 at b1 o1 a1 ⊢
    refine ⟨(by show 1 ≤ sizeLine; omega), fun At nAt => ⟨_, rfl, o, _, dx, _, rfl, (upd_ne (ne_of_none o1 nAt)).trans o1, c_Machine, n_tails, (by show 1 < 1000; decide), ?_⟩⟩
    have ht : Ah ≠ At := ne_of_none a1 nAt
    have noA : Ah ≠ o := fun z => by rw [z, o1] at a1; cases a1
    have b2 : ButL [o] H (upd (upd H1 At (.lst [.int 0])) o (.ins (cl .Machine) dx (putF "tails" (.ref At) (putF "heads" (.ref Ah) [])))) := b1.trans ((Same.upd nAt).butL.trans (ButL.upd (List.mem_singleton.mpr rfl)))
    have o2 : upd (upd H1 At (.lst [.int 0])) o (.ins (cl .Machine) dx (putF "tails" (.ref At) (putF "heads" (.ref Ah) []))) o = some (.ins (cl .Machine) dx (putF "tails" (.ref At) (putF "heads" (.ref Ah) []))) := upd_same
    have t2 : upd (upd H1 At (.lst [.int 0])) o (.ins (cl .Machine) dx (putF "tails" (.ref At) (putF "heads" (.ref Ah) []))) At = some (.lst [.int 0]) := (upd_ne (ne_of_none o1 nAt).symm).trans upd_same
    have a2 : upd (upd H1 At (.lst [.int 0])) o (.ins (cl .Machine) dx (putF "tails" (.ref At) (putF "heads" (.ref Ah) []))) Ah = some (.lst [.int 0]) := (upd_ne noA).trans ((upd_ne ht).trans a1)
    generalize upd (upd H1 At (.lst [V.int 0])) o (.ins (cl .Machine) dx (putF "tails" (.ref At) (putF "heads" (.ref Ah) []))) = H2 at b2 o2 t2 a2 ⊢
    refine ⟨(by show 1 ≤ sizeLine; omega), fun As nAs => ⟨_, rfl, o, _, dx, _, rfl, (upd_ne (ne_of_none o2 nAs)).trans o2, c_Machine, n_sizes, (by show 2 < 1000; decide), ?_⟩⟩
    have hs : Ah ≠ As := ne_of_none a2 nAs
    have ts : At ≠ As := ne_of_none t2 nAs
    have noT : At ≠ o := fun z => by rw [z, o2] at t2; cases t2
    have b3 : ButL [o] H (upd (upd H2 As (.lst [.int 1])) o (.ins (cl .Machine) dx (putF "sizes" (.ref As) (putF "tails" (.ref At) (putF "heads" (.ref Ah) []))))) := b2.trans ((Same.upd nAs).butL.trans (ButL.upd (List.mem_singleton.mpr rfl)))
    have o3 : upd (upd H2 As (.lst [.int 1])) o (.ins (cl .Machine) dx (putF "sizes" (.ref As) (putF "tails" (.ref At) (putF "heads" (.ref Ah) [])))) o = some (.ins (cl .Machine) dx (putF "sizes" (.ref As) (putF "tails" (.ref At) (putF "heads" (.ref Ah) [])))) := upd_same
    have s3 : upd (upd H2 As (.lst [.int 1])) o (.ins (cl .Machine) dx (putF "sizes" (.ref As) (putF "tails" (.ref At) (putF "heads" (.ref Ah) [])))) As = some (.lst [.int 1]) := (upd_ne (ne_of_none o2 nAs).symm).trans upd_same
    have a3 : upd (upd H2 As (.lst [.int 1])) o (.ins (cl .Machine) dx (putF "sizes" (.ref As) (putF "tails" (.ref At) (putF "heads" (.ref Ah) [])))) Ah = some (.lst [.int 0]) := (upd_ne noA).trans ((upd_ne hs).trans a2)
    have t3 : upd (upd H2 As (.lst [.int 1])) o (.ins (cl .Machine) dx (putF "sizes" (.ref As) (putF "tails" (.ref At) (putF "heads" (.ref Ah) [])))) At = some (.lst [.int 0]) := (upd_ne noT).trans ((upd_ne ts).trans t2)
    generalize upd (upd H2 As (.lst [V.int 1])) o (.ins (cl .Machine) dx (putF "sizes" (.ref As) (putF "tails" (.ref At) (putF "heads" (.ref Ah) [])))) = H3 at b3 o3 a3 t3 s3 ⊢
    have noS : As ≠ o := fun z => by rw [z, o3] at s3; cases s3
    refine ⟨_, rfl, o, _, dx, _, rfl, o3, c_Machine, n_at, (by show 3 < 1000; decide), ?_⟩
    have e4 := (congrArg (putF ("at" : Str) (.int 0)) (m3_new Ah At As)).trans (m4_new Ah At As 0)
    rw [e4]
    have b4 : ButL [o] H (upd H3 o (.ins (cl .Machine) dx (m3 Ah At As (mAt 0 [])))) := b3.trans (ButL.upd (List.mem_singleton.mpr rfl))
    have o4 : upd H3 o (.ins (cl .Machine) dx (m3 Ah At As (mAt 0 []))) o = some (.ins (cl .Machine) dx (m3 Ah At As (mAt 0 []))) := upd_same
    have m4 : MacAt (upd H3 o (.ins (cl .Machine) dx (m3 Ah At As (mAt 0 [])))) Ah At As [.leaf] := ⟨⟨[0], [0], (upd_ne noA).trans a3, (upd_ne noT).trans t3, (upd_ne noS).trans s3, Tb.new⟩, ht, hs, ts⟩
    generalize upd H3 o (.ins (cl .Machine) dx (m3 Ah At As (mAt 0 []))) = H4 at b4 o4 m4 ⊢
    refine ⟨_, rfl, _, _, _, rfl, o4, (m4_ok Ah At As 0).enter, _, rfl, o, dx, Ah, At, As, _, [.leaf], x, rfl, o4, m4_ok Ah At As 0, m4, (by show 1 + x.pairs ≤ _; omega), hl, fun n T1 H5 x1 l1 h1x b5 m5 => ?_⟩
    have o5 := b5 o _ (ins_not m4 o4) o4
    have l1 : T1.length ≤ 1 + x.pairs := l1
    have zs : [V.int n] ++ (List.replicate ((20 : Int) - 1).toNat [V.int 0]).flatten = natsV (n :: List.replicate 19 0) := rfl
    refine ⟨(by show 1 ≤ sizeLine; omega), fun p1 np1 => ?_⟩
    have q1 : upd H5 p1 (.lst [.int n]) p1 = some (.lst [.int n]) := upd_same
    have sm1 := Same.upd (o := .lst [.int n]) np1
    generalize upd H5 p1 (.lst [V.int n]) = H6 at q1 sm1 ⊢
    refine ⟨(by show 1 ≤ sizeLine; omega), fun p2 np2 => ?_⟩
    have q2 : upd H6 p2 (.lst [.int 0]) p2 = some (.lst [.int 0]) := upd_same
    have sm2 := Same.upd (o := .lst [.int 0]) np2
    generalize upd H6 p2 (.lst [V.int 0]) = H7 at q2 sm2 ⊢
    refine ⟨_, _, rfl, rfl, _, _, _, rfl, rfl, q2, (by omega), (by omega), (by show 1 * 19 ≤ sizeLine; omega), fun p3 np3 => ?_⟩
    have q3 : upd H7 p3 (.lst (List.replicate ((20 : Int) - 1).toNat [V.int 0]).flatten) p3 = some (.lst (List.replicate ((20 : Int) - 1).toNat [V.int 0]).flatten) := upd_same
    have sm3 := Same.upd (o := .lst (List.replicate ((20 : Int) - 1).toNat [V.int 0]).flatten) np3
    generalize upd H7 p3 (.lst (List.replicate ((20 : Int) - 1).toNat [V.int 0]).flatten) = H8 at q3 sm3 ⊢
    refine ⟨_, _, _, _, rfl, rfl, sm3 _ _ (sm2 _ _ q1), q3, (by show 1 + 19 ≤ sizeLine; omega), fun R nR => ?_⟩
    rw [zs]
    have sm4 := ((sm1.trans sm2).trans sm3).trans (Same.upd (o := .lst (natsV (n :: List.replicate 19 0))) nR)
    have q4 : upd H8 R (.lst (natsV (n :: List.replicate 19 0))) R = some (.lst (natsV (n :: List.replicate 19 0))) := upd_same
    have nR5 : H5 R = none := by
      cases e : H5 R with
      | none => rfl
      | some u => rw [((sm1.trans sm2).trans sm3) R u e] at nR; cases nR
    generalize upd H8 R (.lst (natsV (n :: List.replicate 19 0))) = H9 at q4 sm4 ⊢
    have o9 := sm4 _ _ o5
    have nRs := none_not m5 nR5
    have nRo : R ≠ o := fun z => by rw [z, o5] at nR5; cases nR5
    refine ⟨_, rfl, o, _, dx, _, rfl, o9, c_Machine, n_registers, (by show 4 < 1000; decide), ?_⟩
    rw [m5_new]
    have m9 := m5.but (as := []) sm4.butL (by simp) (by simp) (by simp)
    have gone : ∀ {X : Hp} {a : Addr}, ButL [o] H X → X a = none → a ≠ o → H a = none := fun {X a} bx hx na => by
      cases e : H a with
      | none => rfl
      | some u =>
        rw [bx a u (fun z => na (List.mem_singleton.mp z)) e] at hx
        cases hx
    have hT0 := gone b1 nAt noT
    have hS0 := gone b2 nAs noS
    have b5H : ButL [o] H H5 := fun b u nb e => by
      refine b5 b u (fun z => ?_) (b4 b u nb e)
      simp only [List.mem_cons, List.not_mem_nil, or_false] at z
      rcases z with rfl | rfl | rfl
      · rw [nAh] at e; cases e
      · rw [hT0] at e; cases e
      · rw [hS0] at e; cases e
    have b9 : ButL [o] H (upd H9 o (.ins (cl .Machine) dx (m3 Ah At As (mAt 0 (mRg R []))))) := (b5H.trans sm4.butL).trans (ButL.upd (List.mem_singleton.mpr rfl))
    have oA : o ∉ [Ah, At, As] := ins_not m5 o5
    have hR0 := gone b5H nR5 nRo
    have hnew : ∀ a ∈ [Ah, At, As, R], H a = none := fun a z => by
      simp only [List.mem_cons, List.not_mem_nil, or_false] at z
      rcases z with rfl | rfl | rfl | rfl
      · exact nAh
      · exact hT0
      · exact hS0
      · exact hR0
    have m10 : MacAt (upd H9 o (.ins (cl .Machine) dx (m3 Ah At As (mAt 0 (mRg R []))))) Ah At As T1 := m9.but (as := [o]) (ButL.upd (List.mem_singleton.mpr rfl)) (fun z => noA (List.mem_singleton.mp z)) (fun z => noT (List.mem_singleton.mp z)) (fun z => noS (List.mem_singleton.mp z))
    have o10 : upd H9 o (.ins (cl .Machine) dx (m3 Ah At As (mAt 0 (mRg R [])))) o = some (.ins (cl .Machine) dx (m3 Ah At As (mAt 0 (mRg R [])))) := upd_same
    have r10 : upd H9 o (.ins (cl .Machine) dx (m3 Ah At As (mAt 0 (mRg R [])))) R = some (.lst (natsV (n :: List.replicate 19 0))) := (upd_ne nRo).trans q4
    generalize upd H9 o (.ins (cl .Machine) dx (m3 Ah At As (mAt 0 (mRg R [])))) = H10 at b9 m10 o10 r10 ⊢
    have hp10 : PgAt H10 p is := by
      obtain ⟨as, g1, g2⟩ := hp
      refine ⟨as, b9 p _ (fun z => ?_) g1, Paired.imp (fun a i e => b9 a _ (fun z => ?_) e) g2⟩
      · rw [List.mem_singleton.mp z, ho] at g1; cases g1
      · rw [List.mem_singleton.mp z, ho] at e; cases e
    have pA : p ∉ [Ah, At, As] := fun z => by
      obtain ⟨as, g1, g2⟩ := hp
      simp only [List.mem_cons, List.not_mem_nil, or_false] at z
      rcases z with rfl | rfl | rfl
      · rw [nAh] at g1; cases g1
      · rw [hT0] at g1; cases g1
      · rw [hS0] at g1; cases g1
    obtain ⟨xs, hx, hlen, hget⟩ := hp10.get
    refine ⟨_, rfl, p, xs, rfl, SqL.of hx, fun D nD => lc_it (walk_enum (K := K) (a := p) (xs := xs)) (fun j H' => ∃ (T' : List Tr) (qs : List Addr), Ext T1 T' ∧ T'.length ≤ T1.length + bigSum (is.take j) ∧ ButL [Ah, At, As] H10 H' ∧ MacAt H' Ah At As T' ∧ H' D = some (.lst (qs.map V.ref)) ∧ qs.length = j ∧ PlAt H' T' qs (is.take j)) ?_ ?_ ?_ ?_⟩
    · exact ⟨T1, [], Ext.refl _, Nat.le_refl _, (Same.upd nD).butL, m10.but (as := []) (Same.upd nD).butL (by simp) (by simp) (by simp), upd_same, rfl, fun j i hi => by cases hi⟩
    · rintro j H' _ ⟨T', qs, h1, h2, h3, h4, h5, h6, h7⟩
      exact SqL.of (h3 p _ pA hx)
    · rintro j y H1' H2' hj ⟨T', qs, h1, h2, h3, h4, h5, h6, h7⟩ ⟨W, x1, y, rfl, nW, rfl, hx1, hy⟩
      cases hx1
      rw [hlen] at hj
      have hix := List.getElem?_eq_getElem hj
      have hmem := List.getElem_mem hj
      generalize is[j] = i at hix hmem
      obtain ⟨a, ha1, ha⟩ := hget j i hix
      cases ha1.symm.trans hy
      have sW := Same.upd (o := .tup [.int (j : Nat), .ref a]) nW
      have hW : upd H1' W (.tup [.int (j : Nat), .ref a]) W = some (.tup [.int (j : Nat), .ref a]) := upd_same
      generalize upd H1' W (.tup [V.int (j : Nat), V.ref a]) = H2' at sW hW ⊢
      refine ⟨W, [.int (j : Nat), .ref a], rfl, SqT.of hW, rfl, _, _, rfl, _, _, rfl, rfl, ?_⟩
      refine ⟨rfl, ?_⟩
      simp only [tYes, ↓reduceIte]
      have m2 := h4.but (as := []) sW.butL (by simp) (by simp) (by simp)
      have ha' := sW _ _ (h3 _ _ (tup_not m10 ha) ha)
      have o2 := sW _ _ (h3 _ _ oA o10)
      have hbs := bigSum_take hix
      have hble := bigSum_le is (j + 1)
      have hbi := hb i hmem
      refine ⟨_, rfl, _, _, _, rfl, o2, (m5_ok Ah At As R 0).planned, _, rfl, _, rfl, o, dx, Ah, At, As, a, _, T', i, j, rfl, ha', o2, m5_ok Ah At As R 0, m2, by omega, hbi, fun n1 T2 q1 H3' x2 l2 sn b3' m3' e3' => ?_⟩
      have hD3 := b3' D _ (none_not m10 nD) (sW _ _ h5)
      refine ⟨_, hD3, (by rw [List.length_map]; omega), T2, qs ++ [q1], h1.trans x2, by omega, ?_, ?_, ?_, ?_, ?_⟩
      · have nDA := none_not m10 nD
        refine fun b u nb e => ?_
        have nb2 : b ≠ D := fun z => by rw [z, nD] at e; cases e
        rw [upd_ne nb2]
        exact b3' b u nb (sW b u (h3 b u nb e))
      · exact m3'.but (ButL.upd (as := [D]) (List.mem_singleton.mpr rfl)) (fun z => none_not m10 nD (by rw [← List.mem_singleton.mp z]; simp)) (fun z => none_not m10 nD (by rw [← List.mem_singleton.mp z]; simp)) (fun z => none_not m10 nD (by rw [← List.mem_singleton.mp z]; simp))
      · rw [List.map_append]
        exact upd_same
      · rw [List.length_append, h6]
        rfl
      · have keep : ∀ (q : Addr) (ys : List V), H1' q = some (.tup ys) → upd H3' D (.lst (List.map V.ref qs ++ [V.ref q1])) q = some (.tup ys) := fun q ys e => by
          have nq : q ≠ D := fun z => by rw [z, h5] at e; cases e
          rw [upd_ne nq]
          exact b3' q _ (tup_not m2 (sW _ _ e)) (sW _ _ e)
        have old := h7.on keep x2
        intro k u hu
        have hku := (List.getElem?_eq_some_iff.mp hu).1
        rw [List.length_take] at hku
        by_cases c : k < j
        · rw [List.getElem?_take_of_lt (by omega)] at hu
          obtain ⟨q2, n2, g1, g2, g3⟩ := old k u (by rw [List.getElem?_take_of_lt c]; exact hu)
          exact ⟨q2, n2, by rw [List.getElem?_append_left (by omega)]; exact g1, g2, g3⟩
        · have ek : k = j := by omega
          subst ek
          rw [List.getElem?_take_of_lt (by omega), hix] at hu
          cases hu
          refine ⟨q1, n1, by rw [List.getElem?_append_right (by omega), h6, Nat.sub_self]; rfl, ?_, sn⟩
          have nq : q1 ≠ D := fun z => by rw [z, hD3] at e3'; cases e3'
          rw [upd_ne nq]
          exact e3'
    · rintro H' ⟨T', qs, h1, h2, h3, h4, h5, h6, h7⟩
      rw [hlen] at h2 h6 h7
      have o' := h3 _ _ oA o10
      refine ⟨_, rfl, o, _, dx, _, rfl, o', c_Machine, n_plan, (by show 5 < 1000; decide), ?_⟩
      rw [m6_new]
      rw [List.take_of_length_le (Nat.le_refl _)] at h2 h7
      have hR : H' R = some (.lst (natsV (n :: List.replicate 19 0))) := h3 R _ nRs r10
      have nDo : D ≠ o := fun z => by rw [z, o10] at nD; cases nD
      have nRD : R ≠ D := fun z => by rw [← z, r10] at nD; cases nD
      obtain ⟨hs', ts', _, _, _, gT⟩ := h4.get
      refine q _ Ah At As R D T' (n :: List.replicate 19 0) ?_ hnew ⟨upd_same, h4.but (as := [o]) (ButL.upd (List.mem_singleton.mpr rfl)) (fun z => noA (List.mem_singleton.mp z)) (fun z => noT (List.mem_singleton.mp z)) (fun z => noS (List.mem_singleton.mp z)), (upd_ne nRo).trans hR, .cons (h1 _ _ h1x) ?_, ⟨qs, (upd_ne nDo).trans h5, h6, h7.on (fun q ys e => ?_) (Ext.refl _)⟩, nRs, none_not m10 nD, nRD⟩ (by omega)
      · refine fun b u nb e => ?_
        have nbo : b ≠ o := fun z => nb (List.mem_singleton.mpr z)
        rw [upd_ne nbo]
        refine h3 b u (fun z => ?_) (b9 b u nb e)
        simp only [List.mem_cons, List.not_mem_nil, or_false] at z
        rcases z with rfl | rfl | rfl
        · rw [nAh] at e; cases e
        · rw [hT0] at e; cases e
        · rw [hS0] at e; cases e
      · exact nums_0 gT.z 19
      · have nq : q ≠ o := fun z => by rw [z, o'] at e; cases e
        rw [upd_ne nq]
        exact e
abbrev s_Machine_joined : Stmt := inClass (topS 65) 4
abbrev nm_Machine_joined : List Str := ["self", "first", "second"]
theorem sc_Machine_joined : FnScope nm_Machine_joined ["self", "first", "second"] (defScope s_Machine_joined) := ⟨rfl, rfl, rfl, by decide +kernel, rfl, by decide +kernel, by decide +kernel⟩
def sp_Machine_joined (K : PySem.W.Frag) (cl : Cn → Addr) : Sp := fun vs H Q E => ∃ (o dx Ah At As : Addr) (fs : List (Str × V)) (T : List Tr) (a b : Nat) (s t : Tr), vs = [.ref o, .int a, .int b] ∧ H o = some (.ins (cl .Machine) dx fs) ∧ FsOk fs Ah At As ∧ MacAt H Ah At As T ∧
  T[a]? = some s ∧ T[b]? = some t ∧ T.length + 1 ≤ sizeLine ∧ (200000 < (Tr.node s t).sg.length → E (.ref (cl .TooLarge)) none H) ∧
  ((Tr.node s t).sg.length ≤ 200000 → ∀ H', ButL [Ah, At, As] H H' → MacAt H' Ah At As (T ++ [.node s t]) → Q (.int T.length) H')
theorem ok_Machine_joined (T : Txt K mg cl w) (H_Machine_pair : HasM P w K (cl .Machine) mg base CX0 1 "pair" ["self", "first", "second"] (sp_Machine_pair K cl)) {f : Addr} {fd : FuncData} (F : Fun K "joined" "Machine.joined" s_Machine_joined f fd) : FnOk P w K mg base (L2.CX P w) 2 f fd ["self", "first", "second"] (sp_Machine_joined K cl) := by
  obtain ⟨t_MOST_TREE, m_MOST_TREE⟩ := T.m_MOST_TREE
  obtain ⟨g_TooLarge, x_TooLarge⟩ := T.e_TooLarge
  obtain ⟨g_Machine, c_Machine⟩ := T.m_Machine
  have n_heads := T.n_Machine_heads
  have n_tails := T.n_Machine_tails
  have n_sizes := T.n_Machine_sizes
  have n_at := T.n_Machine_at
  have n_registers := T.n_Machine_registers
  have n_plan := T.n_Machine_plan
  obtain ⟨f_Machine_pair, d_Machine_pair, G_Machine_pair, M_Machine_pair, b_Machine_pair⟩ := H_Machine_pair.ex
  refine F.okX sc_Machine_joined (fun vs H Q E h => ?_) (fun cdv A outer s H vs Q E hr h => ?_)
  · obtain ⟨o, dx, Ah, At, As, fs, T, a, b, s, t, rfl, _⟩ := h
    rfl
  · obtain ⟨o, dx, Ah, At, As, fs, T, a, b, s, t, rfl, ho, hf, hm, ha, hb, hz, e, q⟩ := h
    refine ⟨_, (pss_cons (ps_if (pt_cmpR op_gt (pe_op op_add (pe_op op_add pe_int (pe_ix (ix_list : IxR _ (rIxL K)) (pe_fld (pv 0) rfl) (pv 1) (fun _ _ => rfl))) (pe_ix (ix_list : IxR _ (rIxL K)) (pe_fld (pv 0) rfl) (pv 2) (fun _ _ => rfl))) (pe_glob (v := .int 200000) (by rfl) m_MOST_TREE ⟨_, rfl⟩) (nomark _)) (pss_one (ps_raise rfl (takes_of rfl rfl rfl rfl) (pmk_own PySem.F.excBase_ValueError x_TooLarge.x g_TooLarge x_TooLarge.k (raises_own x_TooLarge.b x_TooLarge.t) (by exact rfl)))) pss_nil)
      (pss_one (ps_ret (pe_meth (pv 0) c_Machine M_Machine_pair G_Machine_pair (hr.mono (by decide)) b_Machine_pair .nil pass0 (pa_cons (pv 1) (pa_cons (pv 2) pa_nil)))))), ?_⟩
    obtain ⟨hs, ts, h1, h2, h3, g⟩ := hm.get
    have hn := node_len s t
    refine ⟨_, rfl, _, _, _, _, _, rfl, ho, c_Machine, n_sizes, hf.s, _, rfl, _, _, _, _, rfl, rfl, SqL.of h3, sizV_at ha, _, _, rfl, rfl, _, rfl, _, _, _, _, _, rfl, ho, c_Machine, n_sizes, hf.s, _, rfl, _, _, _, _, rfl, rfl, SqL.of h3, sizV_at hb, _, _, rfl, rfl, _, _, rfl, rfl, _, rfl, ?_⟩
    refine ite2 (fun c => ?_) (fun c => ?_)
    · have := of_decide_eq_true c
      exact e (by omega)
    · have h2 : ¬ (200000 : Int) < 1 + (s.sg.length : Int) + (t.sg.length : Int) := fun z => c (decide_eq_true z)
      exact ⟨_, rfl, _, _, _, rfl, ho, hf.pair, _, rfl, _, rfl, o, dx, Ah, At, As, fs, T, a, b, s, t, rfl, ho, hf, hm, ha, hb, hz, q (by omega)⟩
abbrev s_Machine_advance : Stmt := inClass (topS 65) 5
abbrev nm_Machine_advance : List Str := ["self", "steps", "heads", "tails", "registers", "plan", "done", "word", "a", "b", "c"]
theorem sc_Machine_advance : FnScope nm_Machine_advance ["self", "steps"] (defScope s_Machine_advance) := ⟨rfl, rfl, rfl, by decide +kernel, rfl, by decide +kernel, by decide +kernel⟩
def sp_Machine_advance (K : PySem.W.Frag) (cl : Cn → Addr) : Sp := fun vs H Q E => ∃ (o dx Ah At As R L : Addr) (k steps : Nat) (T : List Tr) (ns : List Nat) (rs : List Tr) (is : List Ins), vs = [.ref o, .int steps] ∧ MacF (cl .Machine) H o dx Ah At As R L k T ns rs is ∧ k ≤ is.length ∧
  JOk is ∧ (∀ i ∈ is, i.below rs.length) ∧ T.length + steps ≤ 8000000 ∧
  (∀ (k' d : Nat) (rs' : List Tr), go is steps k rs = some (k', rs', d) → ∀ (H' : Hp) (T' : List Tr) (ns' : List Nat), ButL [o, Ah, At, As, R] H H' → MacF (cl .Machine) H' o dx Ah At As R L k' T' ns' rs' is → T'.length ≤ T.length + steps → k' ≤ is.length → rs'.length = rs.length → Q (.int d) H') ∧
  (go is steps k rs = none → ∀ H', ButL [o, Ah, At, As, R] H H' → E (.ref (cl .TooLarge)) none H')
theorem ok_Machine_advance (T : Txt K mg cl w) (H_Machine_joined : HasM P w K (cl .Machine) mg base (L2.CX P w) 2 "joined" ["self", "first", "second"] (sp_Machine_joined K cl)) {f : Addr} {fd : FuncData} (F : Fun K "advance" "Machine.advance" s_Machine_advance f fd) : FnOk P w K mg base (L2.CX P w) 3 f fd ["self", "steps"] (sp_Machine_advance K cl) := by
  have m_range := T.m_range
  have m_len := T.m_len
  obtain ⟨g_Machine, c_Machine⟩ := T.m_Machine
  have n_heads := T.n_Machine_heads
  have n_tails := T.n_Machine_tails
  have n_sizes := T.n_Machine_sizes
  have n_at := T.n_Machine_at
  have n_registers := T.n_Machine_registers
  have n_plan := T.n_Machine_plan
  obtain ⟨f_Machine_joined, d_Machine_joined, G_Machine_joined, M_Machine_joined, b_Machine_joined⟩ := H_Machine_joined.ex
  refine F.okX sc_Machine_advance (fun vs H Q E h => ?_) (fun cdv A outer s H vs Q E hr h => ?_)
  · obtain ⟨o, dx, Ah, At, As, R, L, k, steps, T, ns, rs, is, rfl, _⟩ := h
    rfl
  · obtain ⟨o, dx, Ah, At, As, R, L, k, steps, T, ns, rs, is, rfl, hM, hk, hj, hb, hz, q, e⟩ := h
    have hsl : sizeLine = 16777216 := rfl
    refine ⟨_, (pss_cons (ps_set (i := 2) sc_Machine_advance.nd rfl (Or.inl rfl) (pe_fld (pv 0) rfl))
      (pss_cons (ps_set (i := 3) sc_Machine_advance.nd rfl (Or.inl rfl) (pe_fld (pv 0) rfl))
      (pss_cons (ps_set (i := 4) sc_Machine_advance.nd rfl (Or.inl rfl) (pe_fld (pv 0) rfl))
      (pss_cons (ps_set (i := 5) sc_Machine_advance.nd rfl (Or.inl rfl) (pe_fld (pv 0) rfl))
      (pss_cons (ps_for (passes_of rfl) rfl (pi_range1 (by rfl) m_range (pa_cons (pv 1) pa_nil)) (pg_name (i := 6) sc_Machine_advance.nd rfl (Or.inl rfl)) (pss_cons (ps_if (pt_cmpR op_eq (pe_fld (pv 0) rfl) (pe_callB (call_lenS : CallR _ _ (rLenS K)) (by rfl) m_len (by decide +kernel) (pa_cons (pv 5) pa_nil)) (nomark _)) (pss_one (ps_ret (pv 6))) pss_nil)
      (pss_cons (ps_asg (pe_ix (ix_list : IxR _ (rIxL K)) (pv 5) (pe_fld (pv 0) rfl) (fun _ _ => rfl)) (pg_tup rfl (pgs_cons (pg_name (i := 7) sc_Machine_advance.nd rfl (Or.inl rfl)) (pgs_cons (pg_name (i := 8) sc_Machine_advance.nd rfl (Or.inl rfl)) (pgs_cons (pg_name (i := 9) sc_Machine_advance.nd rfl (Or.inl rfl)) (pgs_cons (pg_name (i := 10) sc_Machine_advance.nd rfl (Or.inl rfl)) pgs_nil))))))
      (pss_cons (ps_fldaug (pv 0) pe_int iop_add)
      (pss_one (ps_if (pt_cmpR op_eq (pv 7) pe_str (nomark _)) (pss_one (ps_asg (pe_ix (ix_list : IxR _ (rIxL K)) (pv 2) (pe_ix (ix_list : IxR _ (rIxL K)) (pv 4) (pv 9) (fun _ _ => rfl)) (fun _ _ => rfl)) (pg_sub (pv 4) (pv 8) set_list))) (pss_one (ps_if (pt_cmpR op_eq (pv 7) pe_str (nomark _)) (pss_one (ps_asg (pe_ix (ix_list : IxR _ (rIxL K)) (pv 3) (pe_ix (ix_list : IxR _ (rIxL K)) (pv 4) (pv 9) (fun _ _ => rfl)) (fun _ _ => rfl)) (pg_sub (pv 4) (pv 8) set_list))) (pss_one (ps_if (pt_cmpR op_eq (pv 7) pe_str (nomark _)) (pss_one (ps_asg (pe_mS (pv 0) c_Machine M_Machine_joined G_Machine_joined (hr.mono (by decide)) b_Machine_joined (fun σ => passAt (takes_of rfl rfl rfl rfl) σ) (pa_cons (pe_ix (ix_list : IxR _ (rIxL K)) (pv 4) (pv 9) (fun _ _ => rfl)) (pa_cons (pe_ix (ix_list : IxR _ (rIxL K)) (pv 4) (pv 10) (fun _ _ => rfl)) pa_nil))) (pg_sub (pv 4) (pv 8) set_list))) (pss_one (ps_if (pt_cmpR op_eq (pv 7) pe_str (nomark _)) (pss_one (ps_asg (pe_ix (ix_list : IxR _ (rIxL K)) (pv 4) (pv 9) (fun _ _ => rfl)) (pg_sub (pv 4) (pv 8) set_list))) (pss_one (ps_if (pt_cmpR op_eq (pv 7) pe_str (nomark _)) (pss_one (ps_asg (pv 9) (pg_sub (pv 4) (pv 8) set_list))) (pss_one (ps_if (pt_cmpR op_ne (pe_ix (ix_list : IxR _ (rIxL K)) (pv 4) (pv 8) (fun _ _ => rfl)) pe_int (nomark _)) (pss_one (ps_fld (pv 0) (pv 9) rfl)) pss_nil))))))))))))))))
      (pss_one (ps_ret (pv 1)))))))), ?_⟩
    have f0 := m6_ok Ah At As R L k
    refine ⟨_, rfl, _, _, _, _, _, rfl, hM.ob, c_Machine, n_heads, f0.h, ?_⟩
    refine ⟨_, rfl, _, _, _, _, _, rfl, hM.ob, c_Machine, n_tails, f0.t, ?_⟩
    refine ⟨_, rfl, _, _, _, _, _, rfl, hM.ob, c_Machine, n_registers, m6_rg Ah At As R L k, ?_⟩
    refine ⟨_, rfl, _, _, _, _, _, rfl, hM.ob, c_Machine, n_plan, m6_pl Ah At As R L k, ?_⟩
    have inc : ∀ b, b ∉ [o, Ah, At, As, R] → b ∉ [Ah, At, As] := fun b nb z => nb (by
      simp only [List.mem_cons, List.not_mem_nil, or_false] at z ⊢
      rcases z with rfl | rfl | rfl
      · exact .inr (.inl rfl)
      · exact .inr (.inr (.inl rfl))
      · exact .inr (.inr (.inr (.inl rfl))))
    have up : ∀ {X Y : Hp}, ButL [Ah, At, As] X Y → ButL [o, Ah, At, As, R] X Y := fun {X Y} b c u nb e => b c u (inc c nb) e
    refine ⟨_, rfl, steps, rfl, (by omega), (by omega), for_range (fun j σ H' => ∃ (k' : Nat) (T' : List Tr) (ns' : List Nat) (rs' : List Tr) (w0 w1 w2 w3 w4 : Option V), σ = [some (.ref o), some (.int steps), some (.ref Ah), some (.ref At), some (.ref R), some (.ref L), w0, w1, w2, w3, w4] ∧ MacF (cl .Machine) H' o dx Ah At As R L k' T' ns' rs' is ∧ k' ≤ is.length ∧ rs'.length = rs.length ∧ T'.length ≤ T.length + j ∧ ButL [o, Ah, At, As, R] H H' ∧ go is steps k rs = addN j (go is (steps - j) k' rs'))
      ⟨k, T, ns, rs, _, _, _, _, _, rfl, hM, hk, rfl, Nat.le_refl _, ButL.refl _ _, (addN_0 _).symm⟩ ?_ ?_⟩
    · rintro j σ H' hjs ⟨k', T', ns', rs', w0, w1, w2, w3, w4, rfl, hM', hk', hrl, hTl, hB, hgo⟩
      obtain ⟨qs, e1, e2, e3⟩ := hM'.pl
      refine ⟨_, rfl, _, _, _, _, _, rfl, hM'.ob, c_Machine, n_at, m6_at Ah At As R L k', _, rfl, _, _, rfl, .inl (SqL.of e1), rfl, _, rfl, ?_⟩
      by_cases c : k' = is.length
      · refine iteS (by rw [List.length_map, e2, c]) ⟨_, rfl, ?_⟩
        have hend : go is (steps - j) k' rs' = some (k', rs', 0) := go_end (List.getElem?_eq_none (by omega))
        rw [hend] at hgo
        have := q k' j rs' (by rw [hgo]; show some _ = _; simp) H' T' ns' hB hM' (by omega) hk' hrl
        have e0 : ((0 : Int) + (j : Int)) = (j : Int) := by omega
        rw [← e0] at this
        exact this
      refine iteNo (fun z => c (by have := V.int.inj z; rw [List.length_map, e2] at this; omega)) ?_
      have hk2 : k' < is.length := by omega
      have hix := List.getElem?_eq_getElem hk2
      have hmem := List.getElem_mem hk2
      generalize is[k'] = i at hix hmem
      obtain ⟨qa, n, g1, g2, g3⟩ := e3 k' i hix
      rw [plV_is] at g2
      have g1' : (qs.map V.ref)[k']? = some (.ref qa) := by
        rw [List.getElem?_map, g1]
        rfl
      refine ⟨_, rfl, _, rfl, _, _, _, _, _, rfl, hM'.ob, c_Machine, n_at, m6_at Ah At As R L k', _, _, _, _, rfl, rfl, SqL.of e1, atI_nat (j := k') g1', ?_⟩
      refine ⟨qa, _, rfl, SqT.of g2, rfl, _, _, rfl, _, _, rfl, _, _, rfl, _, _, rfl, rfl, ?_⟩
      refine ⟨_, rfl, o, _, dx, _, _, rfl, hM'.ob, c_Machine, n_at, m6_at Ah At As R L k', _, _, rfl, rfl, dx, _, hM'.ob, (by show 6 < 1000; decide), ?_⟩
      have ek : ((k' : Int) + 1) = ((k' + 1 : Nat) : Int) := by omega
      dsimp only
      rw [m6_put, ek]
      have M1 := hM'.setAt (k' + 1)
      have B1 : ButL [o, Ah, At, As, R] H (upd H' o (.ins (cl .Machine) dx (m6 Ah At As R L ((k' + 1 : Nat) : Int)))) := hB.trans (ButL.upd (List.mem_cons_self ..))
      generalize upd H' o (.ins (cl .Machine) dx (m6 Ah At As R L ((k' + 1 : Nat) : Int))) = H1 at M1 B1 ⊢
      have hjs : j < steps := hjs
      have hbl : i.below rs'.length := by rw [hrl]; exact hb i hmem
      have sj : steps - j = (steps - (j + 1)) + 1 := by omega
      -- what a step that is no jump leaves
      have nxt : ∀ (H2 : Hp) (T2 : List Tr) (n2 : Nat), MacF (cl .Machine) H2 o dx Ah At As R L (k' + 1) T2 ns' rs' is → T2.length ≤ T.length + (j + 1) → ButL [o, Ah, At, As, R] H H2 → i.isJ = false → bigS i rs' = false → T2[n2]? = some (newT i rs') →
          ∀ w0 w1 w2 w3 w4 : Option V, ∃ (k3 : Nat) (T3 : List Tr) (ns3 : List Nat) (rs3 : List Tr) (u0 u1 u2 u3 u4 : Option V), [some (.ref o), some (.int steps), some (.ref Ah), some (.ref At), some (.ref R), some (.ref L), w0, w1, w2, w3, w4] = [some (.ref o), some (.int steps), some (.ref Ah), some (.ref At), some (.ref R), some (.ref L), u0, u1, u2, u3, u4] ∧ MacF (cl .Machine) (upd H2 R (.lst (natsV (ns'.set i.a n2)))) o dx Ah At As R L k3 T3 ns3 rs3 is ∧ k3 ≤ is.length ∧ rs3.length = rs.length ∧ T3.length ≤ T.length + (j + 1) ∧ ButL [o, Ah, At, As, R] H (upd H2 R (.lst (natsV (ns'.set i.a n2)))) ∧ go is steps k rs = addN (j + 1) (go is (steps - (j + 1)) k3 rs3) := by
        intro H2 T2 n2 m2 l2 b2 hjj hbg hn2 w0 w1 w2 w3 w4
        refine ⟨k' + 1, T2, _, rs'.set i.a (newT i rs'), w0, w1, w2, w3, w4, rfl, m2.setReg hn2 i.a, by omega, by rw [List.length_set]; exact hrl, l2, b2.trans (ButL.upd (by simp)), ?_⟩
        rw [hgo, sj, go_on hix hbg, addN_addN, stepAt_no hjj, stepRs_no hjj, Nat.add_comm 1 j]
        rfl
      have hnl : (natsV ns').length = rs'.length := by rw [natsV_len, Paired.len hM'.nr]
      obtain ⟨hs, ts, c1, c2, c3, g⟩ := M1.tb.get
      refine ⟨_, rfl, rfl, _, rfl, ?_⟩
      cases i with
      | head x b =>
        obtain ⟨nb, r1, r2⟩ := M1.reg (b := b) (hbl b (by simp [Ins.regs]))
        obtain ⟨hh, kk, q1, q2, q3, q4⟩ := g.at_ nb _ r2
        refine iteS rfl ⟨_, rfl, _, rfl, _, rfl, _, _, _, _, rfl, rfl, SqL.of M1.rg, natsV_at r1, _, _, _, _, rfl, rfl, SqL.of c1, natsV_at q1, _, rfl, _, rfl, R, _, _, x, rfl, rfl, M1.rg, ixN_nat (by rw [hnl]; exact Ins.below_a hbl), ?_⟩
        rw [natsV_set]
        exact nxt H1 T' hh M1 (by omega) B1 rfl rfl q3 _ _ _ _ _
      | tail x b =>
        obtain ⟨nb, r1, r2⟩ := M1.reg (b := b) (hbl b (by simp [Ins.regs]))
        obtain ⟨hh, kk, q1, q2, q3, q4⟩ := g.at_ nb _ r2
        refine iteNo (by decide +kernel : ¬ V.str (Str.ofString "tail") = V.str (Str.ofString "head")) ⟨_, rfl, rfl, _, rfl, iteS rfl ⟨_, rfl, _, rfl, _, rfl, _, _, _, _, rfl, rfl, SqL.of M1.rg, natsV_at r1, _, _, _, _, rfl, rfl, SqL.of c2, natsV_at q2, _, rfl, _, rfl, R, _, _, x, rfl, rfl, M1.rg, ixN_nat (by rw [hnl]; exact Ins.below_a hbl), ?_⟩⟩
        rw [natsV_set]
        exact nxt H1 T' kk M1 (by omega) B1 rfl rfl q4 _ _ _ _ _
      | move x b =>
        obtain ⟨nb, r1, r2⟩ := M1.reg (b := b) (hbl b (by simp [Ins.regs]))
        refine iteNo (by decide +kernel : ¬ V.str (Str.ofString "move") = V.str (Str.ofString "head")) ⟨_, rfl, rfl, _, rfl, iteNo (by decide +kernel : ¬ V.str (Str.ofString "move") = V.str (Str.ofString "tail")) ⟨_, rfl, rfl, _, rfl, iteNo (by decide +kernel : ¬ V.str (Str.ofString "move") = V.str (Str.ofString "cons")) ⟨_, rfl, rfl, _, rfl, iteS rfl ⟨_, rfl, _, rfl, _, _, _, _, rfl, rfl, SqL.of M1.rg, natsV_at r1, _, rfl, _, rfl, R, _, _, x, rfl, rfl, M1.rg, ixN_nat (by rw [hnl]; exact Ins.below_a hbl), ?_⟩⟩⟩⟩
        rw [natsV_set]
        exact nxt H1 T' nb M1 (by omega) B1 rfl rfl r2 _ _ _ _ _
      | set x t =>
        refine iteNo (by decide +kernel : ¬ V.str (Str.ofString "set") = V.str (Str.ofString "head")) ⟨_, rfl, rfl, _, rfl, iteNo (by decide +kernel : ¬ V.str (Str.ofString "set") = V.str (Str.ofString "tail")) ⟨_, rfl, rfl, _, rfl, iteNo (by decide +kernel : ¬ V.str (Str.ofString "set") = V.str (Str.ofString "cons")) ⟨_, rfl, rfl, _, rfl, iteNo (by decide +kernel : ¬ V.str (Str.ofString "set") = V.str (Str.ofString "move")) ⟨_, rfl, rfl, _, rfl, iteS rfl ⟨_, rfl, _, rfl, _, rfl, R, _, _, x, rfl, rfl, M1.rg, ixN_nat (by rw [hnl]; exact Ins.below_a hbl), ?_⟩⟩⟩⟩⟩
        rw [show (natsV ns').set x (V.int (plX (.set x t) k' n)) = natsV (ns'.set x n) from natsV_set ns' x n]
        exact nxt H1 T' n M1 (by omega) B1 rfl rfl (g3 x t rfl) _ _ _ _ _
      | cons x b d =>
        obtain ⟨nb, r1, r2⟩ := M1.reg (b := b) (hbl b (by simp [Ins.regs]))
        obtain ⟨nd, t1, t2⟩ := M1.reg (b := d) (hbl d (by simp [Ins.regs]))
        refine iteNo (by decide +kernel : ¬ V.str (Str.ofString "cons") = V.str (Str.ofString "head")) ⟨_, rfl, rfl, _, rfl, iteNo (by decide +kernel : ¬ V.str (Str.ofString "cons") = V.str (Str.ofString "tail")) ⟨_, rfl, rfl, _, rfl, iteS rfl ⟨_, rfl, _, _, _, rfl, M1.ob, (m6_ok Ah At As R L _).joined, _, rfl, _, rfl, _, _, _, _, rfl, rfl, SqL.of M1.rg, natsV_at r1, _, rfl, _, rfl, _, _, _, _, rfl, rfl, SqL.of M1.rg, natsV_at t1, ?_⟩⟩⟩
        refine ⟨o, dx, Ah, At, As, _, T', nb, nd, _, _, rfl, M1.ob, m6_ok Ah At As R L _, M1.tb, r2, t2, (by omega), fun hbig => e (by rw [hgo, sj, go_big hix (decide_eq_true hbig)]; rfl) H1 B1, fun hsm H2 b2 m2 => ?_⟩
        have M2 := M1.grow b2 m2 (Ext.app _ _)
        refine ⟨_, rfl, _, rfl, R, _, _, x, rfl, rfl, M2.rg, ixN_nat (by rw [hnl]; exact Ins.below_a hbl), ?_⟩
        rw [natsV_set]
        refine nxt H2 _ T'.length M2 (by rw [List.length_append, List.length_singleton]; omega) (B1.trans (up b2)) rfl (decide_eq_false (by omega)) ?_ _ _ _ _ _
        rw [List.getElem?_append_right (Nat.le_refl _), Nat.sub_self]
        rfl
      | jump x m =>
        obtain ⟨nb, r1, r2⟩ := M1.reg (b := x) (Ins.below_a hbl)
        obtain ⟨j2, hj2, hjl⟩ := hj k' _ rs' hix
        refine iteNo (by decide +kernel : ¬ V.str (Str.ofString "jump") = V.str (Str.ofString "head")) ⟨_, rfl, rfl, _, rfl, iteNo (by decide +kernel : ¬ V.str (Str.ofString "jump") = V.str (Str.ofString "tail")) ⟨_, rfl, rfl, _, rfl, iteNo (by decide +kernel : ¬ V.str (Str.ofString "jump") = V.str (Str.ofString "cons")) ⟨_, rfl, rfl, _, rfl, iteNo (by decide +kernel : ¬ V.str (Str.ofString "jump") = V.str (Str.ofString "move")) ⟨_, rfl, rfl, _, rfl, iteNo (by decide +kernel : ¬ V.str (Str.ofString "jump") = V.str (Str.ofString "set")) ⟨_, rfl, _, rfl, _, _, _, _, rfl, rfl, SqL.of M1.rg, natsV_at r1, rfl, _, rfl, ?_⟩⟩⟩⟩⟩
        have hgo2 : go is steps k rs = addN (j + 1) (go is (steps - (j + 1)) j2 rs') := by
          rw [hgo, sj, go_on hix rfl, addN_addN, Nat.add_comm 1 j, hj2]
          rfl
        refine notI (fun c => ?_) (fun c => ?_)
        · have nz : nb ≠ 0 := fun z => of_decide_eq_false c (by rw [z]; rfl)
          have nl : reg rs' x ≠ .leaf := g.no nb _ nz r2
          have ej : (k' : Int) + m = (j2 : Int) := by
            rw [← hj2]
            exact (if_neg nl).symm
          refine ⟨_, rfl, _, rfl, o, _, dx, _, rfl, M1.ob, c_Machine, n_at, (by show 6 < 1000; decide), ?_⟩
          rw [m6_put, show plX (.jump x m) k' n = (j2 : Int) from ej]
          exact ⟨j2, T', ns', rs', _, _, _, _, _, rfl, M1.setAt j2, hjl, hrl, by omega, B1.trans (ButL.upd (List.mem_cons_self ..)), hgo2⟩
        · have z : nb = 0 := by
            have := V.int.inj (of_decide_eq_true c)
            omega
          have hl0 : reg rs' x = .leaf := by
            rw [z, g.z] at r2
            exact (Option.some.inj r2).symm
          have ej : (j2 : Int) = (k' : Int) + 1 := by
            rw [← hj2]
            exact if_pos hl0
          have e2 : j2 = k' + 1 := by omega
          rw [e2] at hgo2
          exact ⟨k' + 1, T', ns', rs', _, _, _, _, _, rfl, M1, by omega, hrl, by omega, B1, hgo2⟩
    · rintro σ H' ⟨k', T', ns', rs', w0, w1, w2, w3, w4, rfl, hM', hk', hrl, hTl, hB, hgo⟩
      have hTl : T'.length ≤ T.length + steps := hTl
      have hgo : go is steps k rs = addN steps (go is (steps - steps) k' rs') := hgo
      rw [Nat.sub_self] at hgo
      exact ⟨_, rfl, q k' steps rs' (by rw [hgo]; show some _ = _; simp) H' T' ns' hB hM' hTl hk' hrl⟩
abbrev s_Machine_tree_of : Stmt := inClass (topS 65) 6
abbrev nm_Machine_tree_of : List Str := ["self", "name", "signs", "waiting"]
theorem sc_Machine_tree_of : FnScope nm_Machine_tree_of ["self", "name"] (defScope s_Machine_tree_of) := ⟨rfl, rfl, rfl, by decide +kernel, rfl, by decide +kernel, by decide +kernel⟩
def sp_Machine_tree_of (K : PySem.W.Frag) (cl : Cn → Addr) : Sp := fun vs H Q E => ∃ (o dx Ah At As : Addr) (fs : List (Str × V)) (T : List Tr) (n : Nat) (t : Tr), vs = [.ref o, .int n] ∧ H o = some (.ins (cl .Machine) dx fs) ∧ FsOk fs Ah At As ∧ MacAt H Ah At As T ∧ T[n]? = some t ∧ t.sg.length ≤ 1000000 ∧
  ∀ H', Same H H' → Q (.str t.str) H'
theorem ok_Machine_tree_of (T : Txt K mg cl w) {f : Addr} {fd : FuncData} (F : Fun K "tree_of" "Machine.tree_of" s_Machine_tree_of f fd) : FnOk P w K mg base CX0 1 f fd ["self", "name"] (sp_Machine_tree_of K cl) := by
  have m_len := T.m_len
  obtain ⟨g_Machine, c_Machine⟩ := T.m_Machine
  have n_heads := T.n_Machine_heads
  have n_tails := T.n_Machine_tails
  have n_sizes := T.n_Machine_sizes
  have n_at := T.n_Machine_at
  have n_registers := T.n_Machine_registers
  have n_plan := T.n_Machine_plan
  refine F.ok sc_Machine_tree_of (fun vs H Q E h => ?_) (fun cdv A outer s H vs Q E hr h => ?_)
  · obtain ⟨o, dx, Ah, At, As, fs, T, n, t, rfl, _⟩ := h
    rfl
  · obtain ⟨o, dx, Ah, At, As, fs, T, n, t, rfl, ho, hf, hm, hn, hl, q⟩ := h
    have hsl : sizeLine = 16777216 := rfl
    obtain ⟨hs, ts, c1, c2, c3, g⟩ := hm.get
    refine ⟨_, (pss_cons (ps_set (i := 2) sc_Machine_tree_of.nd rfl (Or.inl rfl) (pe_lst pa_nil))
      (pss_cons (ps_set (i := 3) sc_Machine_tree_of.nd rfl (Or.inl rfl) (pe_lst (pa_cons (pv 1) pa_nil)))
      (pss_cons (ps_while PassesOwn.never (pt_cmpR op_gt (pe_callB (call_lenS : CallR _ _ (rLenS K)) (by rfl) m_len (by decide +kernel) (pa_cons (pv 3) pa_nil)) pe_int (nomark _)) (pss_cons (ps_set (i := 1) sc_Machine_tree_of.nd rfl (Or.inl rfl) (pe_bm0 PySem.F.plainAttrs_list PySem.F.slot_list_pop PySem.F.type_list_pop mt_pop (pv 3)))
      (pss_one (ps_if (pt_cmpR op_eq (pv 1) pe_int (nomark _)) (pss_one (ps_expr (pe_bm PySem.F.plainAttrs_list PySem.F.slot_list_append PySem.F.type_list_append mt_append (pv 2) (pa_cons pe_str pa_nil)))) (pss_cons (ps_expr (pe_bm PySem.F.plainAttrs_list PySem.F.slot_list_append PySem.F.type_list_append mt_append (pv 2) (pa_cons pe_str pa_nil)))
      (pss_cons (ps_expr (pe_bm PySem.F.plainAttrs_list PySem.F.slot_list_append PySem.F.type_list_append mt_append (pv 3) (pa_cons (pe_ix (ix_list : IxR _ (rIxL K)) (pe_fld (pv 0) rfl) (pv 1) (fun _ _ => rfl)) pa_nil)))
      (pss_one (ps_expr (pe_bm PySem.F.plainAttrs_list PySem.F.slot_list_append PySem.F.type_list_append mt_append (pv 3) (pa_cons (pe_ix (ix_list : IxR _ (rIxL K)) (pe_fld (pv 0) rfl) (pv 1) (fun _ _ => rfl)) pa_nil))))))))))
      (pss_one (ps_ret (pe_join pe_str (pv 2))))))), ?_⟩
    refine ⟨(by show 0 ≤ sizeLine; omega), fun S nS => ?_⟩
    have q1 : upd H S (.lst []) S = some (.lst []) := upd_same
    have sm1 := Same.upd (o := .lst []) nS
    generalize upd H S (.lst []) = H1 at q1 sm1 ⊢
    refine ⟨_, rfl, (by show 1 ≤ sizeLine; omega), fun W nW => ?_⟩
    have q2 : upd H1 W (.lst [.int n]) W = some (.lst [.int n]) := upd_same
    have sm2 := Same.upd (o := .lst [.int n]) nW
    have nSW : S ≠ W := ne_of_none q1 nW
    have nW0 : H W = none := by
      cases e : H W with
      | none => rfl
      | some u => rw [sm1 W u e] at nW; cases nW
    generalize upd H1 W (.lst [V.int n]) = H2 at q2 sm2 ⊢
    have put : ∀ {X : Hp} (a : Addr) (u : HO), Same H X → H a = none → Same H (upd X a u) := fun {X} a u sm na b v e => by
      rw [upd_ne (ne_of_none e na)]
      exact sm b v e
    refine ⟨fun m σ H' => ∃ (v : Option V) (ns : List Nat) (us : List Tr) (l : List Nat), m = (sgs us).length ∧ σ = [some (.ref o), v, some (.ref S), some (.ref W)] ∧ H' W = some (.lst (natsV ns.reverse)) ∧ Nums T ns us ∧ H' S = some (.lst (sgV l)) ∧ t.sg = l ++ sgs us ∧ Same H H',
      ⟨_, _, [n], [t], [], rfl, rfl, q2, .cons hn .nil, sm2 _ _ q1, by rw [sgs_cons]; show t.sg = t.sg ++ []; rw [List.append_nil], sm1.trans sm2⟩, ?_⟩
    rintro m σ H' ⟨v, ns, us, l, rfl, rfl, h1, h2, h3, h4, sm⟩
    have hll : l.length + (sgs us).length = t.sg.length := by rw [h4, List.length_append]
    have hul := sgs_len us
    have hnl := Paired.len h2
    have hn1 : (natsV ns.reverse).length = ns.length := by rw [natsV_len, List.length_reverse]
    have hs1 := sgV_len l
    refine ⟨_, rfl, _, _, rfl, .inl (SqL.of h1), _, _, rfl, rfl, _, rfl, ?_⟩
    cases h2 with
    | nil =>
      refine iteNo (by show ¬ ((0 : Int) < 0); omega) ?_
      have e : t.sg = l := by rw [h4]; show l ++ [] = l; rw [List.append_nil]
      refine ⟨⟨_, rfl⟩, _, rfl, _, S, _, rfl, rfl, .inl (SqL.of h3), (by show _ + _ * 0 ≤ _; rw [sgV_sum]; omega), ?_⟩
      rw [sgV_join, ← e]
      exact q _ sm
    | @cons n1 u ns1 us1 p1 h2 =>
      rw [List.length_cons] at hul hn1
      rw [List.length_cons, List.length_cons] at hnl
      refine iteS (by show (0 : Int) < _; omega) ⟨_, fun σ' H' z => z, ?_⟩
      rw [List.reverse_cons] at h1
      refine ⟨_, rfl, .inl ⟨rfl, _, SqL.of h1⟩, _, _, _, rfl, rfl, h1, natsV_pop _ _, ?_⟩
      rw [natsV_drop]
      have w1 : upd H' W (.lst (natsV ns1.reverse)) W = some (.lst (natsV ns1.reverse)) := upd_same
      have x1 : upd H' W (.lst (natsV ns1.reverse)) S = some (.lst (sgV l)) := (upd_ne nSW).trans h3
      have y1 := put W (.lst (natsV ns1.reverse)) sm nW0
      generalize upd H' W (.lst (natsV ns1.reverse)) = H3 at w1 x1 y1 ⊢
      refine ⟨_, rfl, rfl, _, rfl, ?_⟩
      rw [sgs_cons] at h4 hll hul ⊢
      by_cases c : n1 = 0
      · have eu : u = .leaf := by
          rw [c, g.z] at p1
          exact (Option.some.inj p1).symm
        subst eu
        refine iteS (by rw [c]; rfl) ⟨_, rfl, .inl ⟨rfl, _, SqL.of x1⟩, _, _, _, rfl, rfl, x1, (by omega), ?_⟩
        rw [s0, sgV_app]
        refine ⟨_, ?_, _, ns1, us1, l ++ [48], rfl, rfl, (upd_ne nSW.symm).trans w1, h2, upd_same, ?_, put S _ y1 nS⟩
        · show (sgs us1).length < ([48] ++ sgs us1).length
          rw [List.length_append, List.length_singleton]
          omega
        · rw [h4, List.append_assoc]
          rfl
      · have nl : u ≠ .leaf := g.no n1 u c p1
        cases u with
        | leaf => exact absurd rfl nl
        | node a b =>
        obtain ⟨hh, kk, d1, d2, d3, d4⟩ := g.at_ n1 _ p1
        refine iteNo (fun z => c (by have := V.int.inj z; omega)) ⟨_, rfl, .inl ⟨rfl, _, SqL.of x1⟩, _, _, _, rfl, rfl, x1, (by omega), ?_⟩
        rw [s1, sgV_app]
        have w2 : upd H3 S (.lst (sgV (l ++ [49]))) W = some (.lst (natsV ns1.reverse)) := (upd_ne nSW.symm).trans w1
        have x2 : upd H3 S (.lst (sgV (l ++ [49]))) S = some (.lst (sgV (l ++ [49]))) := upd_same
        have y2 := put S (.lst (sgV (l ++ [49]))) y1 nS
        generalize upd H3 S (.lst (sgV (l ++ [49]))) = H4 at w2 x2 y2 ⊢
        have hn2 : (natsV ns1.reverse).length = ns1.length := by rw [natsV_len, List.length_reverse]
        refine ⟨_, rfl, .inl ⟨rfl, _, SqL.of w2⟩, _, rfl, _, _, _, _, _, rfl, y2 _ _ ho, c_Machine, n_tails, hf.t, _, rfl, _, _, _, _, rfl, rfl, SqL.of (y2 _ _ c2), natsV_at d2, _, _, _, rfl, rfl, w2, (by omega), ?_⟩
        rw [natsV_app]
        have w3 : upd H4 W (.lst (natsV (ns1.reverse ++ [kk]))) W = some (.lst (natsV (ns1.reverse ++ [kk]))) := upd_same
        have x3 : upd H4 W (.lst (natsV (ns1.reverse ++ [kk]))) S = some (.lst (sgV (l ++ [49]))) := (upd_ne nSW).trans x2
        have y3 := put W (.lst (natsV (ns1.reverse ++ [kk]))) y2 nW0
        generalize upd H4 W (.lst (natsV (ns1.reverse ++ [kk]))) = H5 at w3 x3 y3 ⊢
        have hn3 : (natsV (ns1.reverse ++ [kk])).length = ns1.length + 1 := by rw [natsV_len, List.length_append, List.length_reverse]; rfl
        refine ⟨_, rfl, .inl ⟨rfl, _, SqL.of w3⟩, _, rfl, _, _, _, _, _, rfl, y3 _ _ ho, c_Machine, n_heads, hf.h, _, rfl, _, _, _, _, rfl, rfl, SqL.of (y3 _ _ c1), natsV_at d1, _, _, _, rfl, rfl, w3, (by omega), ?_⟩
        rw [natsV_app]
        have es : (Tr.node a b).sg ++ sgs us1 = [49] ++ sgs (a :: b :: us1) := by
          rw [sgs_cons, sgs_cons]
          show 49 :: (a.sg ++ b.sg) ++ _ = _
          simp [List.append_assoc]
        refine ⟨_, ?_, _, hh :: kk :: ns1, a :: b :: us1, l ++ [49], rfl, rfl, ?_, .cons d3 (.cons d4 h2), (upd_ne nSW).trans x3, ?_, put W _ y3 nW0⟩
        · rw [es, List.length_append, List.length_singleton]
          omega
        · rw [List.reverse_cons, List.reverse_cons]
          exact upd_same
        · rw [h4, es, List.append_assoc]
abbrev s_run : Stmt := topS 63
abbrev nm_run : List Str := ["program", "x", "steps", "machine", "done"]
theorem sc_run : FnScope nm_run ["program", "x", "steps"] (defScope s_run) := ⟨rfl, rfl, rfl, by decide +kernel, rfl, by decide +kernel, by decide +kernel⟩
def sp_run (K : PySem.W.Frag) (cl : Cn → Addr) : Sp := fun vs H Q E => ∃ (p : Addr) (is : List Ins) (x : Tr) (steps : Nat), vs = [.ref p, .str x.str, .int steps] ∧ PgAt H p is ∧ JOk is ∧ (∀ i ∈ is, i.below 20 ∧ i.big ≤ 1000000) ∧ x.pairs + bigSum is + steps ≤ 7000000 ∧ x.sg.length ≤ 1000000 ∧ is.length ≤ 1000 ∧
  (∀ (k' d : Nat) (rs' : List Tr), go is steps 0 (rs0 x) = some (k', rs', d) → (k' < is.length → ∀ H', Same H H' → E (.ref (cl .OutOfSteps)) none H') ∧ (k' = is.length → ∀ q H', Same H H' → H' q = some (.tup [.str (reg rs' 0).str, .int d]) → Q (.ref q) H')) ∧
  (go is steps 0 (rs0 x) = none → ∀ H', Same H H' → E (.ref (cl .TooLarge)) none H')
theorem ok_run (T : Txt K mg cl w) (H_Machine___init__ : HasI P w K (cl .Machine) mg base CX0 4 ["self", "program", "x"] (sp_Machine___init__ K cl)) (H_Machine_advance : HasM P w K (cl .Machine) mg base (L2.CX P w) 3 "advance" ["self", "steps"] (sp_Machine_advance K cl)) (H_Machine_tree_of : HasM P w K (cl .Machine) mg base CX0 1 "tree_of" ["self", "name"] (sp_Machine_tree_of K cl)) {f : Addr} {fd : FuncData} (F : Fun K "run" "run" s_run f fd) : FnOk P w K mg base (L2.CX P w) 6 f fd ["program", "x", "steps"] (sp_run K cl) := by
  have m_len := T.m_len
  obtain ⟨g_OutOfSteps, x_OutOfSteps⟩ := T.e_OutOfSteps
  obtain ⟨g_Machine, c_Machine⟩ := T.m_Machine
  have n_heads := T.n_Machine_heads
  have n_tails := T.n_Machine_tails
  have n_sizes := T.n_Machine_sizes
  have n_at := T.n_Machine_at
  have n_registers := T.n_Machine_registers
  have n_plan := T.n_Machine_plan
  obtain ⟨f_Machine___init__, d_Machine___init__, G_Machine___init__, M_Machine___init__, b_Machine___init__⟩ := H_Machine___init__.ex
  obtain ⟨f_Machine_advance, d_Machine_advance, G_Machine_advance, M_Machine_advance, b_Machine_advance⟩ := H_Machine_advance.ex
  obtain ⟨f_Machine_tree_of, d_Machine_tree_of, G_Machine_tree_of, M_Machine_tree_of, b_Machine_tree_of⟩ := H_Machine_tree_of.ex
  refine F.okX sc_run (fun vs H Q E h => ?_) (fun cdv A outer s H vs Q E hr h => ?_)
  · obtain ⟨p, is, x, steps, rfl, _⟩ := h
    rfl
  · obtain ⟨p, is, x, steps, rfl, hp, hj, hb, hz, hl, hn, q, e⟩ := h
    have hsl : sizeLine = 16777216 := rfl
    refine ⟨_, (pss_cons (ps_set (i := 3) sc_run.nd rfl (Or.inl rfl) (pe_make M_Machine___init__ G_Machine___init__ (hr.mono (by decide)) (by rfl) g_Machine b_Machine___init__ .nil pass0 (pa_cons (pv 0) (pa_cons (pv 1) pa_nil))))
      (pss_cons (ps_set (i := 4) sc_run.nd rfl (Or.inl rfl) (pe_mS (pv 3) c_Machine M_Machine_advance G_Machine_advance (hr.mono (by decide)) b_Machine_advance (fun σ => passAt (takes_of rfl rfl rfl rfl) σ) (pa_cons (pv 2) pa_nil)))
      (pss_cons (ps_if (pt_cmpR op_lt (pe_fld (pv 3) rfl) (pe_callB (call_lenS : CallR _ _ (rLenS K)) (by rfl) m_len (by decide +kernel) (pa_cons (pv 0) pa_nil)) (nomark _)) (pss_one (ps_raise rfl (takes_of rfl rfl rfl rfl) (pmk_own PySem.F.excBase_ValueError x_OutOfSteps.x g_OutOfSteps x_OutOfSteps.k (raises_own x_OutOfSteps.b x_OutOfSteps.t) (by exact rfl)))) pss_nil)
      (pss_one (ps_ret (pe_tup (pa_cons (pe_meth (pv 3) c_Machine M_Machine_tree_of G_Machine_tree_of (hr.mono (by decide)) b_Machine_tree_of .nil pass0 (pa_cons (pe_ix (ix_list : IxR _ (rIxL K)) (pe_fld (pv 3) rfl) pe_int (fun _ _ => rfl)) pa_nil)) (pa_cons (pv 4) pa_nil)))))))), ?_⟩
    refine ⟨_, rfl, _, rfl, ?_⟩
    intro o dx no nd ne
    have sm0 : Same H (upd (upd H dx (.own o)) o (.ins (cl .Machine) dx [])) := (Same.upd nd).trans (Same.upd ((upd_ne ne.symm).trans no))
    refine ⟨o, dx, p, is, x, rfl, upd_same, hp.same sm0, by omega, hl, hn, fun i hi => (hb i hi).2, fun H1 Ah At As R L T ns b1 hnew M1 lT => ⟨rfl, ?_⟩⟩
    have sm1 : Same H H1 := Same.made no nd fun b u e hne => b1 b u (fun z => hne (List.mem_singleton.mp z)) e
    have nu : ∀ a ∈ [o, Ah, At, As, R], H a = none := fun a z => by
      rcases List.mem_cons.mp z with rfl | z
      · exact no
      · cases c : H a with
        | none => rfl
        | some u =>
          have := hnew a z
          rw [sm0 a u c] at this
          cases this
    have sm : ∀ {X : Hp}, ButL [o, Ah, At, As, R] H1 X → Same H X := fun {X} b a u c => b a u (fun z => by rw [nu a z] at c; cases c) (sm1 a u c)
    refine ⟨_, rfl, _, _, _, rfl, M1.ob, (m6_ok Ah At As R L _).advance, _, rfl, ?_⟩
    refine ⟨o, dx, Ah, At, As, R, L, 0, steps, T, ns, rs0 x, is, rfl, M1, Nat.zero_le _, hj, fun i hi => (hb i hi).1, by omega, fun k' d rs' hgo H2 T' ns' b2 M2 lT2 hk2 hl2 => ?_, fun hgo H2 b2 => e hgo H2 (sm b2)⟩
    obtain ⟨q1, q2⟩ := q k' d rs' hgo
    have hp2 := hp.same (sm b2)
    obtain ⟨xs, hx, hlen⟩ := hp2.len
    refine ⟨_, rfl, _, _, _, _, _, rfl, M2.ob, c_Machine, n_at, m6_at Ah At As R L k', _, rfl, _, _, rfl, .inl (SqL.of hx), _, _, rfl, rfl, _, rfl, ?_⟩
    by_cases c : k' < is.length
    · exact iteS (by rw [hlen]; show (k' : Int) < _; omega) (q1 c H2 (sm b2))
    refine iteNo (by rw [hlen]; show ¬ (k' : Int) < _; omega) ?_
    obtain ⟨n0, r1, r2⟩ := M2.reg (b := 0) (by rw [hl2]; exact Nat.zero_lt_succ _)
    have hle := go_le (M := 1000000) (by omega) hb steps 0 (rs0 x) rfl (fun t ht => by
      rcases List.mem_cons.mp ht with rfl | ht
      · exact hl
      · rw [(List.mem_replicate.mp ht).2]
        show 1 ≤ _
        omega) hgo (reg rs' 0) (reg_mem (by rw [hl2]; exact Nat.zero_lt_succ _))
    refine ⟨_, rfl, _, _, _, rfl, M2.ob, (m6_ok Ah At As R L _).tree_of, _, rfl, _, _, _, _, _, rfl, M2.ob, c_Machine, n_registers, m6_rg Ah At As R L k', _, _, _, _, rfl, rfl, SqL.of M2.rg, natsV_at (j := 0) r1, ?_⟩
    refine ⟨o, dx, Ah, At, As, _, T', n0, reg rs' 0, rfl, M2.ob, m6_ok Ah At As R L _, M2.tb, r2, hle, fun H3 sm3 => ⟨_, rfl, (by show 2 ≤ sizeLine; omega), fun q3 n3 => ?_⟩⟩
    exact q2 (by omega) q3 _ (((sm b2).trans sm3).trans (Same.upd n3)) upd_same
abbrev s_shows_returns : Stmt := topS 82
abbrev nm_shows_returns : List Str := ["program", "x", "result", "steps"]
theorem sc_shows_returns : FnScope nm_shows_returns ["program", "x", "result", "steps"] (defScope s_shows_returns) := ⟨rfl, rfl, rfl, by decide +kernel, rfl, by decide +kernel, by decide +kernel⟩
def sp_shows_returns (K : PySem.W.Frag) (cl : Cn → Addr) : Sp := fun vs H Q E => ∃ (p : Addr) (is : List Ins) (x y : Tr) (n : Nat), vs = [.ref p, .str x.str, .str y.str, .int n] ∧ PgAt H p is ∧ RunOk is x n ∧ (∀ H', Same H H' → Q (.bl (returnsB is x y n)) H') ∧ (returnsB is x y n = false → ∀ H', Same H H' → E (.ref (cl .OutOfSteps)) none H' ∧ E (.ref (cl .TooLarge)) none H')
theorem ok_shows_returns (T : Txt K mg cl w) (H_run : Has P w K mg base (L2.CX P w) 6 "run" ["program", "x", "steps"] (sp_run K cl)) {f : Addr} {fd : FuncData} (F : Fun K "_shows_returns" "_shows_returns" s_shows_returns f fd) : FnOk P w K mg base (L2.CX P w) 7 f fd ["program", "x", "result", "steps"] (sp_shows_returns K cl) := by
  obtain ⟨g_Machine, c_Machine⟩ := T.m_Machine
  have n_heads := T.n_Machine_heads
  have n_tails := T.n_Machine_tails
  have n_sizes := T.n_Machine_sizes
  have n_at := T.n_Machine_at
  have n_registers := T.n_Machine_registers
  have n_plan := T.n_Machine_plan
  obtain ⟨f_run, d_run, G_run, g_run, k_run, b_run⟩ := H_run.ex
  refine F.okX sc_shows_returns (fun vs H Q E h => ?_) (fun cdv A outer s H vs Q E hr h => ?_)
  · obtain ⟨p, is, x, y, n, rfl, _⟩ := h
    rfl
  · obtain ⟨p, is, x, y, n, rfl, hp, ⟨j1, j2, j3, j4, j5⟩, q, qe⟩ := h
    refine ⟨_, (pss_one (ps_ret (pe_cmpR op_eq (pe_ix (ix_tup : IxR _ (rIxT K)) (pe_callS G_run (hr.mono (by decide)) (by rfl) g_run k_run b_run (fun σ => passAt (takes_of rfl rfl rfl rfl) σ) (pa_cons (pv 0) (pa_cons (pv 1) (pa_cons (pv 3) pa_nil)))) pe_int (fun _ _ => rfl)) (pv 2) (nomark _)))), ?_⟩
    refine ⟨_, rfl, _, rfl, _, rfl, p, is, x, n, rfl, hp, j1, j2, j3, j4, j5, fun k d rs hg => ⟨fun ck H' sm => ?_, fun ck r H' sm hr => ?_⟩, fun hg H' sm => ?_⟩
    · have e : returnsB is x y n = false := by
        unfold returnsB
        rw [hg]
        show (decide (k = is.length) && _) = false
        rw [decide_eq_false (by omega)]
        rfl
      exact (qe e H' sm).1
    · refine ⟨_, _, _, _, rfl, rfl, SqT.of hr, rfl, _, rfl, rfl, ?_⟩
      have e : returnsB is x y n = decide (V.str (reg rs 0).str = V.str y.str) := by
        unfold returnsB
        rw [hg]
        show (decide (k = is.length) && decide (reg rs 0 = y)) = _
        rw [decide_eq_true ck, Bool.true_and]
        by_cases c : reg rs 0 = y
        · rw [c, decide_eq_true rfl, decide_eq_true rfl]
        · rw [decide_eq_false c, decide_eq_false (fun z => c (Tr.str_inj (V.str.inj z)))]
      have := q H' sm
      rw [e] at this
      exact this
    · have e : returnsB is x y n = false := by
        unfold returnsB
        rw [hg]
      exact (qe e H' sm).2
abbrev s_shows_lasts : Stmt := topS 83
abbrev nm_shows_lasts : List Str := ["program", "x", "steps"]
theorem sc_shows_lasts : FnScope nm_shows_lasts ["program", "x", "steps"] (defScope s_shows_lasts) := ⟨rfl, rfl, rfl, by decide +kernel, rfl, by decide +kernel, by decide +kernel⟩
def sp_shows_lasts (K : PySem.W.Frag) (cl : Cn → Addr) : Sp := fun vs H Q E => ∃ (p : Addr) (is : List Ins) (x : Tr) (n : Nat), vs = [.ref p, .str x.str, .int n] ∧ PgAt H p is ∧ RunOk is x n ∧ (∀ H', Same H H' → Q (.bl (lastsB is x n)) H') ∧ (lastsB is x n = false → ∀ H', Same H H' → E (.ref (cl .TooLarge)) none H')
theorem ok_shows_lasts (T : Txt K mg cl w) (H_run : Has P w K mg base (L2.CX P w) 6 "run" ["program", "x", "steps"] (sp_run K cl)) {f : Addr} {fd : FuncData} (F : Fun K "_shows_lasts" "_shows_lasts" s_shows_lasts f fd) : FnOk P w K mg base (L2.CX P w) 7 f fd ["program", "x", "steps"] (sp_shows_lasts K cl) := by
  obtain ⟨g_OutOfSteps, x_OutOfSteps⟩ := T.e_OutOfSteps
  obtain ⟨g_Machine, c_Machine⟩ := T.m_Machine
  have n_heads := T.n_Machine_heads
  have n_tails := T.n_Machine_tails
  have n_sizes := T.n_Machine_sizes
  have n_at := T.n_Machine_at
  have n_registers := T.n_Machine_registers
  have n_plan := T.n_Machine_plan
  obtain ⟨f_run, d_run, G_run, g_run, k_run, b_run⟩ := H_run.ex
  refine F.okX sc_shows_lasts (fun vs H Q E h => ?_) (fun cdv A outer s H vs Q E hr h => ?_)
  · obtain ⟨p, is, x, n, rfl, _⟩ := h
    rfl
  · obtain ⟨p, is, x, n, rfl, hp, ⟨j1, j2, j3, j4, j5⟩, q, qe⟩ := h
    refine ⟨_, (pss_cons (ps_try_only rfl rfl ⟨rfl, by decide, .inl g_OutOfSteps⟩ (takes_of rfl rfl rfl rfl) (fun W pn xe tk po => (pss_one (ps_expr (pe_callS G_run (hr.mono (by decide)) (by rfl) g_run k_run b_run (fun σ => passAt tk σ) (pa_cons (pv 0) (pa_cons (pv 1) (pa_cons (pv 2) pa_nil)))))))
      (fun a oe cls d pn hz hf => (pss_one (ps_ret pe_bl))))
      (pss_one (ps_ret pe_bl))), ?_⟩
    refine ⟨_, rfl, _, rfl, _, rfl, p, is, x, n, rfl, hp, j1, j2, j3, j4, j5, fun k d rs hg => ⟨fun ck H' sm => ?_, fun ck r H' sm hr => ?_⟩, fun hg H' sm => ?_⟩
    · have e : lastsB is x n = true := by
        unfold lastsB
        rw [hg]
        exact decide_eq_true ck
      refine ⟨true, PySem.W.exm_ref x_OutOfSteps.b x_OutOfSteps.c.hd x_OutOfSteps.t (T.p_OutOfSteps_OutOfSteps.2), fun _ a na => ?_, fun z => by cases z⟩
      have := q H' sm
      rw [e] at this
      exact this
    · have e : lastsB is x n = false := by
        unfold lastsB
        rw [hg]
        exact decide_eq_false (by omega)
      have := q H' sm
      rw [e] at this
      exact this
    · have e : lastsB is x n = false := by
        unfold lastsB
        rw [hg]
      exact ⟨false, PySem.W.exm_ref x_OutOfSteps.b x_OutOfSteps.c.hd x_OutOfSteps.t (T.p_TooLarge_OutOfSteps.2), fun z => (by cases z), fun _ => qe e H' sm⟩
abbrev s_after : Stmt := topS 64
abbrev nm_after : List Str := ["program", "x", "steps", "machine", "done", "trees", "name"]
theorem sc_after : FnScope nm_after ["program", "x", "steps"] (defScope s_after) := ⟨rfl, rfl, rfl, by decide +kernel, rfl, by decide +kernel, by decide +kernel⟩
def sp_after (K : PySem.W.Frag) (cl : Cn → Addr) : Sp := fun vs H Q E => ∃ (p : Addr) (is : List Ins) (x : Tr) (steps : Nat), vs = [.ref p, .str x.str, .int steps] ∧ PgAt H p is ∧ JOk is ∧ (∀ i ∈ is, i.below 20 ∧ i.big ≤ 1000000) ∧ x.pairs + bigSum is + steps ≤ 7000000 ∧ x.sg.length ≤ 1000000 ∧ is.length ≤ 1000 ∧
  (∀ (k' d : Nat) (rs' : List Tr), go is steps 0 (rs0 x) = some (k', rs', d) → ∀ q q1 q2 H', Same H H' → H' q = some (.tup [.ref q1, .int d]) → H' q1 = some (.tup [.int k', .ref q2]) → H' q2 = some (.tup (trV rs')) → Q (.ref q) H') ∧
  (go is steps 0 (rs0 x) = none → ∀ H', Same H H' → E (.ref (cl .TooLarge)) none H')
theorem ok_after (T : Txt K mg cl w) (H_Machine___init__ : HasI P w K (cl .Machine) mg base CX0 4 ["self", "program", "x"] (sp_Machine___init__ K cl)) (H_Machine_advance : HasM P w K (cl .Machine) mg base (L2.CX P w) 3 "advance" ["self", "steps"] (sp_Machine_advance K cl)) (H_Machine_tree_of : HasM P w K (cl .Machine) mg base CX0 1 "tree_of" ["self", "name"] (sp_Machine_tree_of K cl)) {f : Addr} {fd : FuncData} (F : Fun K "after" "after" s_after f fd) : FnOk P w K mg base (L2.CX P w) 6 f fd ["program", "x", "steps"] (sp_after K cl) := by
  have m_tuple := T.m_tuple
  obtain ⟨g_Machine, c_Machine⟩ := T.m_Machine
  have n_heads := T.n_Machine_heads
  have n_tails := T.n_Machine_tails
  have n_sizes := T.n_Machine_sizes
  have n_at := T.n_Machine_at
  have n_registers := T.n_Machine_registers
  have n_plan := T.n_Machine_plan
  obtain ⟨f_Machine___init__, d_Machine___init__, G_Machine___init__, M_Machine___init__, b_Machine___init__⟩ := H_Machine___init__.ex
  obtain ⟨f_Machine_advance, d_Machine_advance, G_Machine_advance, M_Machine_advance, b_Machine_advance⟩ := H_Machine_advance.ex
  obtain ⟨f_Machine_tree_of, d_Machine_tree_of, G_Machine_tree_of, M_Machine_tree_of, b_Machine_tree_of⟩ := H_Machine_tree_of.ex
  refine F.okX sc_after (fun vs H Q E h => ?_) (fun cdv A outer s H vs Q E hr h => ?_)
  · obtain ⟨p, is, x, steps, rfl, _⟩ := h
    rfl
  · obtain ⟨p, is, x, steps, rfl, hp, hj, hb, hz, hl, hn, q, e⟩ := h
    have hsl : sizeLine = 16777216 := rfl
    refine ⟨_, (pss_cons (ps_set (i := 3) sc_after.nd rfl (Or.inr rfl) (pe_make M_Machine___init__ G_Machine___init__ (hr.mono (by decide)) (by rfl) g_Machine b_Machine___init__ .nil pass0 (pa_cons (pv 0) (pa_cons (pv 1) pa_nil))))
      (pss_cons (ps_set (i := 4) sc_after.nd rfl (Or.inl rfl) (pe_mS (pv 3) c_Machine M_Machine_advance G_Machine_advance (hr.mono (by decide)) b_Machine_advance (fun σ => passAt (takes_of rfl rfl rfl rfl) σ) (pa_cons (pv 2) pa_nil)))
      (pss_cons (ps_setLc (i := 5) (own := [("name", 6)]) (g := gName 6) (tt := tYes) rfl sc_after.nd rfl rfl (sw_true rfl rfl rfl (by decide +kernel)) (pi_list (pe_fld (pv 3) rfl)) (blkOk_by (N := nm_after) (sc := defScope s_after) (by decide +kernel)) (fun _ _ _ _ _ => (pg_name (i := 6) sc_after.nd rfl (Or.inl rfl))) (fun _ _ _ _ _ => pts_nil) (fun _ _ _ _ _ => (pe_meth (pv 3) c_Machine M_Machine_tree_of G_Machine_tree_of (hr.mono (by decide)) b_Machine_tree_of .nil pass0 (pa_cons (pv 6) pa_nil))))
      (pss_one (ps_ret (pe_tup (pa_cons (pe_tup (pa_cons (pe_fld (pv 3) rfl) (pa_cons (pe_callTy (call_tupleOf : CallR _ _ (rTupOf K)) (by rfl) m_tuple (by decide +kernel) (pa_cons (pv 5) pa_nil)) pa_nil))) (pa_cons (pv 4) pa_nil)))))))), ?_⟩
    refine ⟨_, rfl, _, rfl, ?_⟩
    intro o dx no nd ne
    have sm0 : Same H (upd (upd H dx (.own o)) o (.ins (cl .Machine) dx [])) := (Same.upd nd).trans (Same.upd ((upd_ne ne.symm).trans no))
    refine ⟨o, dx, p, is, x, rfl, upd_same, hp.same sm0, by omega, hl, hn, fun i hi => (hb i hi).2, fun H1 Ah At As R L T ns b1 hnew M1 lT => ⟨rfl, ?_⟩⟩
    have sm1 : Same H H1 := Same.made no nd fun b u e hne => b1 b u (fun z => hne (List.mem_singleton.mp z)) e
    have nu : ∀ a ∈ [o, Ah, At, As, R], H a = none := fun a z => by
      rcases List.mem_cons.mp z with rfl | z
      · exact no
      · cases c : H a with
        | none => rfl
        | some u =>
          have := hnew a z
          rw [sm0 a u c] at this
          cases this
    have sm : ∀ {X : Hp}, ButL [o, Ah, At, As, R] H1 X → Same H X := fun {X} b a u c => b a u (fun z => by rw [nu a z] at c; cases c) (sm1 a u c)
    refine ⟨_, rfl, _, _, _, rfl, M1.ob, (m6_ok Ah At As R L _).advance, _, rfl, ?_⟩
    refine ⟨o, dx, Ah, At, As, R, L, 0, steps, T, ns, rs0 x, is, rfl, M1, Nat.zero_le _, hj, fun i hi => (hb i hi).1, by omega, fun k' d rs' hgo H2 T' ns' b2 M2 lT2 hk2 hl2 => ?_, fun hgo H2 b2 => e hgo H2 (sm b2)⟩
    have q2 := q k' d rs' hgo
    have hle := go_le (M := 1000000) (by omega) hb steps 0 (rs0 x) rfl (fun t ht => by
      rcases List.mem_cons.mp ht with rfl | ht
      · exact hl
      · rw [(List.mem_replicate.mp ht).2]
        show 1 ≤ _
        omega) hgo
    have hrl : rs'.length = 20 := hl2
    have hnl : ns'.length = rs'.length := Paired.len M2.nr
    refine ⟨_, rfl, _, _, _, _, _, rfl, M2.ob, c_Machine, n_registers, m6_rg Ah At As R L k', R, rfl, ⟨_, SqL.of M2.rg⟩, fun D nD => lc_it (walk_list (K := K) (a := R) (xs := natsV ns')) (fun j H' => Same H2 H' ∧ H' D = some (.lst (trV (rs'.take j)))) ⟨Same.upd nD, upd_same⟩ (fun j H' _ s => SqL.of (s.1 _ _ M2.rg)) ?_ ?_⟩
    · rintro j y H3 H4 hj' ⟨s3, hD⟩ ⟨rfl, hy⟩
      rw [natsV_len] at hj'
      have hj2 : j < rs'.length := by omega
      obtain ⟨nj, r1, r2⟩ := M2.reg hj2
      have hy : (natsV ns')[j]? = some y := hy
      unfold natsV at hy
      rw [List.getElem?_map, r1] at hy
      cases hy
      refine ⟨rfl, ?_⟩
      simp only [tYes, ↓reduceIte]
      obtain ⟨hs, ts, c1, c2, c3, g⟩ := M2.tb.get
      have m3 : MacAt H4 Ah At As T' := M2.tb.but (as := []) s3.butL (by simp) (by simp) (by simp)
      refine ⟨_, rfl, _, _, _, rfl, s3 _ _ M2.ob, (m6_ok Ah At As R L _).tree_of, _, rfl, o, dx, Ah, At, As, _, T', nj, reg rs' j, rfl, s3 _ _ M2.ob, m6_ok Ah At As R L _, m3, r2, hle _ (reg_mem hj2), fun H5 sm5 => ?_⟩
      refine ⟨_, sm5 _ _ hD, ?_, fun b x z => ?_, ?_⟩
      · rw [trV_len, List.length_take]
        omega
      · rw [upd_ne (ne_of_none z nD)]
        exact (s3.trans sm5) b x z
      · rw [upd_same, List.take_add_one, reg_get hj2]
        unfold trV
        rw [List.map_append]
        rfl
    · rintro H3 ⟨s3, hD⟩
      rw [natsV_len, hnl, List.take_of_length_le (Nat.le_refl _)] at hD
      have ob3 := s3 _ _ M2.ob
      refine ⟨_, rfl, _, _, _, _, _, rfl, ob3, c_Machine, n_at, m6_at Ah At As R L k', _, rfl, _, _, rfl, .inl ⟨SqL.of hD, fun t1 nt1 => ⟨(by show 2 ≤ sizeLine; omega), fun t2 nt2 => ⟨_, rfl, (by show 2 ≤ sizeLine; omega), fun t3 nt3 => ?_⟩⟩⟩⟩
      have u1 := Same.upd (o := .tup (trV rs')) nt1
      have u2 := Same.upd (o := .tup [.int (k' : Int), .ref t1]) nt2
      have u3 := Same.upd (o := .tup [.ref t2, .int (d : Int)]) nt3
      exact q2 t3 t2 t1 _ (((((sm b2).trans s3).trans u1).trans u2).trans u3) upd_same (u3 _ _ upd_same) (u3 _ _ (u2 _ _ upd_same))
abbrev s_shows_never : Stmt := topS 84
abbrev nm_shows_never : List Str := ["program", "x", "early", "late", "state", "done"]
theorem sc_shows_never : FnScope nm_shows_never ["program", "x", "early", "late"] (defScope s_shows_never) := ⟨rfl, rfl, rfl, by decide +kernel, rfl, by decide +kernel, by decide +kernel⟩
def sp_shows_never (K : PySem.W.Frag) (cl : Cn → Addr) : Sp := fun vs H Q E => ∃ (p : Addr) (is : List Ins) (x : Tr) (a b : Nat), vs = [.ref p, .str x.str, .int a, .int b] ∧ PgAt H p is ∧ RunOk is x a ∧ RunOk is x b ∧ (∀ H', Same H H' → Q (.bl (neverB is x a b)) H') ∧ (neverB is x a b = false → ∀ H', Same H H' → E (.ref (cl .TooLarge)) none H')
theorem ok_shows_never (T : Txt K mg cl w) (H_after : Has P w K mg base (L2.CX P w) 6 "after" ["program", "x", "steps"] (sp_after K cl)) {f : Addr} {fd : FuncData} (F : Fun K "_shows_never" "_shows_never" s_shows_never f fd) : FnOk P w K mg base (L2.CX P w) 7 f fd ["program", "x", "early", "late"] (sp_shows_never K cl) := by
  obtain ⟨g_Machine, c_Machine⟩ := T.m_Machine
  have n_heads := T.n_Machine_heads
  have n_tails := T.n_Machine_tails
  have n_sizes := T.n_Machine_sizes
  have n_at := T.n_Machine_at
  have n_registers := T.n_Machine_registers
  have n_plan := T.n_Machine_plan
  obtain ⟨f_after, d_after, G_after, g_after, k_after, b_after⟩ := H_after.ex
  refine F.okX sc_shows_never (fun vs H Q E h => ?_) (fun cdv A outer s H vs Q E hr h => ?_)
  · obtain ⟨p, is, x, a, b, rfl, _⟩ := h
    rfl
  · obtain ⟨p, is, x, a, b, rfl, hp, ⟨j1, j2, j3, j4, j5⟩, ⟨_, _, j6, _, _⟩, q, qe⟩ := h
    have hz : sizeLine = 16777216 := rfl
    refine ⟨_, (pss_cons (ps_if (pt_cmpR op_ge (pv 2) (pv 3) (nomark _)) (pss_one (ps_ret pe_bl)) pss_nil)
      (pss_cons (ps_asg (pe_callS G_after (hr.mono (by decide)) (by rfl) g_after k_after b_after (fun σ => passAt (takes_of rfl rfl rfl rfl) σ) (pa_cons (pv 0) (pa_cons (pv 1) (pa_cons (pv 2) pa_nil)))) (pg_tup rfl (pgs_cons (pg_name (i := 4) sc_shows_never.nd rfl (Or.inl rfl)) (pgs_cons (pg_name (i := 5) sc_shows_never.nd rfl (Or.inl rfl)) pgs_nil))))
      (pss_one (ps_ret (pe_and (pe_cmpR op_eq (pv 5) (pv 2) (nomark _)) (pe_one (pe_cmpR (op_eqD hr.units : OpR _ _ (rEqD K)) (pe_callS G_after (hr.mono (by decide)) (by rfl) g_after k_after b_after (fun σ => passAt (takes_of rfl rfl rfl rfl) σ) (pa_cons (pv 0) (pa_cons (pv 1) (pa_cons (pv 3) pa_nil)))) (pe_tup (pa_cons (pv 4) (pa_cons (pv 3) pa_nil))) (nomark _)))))))), ?_⟩
    refine ⟨_, rfl, _, rfl, _, _, rfl, rfl, _, rfl, ?_⟩
    by_cases c : b ≤ a
    · refine iteS (by omega) ?_
      have e : neverB is x a b = false := by
        unfold neverB
        rw [decide_eq_false (by omega), Bool.false_and]
      have := q H (Same.refl H)
      rw [e] at this
      exact this
    · refine iteNo (by omega) ?_
      refine ⟨_, rfl, _, rfl, _, rfl, p, is, x, a, rfl, hp, j1, j2, j3, j4, j5, fun k1 d1 rs1 hg1 t t1 t2 H1 s1 h1 h2 h3 => ?_, fun hg1 H1 s1 => ?_⟩
      · refine ⟨t, _, rfl, SqT.of h1, rfl, _, _, rfl, _, _, rfl, rfl, ?_⟩
        refine ⟨_, rfl, _, rfl, rfl, _, rfl, ?_⟩
        by_cases ca : d1 = a
        · refine iteTb (decide_eq_true (by rw [ca])) ?_
          refine ⟨_, rfl, _, rfl, _, rfl, p, is, x, b, rfl, hp.same s1, j1, j2, j6, j4, j5, fun k2 d2 rs2 hg2 r r1 r2 H2 s2 g1 g2 g3 => ?_, fun hg2 H2 s2 => ?_⟩
          · refine ⟨_, rfl, _, rfl, (by show 2 ≤ sizeLine; omega), fun u nu => ?_⟩
            have s3 := Same.upd (o := .tup [.ref t1, .int (b : Nat)]) nu
            have e : neverB is x a b = PyData.eqv (.tuple [stD k2 rs2, .int (d2 : Nat)]) (.tuple [stD k1 rs1, .int (b : Nat)]) := by
              rw [eqv_states]
              unfold neverB
              rw [hg1, hg2, decide_eq_true (by omega), Bool.true_and]
              show (decide (d1 = a) && decide (k2 = k1 ∧ rs2 = rs1 ∧ d2 = b)) = _
              rw [decide_eq_true ca, Bool.true_and]
            refine ⟨_, _, .tup (SqT.of (s3 _ _ g1)) (.cons (stD_dp (s3 _ _ g2) (s3 _ _ g3)) (.cons (.int _) .nil)), .tup (SqT.of upd_same) (.cons (stD_dp (s3 _ _ (s2 _ _ h2)) (s3 _ _ (s2 _ _ h3))) (.cons (.int _) .nil)), st2_shaped _ _ _, st2_shaped _ _ _, ?_⟩
            · have := q (upd H2 u (.tup [.ref t1, .int (b : Nat)])) ((s1.trans s2).trans s3)
              rw [e] at this
              exact this
          · have e : neverB is x a b = false := by
              unfold neverB
              rw [hg1, hg2]
              simp
            refine qe e H2 (s1.trans s2)
        · refine iteFb (decide_eq_false fun z => ca (by have := V.int.inj z; omega)) ?_
          have e : neverB is x a b = false := by
            unfold neverB
            rw [hg1]
            cases go is b 0 (rs0 x) with
            | none => simp
            | some y =>
              show (decide (a < b) && (decide (d1 = a) && _)) = false
              rw [decide_eq_false ca, Bool.false_and, Bool.and_false]
          have := q H1 s1
          rw [e] at this
          exact this
      · have e : neverB is x a b = false := by
          unfold neverB
          rw [hg1]
          simp
        exact qe e H1 s1
abbrev s_is_shown : Stmt := topS 92
abbrev nm_is_shown : List Str := ["claim", "word", "parts", "check"]
theorem sc_is_shown : FnScope nm_is_shown ["claim"] (defScope s_is_shown) := ⟨rfl, rfl, rfl, by decide +kernel, rfl, by decide +kernel, by decide +kernel⟩
theorem claimD_at {w sh : Str} {ds : List PyData} (h : formsL.lookup w = some sh) (hl : ds.length = sh.length) (ha : ((sh.cps.toList.zip ds).all fun q => partD q.1 q.2) = true) : claimD (.tuple (.str w :: ds)) = true := by
  show (match formsL.lookup w with | some sh => decide (ds.length = sh.length) && (sh.cps.toList.zip ds).all fun q => partD q.1 q.2 | none => false) = true
  rw [h]
  show (decide (ds.length = sh.length) && (sh.cps.toList.zip ds).all fun q => partD q.1 q.2) = true
  rw [ha, decide_eq_true hl]
  rfl
theorem treeD2_ok {x : Tr} (h : x.sg.length ≤ 200000) : treeD2 (.str x.str) = true := by
  show (decide (x.str.length ≤ 200000) && isT x.sg) = true
  rw [isT_sg, Tr.str_len, decide_eq_true h]
  rfl
theorem numD_ok {n : Nat} (h : n ≤ 1000000) : numD (.int (n : Nat)) = true := by
  show (decide (0 ≤ (n : Int)) && decide ((n : Int) ≤ 1000000)) = true
  rw [decide_eq_true (by omega), decide_eq_true (by omega)]
  rfl
def sp_is_shown (K : PySem.W.Frag) (cl : Cn → Addr) : Sp := fun vs H Q E => ∃ (c p : Addr) (is : List Ins) (x : Tr), vs = [.ref c] ∧ PgAt H p is ∧ progOk (progD is) = true ∧ x.sg.length ≤ 200000 ∧
  ((∃ n : Nat, n ≤ 1000000 ∧ RunOk is x n ∧ H c = some (.tup [.str "lasts", .ref p, .str x.str, .int n]) ∧ ∀ H', Same H H' → Q (.bl (lastsB is x n)) H') ∨
   (∃ (y : Tr) (n : Nat), y.sg.length ≤ 200000 ∧ n ≤ 1000000 ∧ RunOk is x n ∧ H c = some (.tup [.str "returns", .ref p, .str x.str, .str y.str, .int n]) ∧ ∀ H', Same H H' → Q (.bl (returnsB is x y n)) H') ∨
   (∃ a b : Nat, a ≤ 1000000 ∧ b ≤ 1000000 ∧ RunOk is x a ∧ RunOk is x b ∧ H c = some (.tup [.str "never", .ref p, .str x.str, .int a, .int b]) ∧ ∀ H', Same H H' → Q (.bl (neverB is x a b)) H'))
theorem ok_is_shown (T : Txt K mg cl w) (H_is_claim : Has P w K mg base CX0 7 "is_claim" ["value"] (sp_is_claim K cl)) (H_shows_returns : Has P w K mg base (L2.CX P w) 7 "_shows_returns" ["program", "x", "result", "steps"] (sp_shows_returns K cl)) (H_shows_lasts : Has P w K mg base (L2.CX P w) 7 "_shows_lasts" ["program", "x", "steps"] (sp_shows_lasts K cl)) (H_shows_never : Has P w K mg base (L2.CX P w) 7 "_shows_never" ["program", "x", "early", "late"] (sp_shows_never K cl)) {f : Addr} {fd : FuncData} (F : Fun K "is_shown" "is_shown" s_is_shown f fd) : FnOk P w K mg base CX0 8 f fd ["claim"] (sp_is_shown K cl) := by
  obtain ⟨m_CHECKS, es_CHECKS, n_CHECKS, D_CHECKS⟩ := T.m_CHECKS
  obtain ⟨g_NarcissusError, x_NarcissusError⟩ := T.e_NarcissusError
  obtain ⟨g_Machine, c_Machine⟩ := T.m_Machine
  have n_heads := T.n_Machine_heads
  have n_tails := T.n_Machine_tails
  have n_sizes := T.n_Machine_sizes
  have n_at := T.n_Machine_at
  have n_registers := T.n_Machine_registers
  have n_plan := T.n_Machine_plan
  obtain ⟨f_is_claim, d_is_claim, G_is_claim, g_is_claim, k_is_claim, b_is_claim⟩ := H_is_claim.ex
  obtain ⟨f_shows_returns, d_shows_returns, G_shows_returns, g_shows_returns, k_shows_returns, b_shows_returns⟩ := H_shows_returns.ex
  obtain ⟨f_shows_lasts, d_shows_lasts, G_shows_lasts, g_shows_lasts, k_shows_lasts, b_shows_lasts⟩ := H_shows_lasts.ex
  obtain ⟨f_shows_never, d_shows_never, G_shows_never, g_shows_never, k_shows_never, b_shows_never⟩ := H_shows_never.ex
  have K_returns := kdct_fn D_CHECKS g_shows_returns T.h_CHECKS_returns
  have K_lasts := kdct_fn D_CHECKS g_shows_lasts T.h_CHECKS_lasts
  have K_never := kdct_fn D_CHECKS g_shows_never T.h_CHECKS_never
  refine F.ok sc_is_shown (fun vs H Q E h => ?_) (fun cdv A outer s H vs Q E hr h => ?_)
  · obtain ⟨c, p, is, x, rfl, _⟩ := h
    rfl
  · obtain ⟨c, p, is, x, rfl, hp, hok, hx, h⟩ := h
    have hz : sizeLine = 16777216 := rfl
    have vstr : ∀ {u : Tr}, u.sg.length ≤ 200000 → Vd H (.str u.str) (.str u.str) := fun {u} hu => .str _ (by rw [Tr.str_len]; omega)
    have vpg : ∀ n, RunOk is x n → Vd H (.ref p) (progD is) := fun n r => hp.vd (by have := r.2.2.2.2; omega) fun i hi => by
      have := (r.2.1 i hi).2
      omega
    obtain ⟨wd, ps, f0, sp, b, d, hc, hpl, hk, hS, hv, hcl, hcall, q⟩ : ∃ (wd : Str) (ps : List V) (f0 : Addr) (sp : Sp) (b : Bool) (d : PyData), H c = some (.tup (.str wd :: ps)) ∧ ps.length ≤ 10 ∧ KDct K w (cl .CHECKS) wd (.ref f0) ∧
        ((f0 = f_shows_returns ∧ sp = sp_shows_returns K cl) ∨ (f0 = f_shows_lasts ∧ sp = sp_shows_lasts K cl) ∨ (f0 = f_shows_never ∧ sp = sp_shows_never K cl)) ∧ Vd H (.ref c) d ∧ claimD d = true ∧
        (∀ (H1 : Hp) (Q' : VK) (E' : XK), Same H H1 → (∀ H', Same H1 H' → Q' (.bl b) H') → (b = false → ∀ H', Same H1 H' → E' (.ref (cl .OutOfSteps)) none H' ∧ E' (.ref (cl .TooLarge)) none H') → sp ps H1 Q' E') ∧
        (∀ H', Same H H' → Q (.bl b) H') := by
      rcases h with ⟨n, hn, r, hc, q⟩ | ⟨y, n, hy, hn, r, hc, q⟩ | ⟨a, b, ha, hb, ra, rb, hc, q⟩
      · refine ⟨_, _, _, _, _, _, hc, (by show 3 ≤ 10; omega), K_lasts, .inr (.inl ⟨rfl, rfl⟩), .tup hc (by show 4 ≤ 1000000; omega) (.cons (.str _ (by decide +kernel)) (.cons (vpg n r) (.cons (vstr hx) (.cons (.int _) .nil)))), claimD_at (sh := Str.ofString "ptn") (by decide +kernel) rfl ?_, fun H1 Q' E' s1 hq he => ⟨p, is, x, n, rfl, hp.same s1, r, hq, fun e H' sm => (he e H' sm).2⟩, q⟩
        show (progOk (progD is) && (treeD2 (.str x.str) && (numD (.int (n : Nat)) && true))) = true
        rw [hok, treeD2_ok hx, numD_ok hn]
        rfl
      · refine ⟨_, _, _, _, _, _, hc, (by show 4 ≤ 10; omega), K_returns, .inl ⟨rfl, rfl⟩, .tup hc (by show 5 ≤ 1000000; omega) (.cons (.str _ (by decide +kernel)) (.cons (vpg n r) (.cons (vstr hx) (.cons (vstr hy) (.cons (.int _) .nil))))), claimD_at (sh := Str.ofString "pttn") (by decide +kernel) rfl ?_, fun H1 Q' E' s1 hq he => ⟨p, is, x, y, n, rfl, hp.same s1, r, hq, he⟩, q⟩
        show (progOk (progD is) && (treeD2 (.str x.str) && (treeD2 (.str y.str) && (numD (.int (n : Nat)) && true)))) = true
        rw [hok, treeD2_ok hx, treeD2_ok hy, numD_ok hn]
        rfl
      · refine ⟨_, _, _, _, _, _, hc, (by show 4 ≤ 10; omega), K_never, .inr (.inr ⟨rfl, rfl⟩), .tup hc (by show 5 ≤ 1000000; omega) (.cons (.str _ (by decide +kernel)) (.cons (vpg a ra) (.cons (vstr hx) (.cons (.int _) (.cons (.int _) .nil))))), claimD_at (sh := Str.ofString "ptnn") (by decide +kernel) rfl ?_, fun H1 Q' E' s1 hq he => ⟨p, is, x, a, b, rfl, hp.same s1, ra, rb, hq, fun e H' sm => (he e H' sm).2⟩, q⟩
        show (progOk (progD is) && (treeD2 (.str x.str) && (numD (.int (a : Nat)) && (numD (.int (b : Nat)) && true)))) = true
        rw [hok, treeD2_ok hx, numD_ok ha, numD_ok hb]
        rfl
    refine ⟨_, (pss_cons (ps_if (pt_not (pt_val (pe_call G_is_claim (hr.mono (by decide)) (by rfl) g_is_claim k_is_claim b_is_claim .nil pass0 (pa_cons (pv 0) pa_nil)))) (pss_one (ps_ret pe_bl)) pss_nil)
      (pss_cons (ps_asg (pv 0) (pg_star rfl (pgs_cons (pg_name (i := 1) sc_is_shown.nd rfl (Or.inl rfl)) (pgs_star (pg_name (i := 2) sc_is_shown.nd rfl (Or.inl rfl)) pgs_nil))))
      (pss_cons (ps_set (i := 3) sc_is_shown.nd rfl (Or.inl rfl) (pe_ix ix_kdict (pe_glob (v := .ref (cl .CHECKS)) (by rfl) m_CHECKS rfl) (pv 1) (fun _ _ => rfl)))
      (pss_one (ps_try_only rfl rfl ⟨rfl, by decide, .inl g_NarcissusError⟩ takes0 (fun W pn xe tk po => (pss_one (ps_ret (pe_callAS (K := K) rfl (i := 3) (x := "check") (S := fun f sp => (f = f_shows_returns ∧ sp = sp_shows_returns K cl) ∨ (f = f_shows_lasts ∧ sp = sp_shows_lasts K cl) ∨ (f = f_shows_never ∧ sp = sp_shows_never K cl)) (fun f sp h => by
        rcases h with ⟨rfl, rfl⟩ | ⟨rfl, rfl⟩ | ⟨rfl, rfl⟩
        · exact ⟨⟨_, _, G_shows_returns.mono (by decide), k_shows_returns, b_shows_returns⟩⟩
        · exact ⟨⟨_, _, G_shows_lasts.mono (by decide), k_shows_lasts, b_shows_lasts⟩⟩
        · exact ⟨⟨_, _, G_shows_never.mono (by decide), k_shows_never, b_shows_never⟩⟩) hr (by rfl) (.inl rfl) (fun σ => passAt tk σ) (pv 2)))))
      (fun a oe cls d pn hz hf => (pss_one (ps_ret pe_bl)))))))), ?_⟩
    refine ⟨_, rfl, .ref c, d, rfl, hv, fun H1 s1 => ?_⟩
    rw [hcl]
    refine ⟨_, rfl, iteFb rfl ?_⟩
    refine ⟨_, rfl, c, .str wd, ps, rfl, SqT.of (s1 _ _ hc), by omega, fun P nP => ?_⟩
    have s2 := Same.upd (o := .lst ps) nP
    refine ⟨_, _, rfl, _, _, rfl, rfl, ?_⟩
    refine ⟨_, rfl, _, _, _, rfl, rfl, hk, ?_⟩
    refine ⟨f0, sp, rfl, hS, _, rfl, P, ps, rfl, .inr (SqL.of upd_same), hcall _ _ _ (s1.trans s2) (fun H' sm => ?_) (fun e H' sm => ⟨?_, ?_⟩)⟩
    · exact q _ ((s1.trans s2).trans sm)
    · exact ⟨true, PySem.W.exm_ref x_NarcissusError.b x_NarcissusError.c.hd x_NarcissusError.t (T.p_OutOfSteps_NarcissusError.2), fun _ a na => (by rw [e] at q; exact q _ ((s1.trans s2).trans sm)), fun z => (by cases z)⟩
    · exact ⟨true, PySem.W.exm_ref x_NarcissusError.b x_NarcissusError.c.hd x_NarcissusError.t (T.p_TooLarge_NarcissusError.2), fun _ a na => (by rw [e] at q; exact q _ ((s1.trans s2).trans sm)), fun z => (by cases z)⟩
abbrev s_law_out : Stmt := topS 99
abbrev nm_law_out : List Str := ["world", "tree", "signs", "waiting", "one"]
theorem sc_law_out : FnScope nm_law_out ["world", "tree"] (defScope s_law_out) := ⟨rfl, rfl, rfl, by decide +kernel, rfl, by decide +kernel, by decide +kernel⟩
def sp_law_out (K : PySem.W.Frag) (cl : Cn → Addr) : Sp := fun vs H Q E => ∃ (W Ah At As Ap : Addr) (T : List Tr) (n : Nat) (t : Tr), vs = [.ref W, .int n] ∧ WAt H W Ah At As Ap T ∧ T[n]? = some t ∧ t.sg.length ≤ 1000000 ∧
  ∀ H', Same H H' → Q (.str t.str) H'
theorem ok_law_out (T : Txt K mg cl w) {f : Addr} {fd : FuncData} (F : Fun K "_law_out" "_law_out" s_law_out f fd) : FnOk P w K mg base CX0 1 f fd ["world", "tree"] (sp_law_out K cl) := by
  have m_len := T.m_len
  obtain ⟨g_Machine, c_Machine⟩ := T.m_Machine
  have n_heads := T.n_Machine_heads
  have n_tails := T.n_Machine_tails
  have n_sizes := T.n_Machine_sizes
  have n_at := T.n_Machine_at
  have n_registers := T.n_Machine_registers
  have n_plan := T.n_Machine_plan
  refine F.ok sc_law_out (fun vs H Q E h => ?_) (fun cdv A outer s H vs Q E hr h => ?_)
  · obtain ⟨o, Ah, At, As, Ap, T, n, t, rfl, _⟩ := h
    rfl
  · obtain ⟨o, Ah, At, As, Ap, T, n, t, rfl, hwd, hn, hl, q⟩ := h
    have hsl : sizeLine = 16777216 := rfl
    obtain ⟨hs, ts, c1, c2, c3, g⟩ := hwd.tb.get
    refine ⟨_, (pss_cons (ps_set (i := 2) sc_law_out.nd rfl (Or.inl rfl) (pe_lst pa_nil))
      (pss_cons (ps_set (i := 3) sc_law_out.nd rfl (Or.inl rfl) (pe_lst (pa_cons (pv 1) pa_nil)))
      (pss_cons (ps_while PassesOwn.never (pt_cmpR op_gt (pe_callB (call_lenS : CallR _ _ (rLenS K)) (by rfl) m_len (by decide +kernel) (pa_cons (pv 3) pa_nil)) pe_int (nomark _)) (pss_cons (ps_set (i := 4) sc_law_out.nd rfl (Or.inl rfl) (pe_bm0 PySem.F.plainAttrs_list PySem.F.slot_list_pop PySem.F.type_list_pop mt_pop (pv 3)))
      (pss_one (ps_if (pt_cmpR op_eq (pv 4) pe_int (nomark _)) (pss_one (ps_expr (pe_bm PySem.F.plainAttrs_list PySem.F.slot_list_append PySem.F.type_list_append mt_append (pv 2) (pa_cons pe_str pa_nil)))) (pss_cons (ps_expr (pe_bm PySem.F.plainAttrs_list PySem.F.slot_list_append PySem.F.type_list_append mt_append (pv 2) (pa_cons pe_str pa_nil)))
      (pss_cons (ps_expr (pe_bm PySem.F.plainAttrs_list PySem.F.slot_list_append PySem.F.type_list_append mt_append (pv 3) (pa_cons (pe_ix (ix_list : IxR _ (rIxL K)) (pe_dget (hu_of hr) (pv 0) pe_str (fun _ _ => rfl)) (pv 4) (fun _ _ => rfl)) pa_nil)))
      (pss_one (ps_expr (pe_bm PySem.F.plainAttrs_list PySem.F.slot_list_append PySem.F.type_list_append mt_append (pv 3) (pa_cons (pe_ix (ix_list : IxR _ (rIxL K)) (pe_dget (hu_of hr) (pv 0) pe_str (fun _ _ => rfl)) (pv 4) (fun _ _ => rfl)) pa_nil))))))))))
      (pss_one (ps_ret (pe_join pe_str (pv 2))))))), ?_⟩
    refine ⟨(by show 0 ≤ sizeLine; omega), fun S nS => ?_⟩
    have q1 : upd H S (.lst []) S = some (.lst []) := upd_same
    have sm1 := Same.upd (o := .lst []) nS
    generalize upd H S (.lst []) = H1 at q1 sm1 ⊢
    refine ⟨_, rfl, (by show 1 ≤ sizeLine; omega), fun W nW => ?_⟩
    have q2 : upd H1 W (.lst [.int n]) W = some (.lst [.int n]) := upd_same
    have sm2 := Same.upd (o := .lst [.int n]) nW
    have nSW : S ≠ W := ne_of_none q1 nW
    have nW0 : H W = none := by
      cases e : H W with
      | none => rfl
      | some u => rw [sm1 W u e] at nW; cases nW
    generalize upd H1 W (.lst [V.int n]) = H2 at q2 sm2 ⊢
    have put : ∀ {X : Hp} (a : Addr) (u : HO), Same H X → H a = none → Same H (upd X a u) := fun {X} a u sm na b v e => by
      rw [upd_ne (ne_of_none e na)]
      exact sm b v e
    refine ⟨fun m σ H' => ∃ (v : Option V) (ns : List Nat) (us : List Tr) (l : List Nat), m = (sgs us).length ∧ σ = [some (.ref o), some (.int n), some (.ref S), some (.ref W), v] ∧ H' W = some (.lst (natsV ns.reverse)) ∧ Nums T ns us ∧ H' S = some (.lst (sgV l)) ∧ t.sg = l ++ sgs us ∧ Same H H',
      ⟨_, none, [n], [t], [], rfl, rfl, q2, .cons hn .nil, sm2 _ _ q1, by rw [sgs_cons]; show t.sg = t.sg ++ []; rw [List.append_nil], sm1.trans sm2⟩, ?_⟩
    rintro m σ H' ⟨v, ns, us, l, rfl, rfl, h1, h2, h3, h4, sm⟩
    have hll : l.length + (sgs us).length = t.sg.length := by rw [h4, List.length_append]
    have hul := sgs_len us
    have hnl := Paired.len h2
    have hn1 : (natsV ns.reverse).length = ns.length := by rw [natsV_len, List.length_reverse]
    have hs1 := sgV_len l
    refine ⟨_, rfl, _, _, rfl, .inl (SqL.of h1), _, _, rfl, rfl, _, rfl, ?_⟩
    cases h2 with
    | nil =>
      refine iteNo (by show ¬ ((0 : Int) < 0); omega) ?_
      have e : t.sg = l := by rw [h4]; show l ++ [] = l; rw [List.append_nil]
      refine ⟨⟨_, rfl⟩, _, rfl, _, S, _, rfl, rfl, .inl (SqL.of h3), (by show _ + _ * 0 ≤ _; rw [sgV_sum]; omega), ?_⟩
      rw [sgV_join, ← e]
      exact q _ sm
    | @cons n1 u ns1 us1 p1 h2 =>
      rw [List.length_cons] at hul hn1
      rw [List.length_cons, List.length_cons] at hnl
      refine iteS (by show (0 : Int) < _; omega) ⟨_, fun σ' H' z => z, ?_⟩
      rw [List.reverse_cons] at h1
      refine ⟨_, rfl, .inl ⟨rfl, _, SqL.of h1⟩, _, _, _, rfl, rfl, h1, natsV_pop _ _, ?_⟩
      rw [natsV_drop]
      have w1 : upd H' W (.lst (natsV ns1.reverse)) W = some (.lst (natsV ns1.reverse)) := upd_same
      have x1 : upd H' W (.lst (natsV ns1.reverse)) S = some (.lst (sgV l)) := (upd_ne nSW).trans h3
      have y1 := put W (.lst (natsV ns1.reverse)) sm nW0
      generalize upd H' W (.lst (natsV ns1.reverse)) = H3 at w1 x1 y1 ⊢
      refine ⟨_, rfl, rfl, _, rfl, ?_⟩
      rw [sgs_cons] at h4 hll hul ⊢
      by_cases c : n1 = 0
      · have eu : u = .leaf := by
          rw [c, g.z] at p1
          exact (Option.some.inj p1).symm
        subst eu
        refine iteS (by rw [c]; rfl) ⟨_, rfl, .inl ⟨rfl, _, SqL.of x1⟩, _, _, _, rfl, rfl, x1, (by omega), ?_⟩
        rw [s0, sgV_app]
        refine ⟨_, ?_, _, ns1, us1, l ++ [48], rfl, rfl, (upd_ne nSW.symm).trans w1, h2, upd_same, ?_, put S _ y1 nS⟩
        · show (sgs us1).length < ([48] ++ sgs us1).length
          rw [List.length_append, List.length_singleton]
          omega
        · rw [h4, List.append_assoc]
          rfl
      · have nl : u ≠ .leaf := g.no n1 u c p1
        cases u with
        | leaf => exact absurd rfl nl
        | node a b =>
        obtain ⟨hh, kk, d1, d2, d3, d4⟩ := g.at_ n1 _ p1
        refine iteNo (fun z => c (by have := V.int.inj z; omega)) ⟨_, rfl, .inl ⟨rfl, _, SqL.of x1⟩, _, _, _, rfl, rfl, x1, (by omega), ?_⟩
        rw [s1, sgV_app]
        have w2 : upd H3 S (.lst (sgV (l ++ [49]))) W = some (.lst (natsV ns1.reverse)) := (upd_ne nSW.symm).trans w1
        have x2 : upd H3 S (.lst (sgV (l ++ [49]))) S = some (.lst (sgV (l ++ [49]))) := upd_same
        have y2 := put S (.lst (sgV (l ++ [49]))) y1 nS
        generalize upd H3 S (.lst (sgV (l ++ [49]))) = H4 at w2 x2 y2 ⊢
        have hn2 : (natsV ns1.reverse).length = ns1.length := by rw [natsV_len, List.length_reverse]
        refine ⟨_, rfl, .inl ⟨rfl, _, SqL.of w2⟩, _, rfl, _, _, rfl, (hwd.same y2).gt, _, rfl, _, _, _, _, rfl, rfl, SqL.of (y2 _ _ c2), natsV_at d2, _, _, _, rfl, rfl, w2, (by omega), ?_⟩
        rw [natsV_app]
        have w3 : upd H4 W (.lst (natsV (ns1.reverse ++ [kk]))) W = some (.lst (natsV (ns1.reverse ++ [kk]))) := upd_same
        have x3 : upd H4 W (.lst (natsV (ns1.reverse ++ [kk]))) S = some (.lst (sgV (l ++ [49]))) := (upd_ne nSW).trans x2
        have y3 := put W (.lst (natsV (ns1.reverse ++ [kk]))) y2 nW0
        generalize upd H4 W (.lst (natsV (ns1.reverse ++ [kk]))) = H5 at w3 x3 y3 ⊢
        have hn3 : (natsV (ns1.reverse ++ [kk])).length = ns1.length + 1 := by rw [natsV_len, List.length_append, List.length_reverse]; rfl
        refine ⟨_, rfl, .inl ⟨rfl, _, SqL.of w3⟩, _, rfl, _, _, rfl, (hwd.same y3).gh, _, rfl, _, _, _, _, rfl, rfl, SqL.of (y3 _ _ c1), natsV_at d1, _, _, _, rfl, rfl, w3, (by omega), ?_⟩
        rw [natsV_app]
        have es : (Tr.node a b).sg ++ sgs us1 = [49] ++ sgs (a :: b :: us1) := by
          rw [sgs_cons, sgs_cons]
          show 49 :: (a.sg ++ b.sg) ++ _ = _
          simp [List.append_assoc]
        refine ⟨_, ?_, _, hh :: kk :: ns1, a :: b :: us1, l ++ [49], rfl, rfl, ?_, .cons d3 (.cons d4 h2), (upd_ne nSW).trans x3, ?_, put W _ y3 nW0⟩
        · rw [es, List.length_append, List.length_singleton]
          omega
        · rw [List.reverse_cons, List.reverse_cons]
          exact upd_same
        · rw [h4, es, List.append_assoc]
abbrev s_law : Stmt := topS 108
abbrev nm_law : List Str := ["script", "stream", "world", "program", "r", "x", "first", "second", "many", "found", "lasts", "results", "shown", "y"]
theorem sc_law : FnScope nm_law ["script"] (defScope s_law) := ⟨rfl, rfl, rfl, by decide +kernel, rfl, by decide +kernel, by decide +kernel⟩
def sp_law (K : PySem.W.Frag) (cl : Cn → Addr) : Sp := fun vs H Q _ => ∃ (a : Addr) (ns : List Int), vs = [.ref a] ∧ SqL K H a (ns.map V.int) ∧ ns.length ≤ 63 ∧ ∀ H', Q (.bl true) H'
def preL (r k : Nat) : List Ins := [.set r (numT k), .tail r r, .jump r (-1)]
theorem preL_ok {r k : Nat} {is : List Ins} (hr : r < 20) (hk : k ≤ 10) (h : PgOk 20 4 is) : PgOk 20 10 (preL r k ++ is) := by
  refine PgOk.app (fun i x hx => ?_) (h.more (by decide))
  match i, hx with
  | 0, hx =>
    have hx : some (Ins.set r (numT k)) = some x := hx
    cases hx
    have h1 := numT_len k
    have h2 := (numT k).sg_len
    exact ⟨hr, by omega⟩
  | 1, hx =>
    have hx : some (Ins.tail r r) = some x := hx
    cases hx
    exact ⟨hr, hr⟩
  | 2, hx =>
    have hx : some (Ins.jump r (-1)) = some x := hx
    cases hx
    exact ⟨hr, by decide, (show (((2 : Nat) : Int) + -1 ≤ ((3 : Nat) : Int)) by decide)⟩
  | i + 3, hx =>
    have hx : ([] : List Ins)[i]? = some x := hx
    cases hx
theorem ok_law (T : Txt K mg cl w) (H_law_stream : Has P w K mg base CX0 1 "_law_stream" ["script"] (sp_law_stream K cl)) (H_law_world : Has P w K mg base CX0 1 "_law_world" [] (sp_law_world K cl)) (H_law_program : Has P w K mg base CX0 44 "_law_program" ["stream"] (sp_law_program K cl)) (H_law_tree : Has P w K mg base CX0 42 "_law_tree" ["stream", "pairs"] (sp_law_tree K cl)) (H_law_draw : Has P w K mg base CX0 1 "_law_draw" ["stream", "many"] (sp_law_draw K cl)) (H_law_run : Has P w K mg base CX0 4 "_law_run" ["world", "program", "x", "steps"] (sp_law_run K cl)) (H_is_shown : Has P w K mg base CX0 8 "is_shown" ["claim"] (sp_is_shown K cl)) (H_law_in : Has P w K mg base CX0 2 "_law_in" ["world", "text"] (sp_law_in K cl)) (H_law_out : Has P w K mg base CX0 1 "_law_out" ["world", "tree"] (sp_law_out K cl)) {f : Addr} {fd : FuncData} (F : Fun K "law" "law" s_law f fd) : FnOk P w K mg base CX0 45 f fd ["script"] (sp_law K cl) := by
  have m_len := T.m_len
  obtain ⟨g_Machine, c_Machine⟩ := T.m_Machine
  have n_heads := T.n_Machine_heads
  have n_tails := T.n_Machine_tails
  have n_sizes := T.n_Machine_sizes
  have n_at := T.n_Machine_at
  have n_registers := T.n_Machine_registers
  have n_plan := T.n_Machine_plan
  obtain ⟨f_law_stream, d_law_stream, G_law_stream, g_law_stream, k_law_stream, b_law_stream⟩ := H_law_stream.ex
  obtain ⟨f_law_world, d_law_world, G_law_world, g_law_world, k_law_world, b_law_world⟩ := H_law_world.ex
  obtain ⟨f_law_program, d_law_program, G_law_program, g_law_program, k_law_program, b_law_program⟩ := H_law_program.ex
  obtain ⟨f_law_tree, d_law_tree, G_law_tree, g_law_tree, k_law_tree, b_law_tree⟩ := H_law_tree.ex
  obtain ⟨f_law_draw, d_law_draw, G_law_draw, g_law_draw, k_law_draw, b_law_draw⟩ := H_law_draw.ex
  obtain ⟨f_law_run, d_law_run, G_law_run, g_law_run, k_law_run, b_law_run⟩ := H_law_run.ex
  obtain ⟨f_is_shown, d_is_shown, G_is_shown, g_is_shown, k_is_shown, b_is_shown⟩ := H_is_shown.ex
  obtain ⟨f_law_in, d_law_in, G_law_in, g_law_in, k_law_in, b_law_in⟩ := H_law_in.ex
  obtain ⟨f_law_out, d_law_out, G_law_out, g_law_out, k_law_out, b_law_out⟩ := H_law_out.ex
  refine F.ok sc_law (fun vs H Q E h => ?_) (fun cdv A outer s H vs Q E hr h => ?_)
  · obtain ⟨a, ns, rfl, _⟩ := h
    rfl
  · obtain ⟨a, ns, rfl, hS, hlen, q⟩ := h
    have hz : sizeLine = 16777216 := rfl
    refine ⟨_, (pss_cons (ps_set (i := 1) sc_law.nd rfl (Or.inl rfl) (pe_call G_law_stream (hr.mono (by decide)) (by rfl) g_law_stream k_law_stream b_law_stream .nil pass0 (pa_cons (pv 0) pa_nil)))
      (pss_cons (ps_set (i := 2) sc_law.nd rfl (Or.inl rfl) (pe_call0 G_law_world (hr.mono (by decide)) (by rfl) g_law_world k_law_world b_law_world .nil pass0))
      (pss_cons (ps_set (i := 3) sc_law.nd rfl (Or.inl rfl) (pe_call G_law_program (hr.mono (by decide)) (by rfl) g_law_program k_law_program b_law_program .nil pass0 (pa_cons (pv 1) pa_nil)))
      (Evl.pss_cut (ps_if (pt_cmpR op_eq (pe_call G_law_draw (hr.mono (by decide)) (by rfl) g_law_draw k_law_draw b_law_draw .nil pass0 (pa_cons (pv 1) (pa_cons pe_int pa_nil))) pe_int (nomark _)) (pss_cons (ps_set (i := 4) sc_law.nd rfl (Or.inl rfl) (pe_op op_add pe_int (pe_call G_law_draw (hr.mono (by decide)) (by rfl) g_law_draw k_law_draw b_law_draw .nil pass0 (pa_cons (pv 1) (pa_cons pe_int pa_nil)))))
      (pss_one (ps_set (i := 3) sc_law.nd rfl (Or.inl rfl) (pe_op op_cat (pe_lst (pa_cons (pe_tup (pa_cons pe_str (pa_cons (pv 4) (pa_cons (pe_op op_add_str (pe_op op_mulS pe_str (pe_call G_law_draw (hr.mono (by decide)) (by rfl) g_law_draw k_law_draw b_law_draw .nil pass0 (pa_cons (pv 1) (pa_cons pe_int pa_nil)))) pe_str) pa_nil)))) (pa_cons (pe_tup (pa_cons pe_str (pa_cons (pv 4) (pa_cons (pv 4) pa_nil)))) (pa_cons (pe_tup (pa_cons pe_str (pa_cons (pv 4) (pa_cons (pe_un un_neg pe_int) pa_nil)))) pa_nil)))) (pv 3))))) pss_nil)
      (pss_cons (ps_set (i := 5) sc_law.nd rfl (Or.inl rfl) (pe_call G_law_tree (hr.mono (by decide)) (by rfl) g_law_tree k_law_tree b_law_tree .nil pass0 (pa_cons (pv 1) (pa_cons (pe_call G_law_draw (hr.mono (by decide)) (by rfl) g_law_draw k_law_draw b_law_draw .nil pass0 (pa_cons (pv 1) (pa_cons pe_int pa_nil))) pa_nil))))
      (pss_cons (ps_set (i := 6) sc_law.nd rfl (Or.inl rfl) (pe_call G_law_draw (hr.mono (by decide)) (by rfl) g_law_draw k_law_draw b_law_draw .nil pass0 (pa_cons (pv 1) (pa_cons pe_int pa_nil))))
      (pss_cons (ps_set (i := 7) sc_law.nd rfl (Or.inl rfl) (pe_op op_add (pe_op op_add (pv 6) pe_int) (pe_call G_law_draw (hr.mono (by decide)) (by rfl) g_law_draw k_law_draw b_law_draw .nil pass0 (pa_cons (pv 1) (pa_cons pe_int pa_nil)))))
      (pss_cons (ps_set (i := 8) sc_law.nd rfl (Or.inl rfl) (pe_call G_law_draw (hr.mono (by decide)) (by rfl) g_law_draw k_law_draw b_law_draw .nil pass0 (pa_cons (pv 1) (pa_cons pe_int pa_nil))))
      (pss_cons (ps_set (i := 9) sc_law.nd rfl (Or.inl rfl) (pe_call G_law_run (hr.mono (by decide)) (by rfl) g_law_run k_law_run b_law_run .nil pass0 (pa_cons (pv 2) (pa_cons (pv 3) (pa_cons (pe_call G_law_in (hr.mono (by decide)) (by rfl) g_law_in k_law_in b_law_in .nil pass0 (pa_cons (pv 2) (pa_cons (pv 5) pa_nil))) (pa_cons pe_int pa_nil))))))
      (pss_cons (ps_set (i := 10) sc_law.nd rfl (Or.inl rfl) (pe_call G_is_shown (hr.mono (by decide)) (by rfl) g_is_shown k_is_shown b_is_shown .nil pass0 (pa_cons (pe_tup (pa_cons pe_str (pa_cons (pv 3) (pa_cons (pv 5) (pa_cons (pv 8) pa_nil))))) pa_nil)))
      (pss_cons (ps_set (i := 11) sc_law.nd rfl (Or.inl rfl) (pe_lst (pa_cons pe_str (pa_cons pe_str (pa_cons (pe_call G_law_tree (hr.mono (by decide)) (by rfl) g_law_tree k_law_tree b_law_tree .nil pass0 (pa_cons (pv 1) (pa_cons (pe_call G_law_draw (hr.mono (by decide)) (by rfl) g_law_draw k_law_draw b_law_draw .nil pass0 (pa_cons (pv 1) (pa_cons pe_int pa_nil))) pa_nil))) pa_nil)))))
      (Evl.pss_cut (ps_if (PW.pt (pw_and (pt_cmpR op_notN (pv 9) pe_non (nomark _)) (pw_and (pt_cmpR (op_neD hr.units : OpR _ _ (rNeD K)) (pv 9) pe_str (nomark _)) (pw_and1 (pt_cmpR op_lt (pe_ix (ix_list : IxR _ (rIxL K)) (pe_dget (hu_of hr) (pv 2) pe_str (fun _ _ => rfl)) (pe_ix (ix_tup : IxR _ (rIxT K)) (pv 9) pe_int (fun _ _ => rfl)) (fun _ _ => rfl)) pe_int (nomark _)))))) (pss_one (ps_expr (pe_bm PySem.F.plainAttrs_list PySem.F.slot_list_append PySem.F.type_list_append mt_append (pv 11) (pa_cons (pe_call G_law_out (hr.mono (by decide)) (by rfl) g_law_out k_law_out b_law_out .nil pass0 (pa_cons (pv 2) (pa_cons (pe_ix (ix_tup : IxR _ (rIxT K)) (pv 9) pe_int (fun _ _ => rfl)) pa_nil))) pa_nil)))) pss_nil)
      (pss_cons (ps_set (i := 12) sc_law.nd rfl (Or.inl rfl) (pe_lst pa_nil))
      (pss_cons (ps_for PassesOwn.never rfl (pi_list (pv 11)) (pg_name (i := 13) sc_law.nd rfl (Or.inl rfl)) (pss_one (ps_if (pt_val (pe_call G_is_shown (hr.mono (by decide)) (by rfl) g_is_shown k_is_shown b_is_shown .nil pass0 (pa_cons (pe_tup (pa_cons pe_str (pa_cons (pv 3) (pa_cons (pv 5) (pa_cons (pv 13) (pa_cons (pv 8) pa_nil)))))) pa_nil))) (pss_cons (ps_if (pt_not (pt_val (pe_call G_is_shown (hr.mono (by decide)) (by rfl) g_is_shown k_is_shown b_is_shown .nil pass0 (pa_cons (pe_tup (pa_cons pe_str (pa_cons (pv 3) (pa_cons (pv 5) (pa_cons (pv 13) (pa_cons (pe_op op_add (pv 8) (pe_call G_law_draw (hr.mono (by decide)) (by rfl) g_law_draw k_law_draw b_law_draw .nil pass0 (pa_cons (pv 1) (pa_cons pe_int pa_nil)))) pa_nil)))))) pa_nil)))) (pss_one (ps_ret pe_bl)) pss_nil)
      (pss_one (ps_if (pt_cmpR (op_notIn_seq : OpR _ _ (rIn K true)) (pv 13) (pv 12) (by rfl)) (pss_one (ps_expr (pe_bm PySem.F.plainAttrs_list PySem.F.slot_list_append PySem.F.type_list_append mt_append (pv 12) (pa_cons (pv 13) pa_nil)))) pss_nil))) pss_nil)))
      (Evl.pss_cut (ps_if (PW.pt (pw_or (pt_cmpR op_gt (pe_callB (call_lenS : CallR _ _ (rLenS K)) (by rfl) m_len (by decide +kernel) (pa_cons (pv 12) pa_nil)) pe_int (nomark _)) (pw_or1 (PW.pt (pw_and (pt_cmpR op_eq (pe_callB (call_lenS : CallR _ _ (rLenS K)) (by rfl) m_len (by decide +kernel) (pa_cons (pv 12) pa_nil)) pe_int (nomark _)) (pw_and1 (PW.pt (pw_or (pt_val (pv 10)) (pw_or1 (pt_val (pe_call G_is_shown (hr.mono (by decide)) (by rfl) g_is_shown k_is_shown b_is_shown .nil pass0 (pa_cons (pe_tup (pa_cons pe_str (pa_cons (pv 3) (pa_cons (pv 5) (pa_cons (pe_op op_add (pv 8) pe_int) pa_nil))))) pa_nil)))))))))))) (pss_one (ps_ret pe_bl)) pss_nil)
      (Evl.pss_cut (ps_if (pt_val (pe_call G_is_shown (hr.mono (by decide)) (by rfl) g_is_shown k_is_shown b_is_shown .nil pass0 (pa_cons (pe_tup (pa_cons pe_str (pa_cons (pv 3) (pa_cons (pv 5) (pa_cons (pv 6) (pa_cons (pv 7) pa_nil)))))) pa_nil))) (pss_one (ps_if (PW.pt (pw_or (pt_cmpR op_notN (pv 9) pe_non (nomark _)) (pw_or (pt_cmpR op_gt (pe_callB (call_lenS : CallR _ _ (rLenS K)) (by rfl) m_len (by decide +kernel) (pa_cons (pv 12) pa_nil)) pe_int (nomark _)) (pw_or1 (pt_not (pt_val (pv 10))))))) (pss_one (ps_ret pe_bl)) pss_nil)) pss_nil)
      (pss_one (ps_ret (pe_or (pe_not (pv 10)) (pe_or (pe_cmpR op_isN (pv 9) pe_non (nomark _)) (pe_or (pe_cmpR (op_eqD hr.units : OpR _ _ (rEqD K)) (pv 9) pe_str (nomark _)) (pe_one (pe_cmpR op_gt (pe_ix (ix_tup : IxR _ (rIxT K)) (pv 9) pe_int (fun _ _ => rfl)) (pv 8) (nomark _)))))))))))))))))))))))), ?_⟩
    refine ⟨_, rfl, a, ns, rfl, hS, hlen, fun st H1 sm n0 st1 => ?_⟩
    refine ⟨rfl, fun W Ah At As Ap H2 s2 nW w2 => ?_⟩
    have f2 := Free.of st1 s2 nW
    refine ⟨_, rfl, st, rfl, f2.sm, fun p H3 is ex3 st3 np hp hl0 hok => ?_⟩
    have w3 := w2.draw f2 ex3
    have f3 := f2.draw ex3 st3
    refine ⟨fun σ H' => ∃ (p : Addr) (is : List Ins) (v4 : Option V), σ = [some (.ref a), some (.ref st), some (.ref W), some (.ref p), v4, none, none, none, none, none, none, none, none, none] ∧ PgAt H' p is ∧ WAt H' W Ah At As Ap [.leaf] ∧ Free H' st (W :: wL Ah At As Ap) ∧ is.length ≤ 11 ∧ PgOk 20 10 is, ?_, ?_⟩
    · refine ⟨_, rfl, st, _, rfl, by decide, by decide, st3, fun k4 H4 hk4 ex4 st4 => ?_⟩
      have w4 := w3.draw f3 ex4
      have f4 := f3.draw ex4 st4
      have hp4 := hp.draw st3 ex4
      refine ⟨rfl, _, rfl, ?_⟩
      refine ite2 (fun c => ?_) (fun c => ?_)
      · refine ⟨_, rfl, st, _, rfl, by decide, by decide, st4, fun k5 H5 hk5 ex5 st5 => ?_⟩
        have w5 := w4.draw f4 ex5
        have f5 := f4.draw ex5 st5
        have hp5 := hp4.draw st4 ex5
        refine ⟨_, _, rfl, rfl, ?_⟩
        refine ⟨_, rfl, _, rfl, st, _, rfl, by decide, by decide, st5, fun k6 H6 hk6 ex6 st6 => ?_⟩
        have w6 := w5.draw f5 ex6
        have f6 := f5.draw ex6 st6
        have hp6 := hp5.draw st5 ex6
        refine ⟨_, _, rfl, rfl, (by omega), (by omega), (by show 2 * _ ≤ _; omega), _, _, rfl, rfl, (by rw [show (k6 : Int).toNat = k6 by omega, len10]; show _ + 1 ≤ _; omega), ?_⟩
        rw [show (k6 : Int).toNat = k6 by omega, num_str]
        obtain ⟨as, hpl, hrs⟩ := hp6
        refine ⟨(by show 3 ≤ sizeLine; omega), fun p1 n1 => ⟨_, rfl, _, rfl, (by show 3 ≤ sizeLine; omega), fun p2 n2 => ⟨_, rfl, _, rfl, (by show 3 ≤ sizeLine; omega), fun p3 n3 => ⟨(by show 3 ≤ sizeLine; omega), fun L nL => ?_⟩⟩⟩⟩
        have e1 : (1 : Int) + (k5 : Int) = ((1 + k5 : Nat) : Int) := by omega
        rw [e1] at *
        have sA := Same.upd (o := .tup (Ins.set (1 + k5) (numT k6)).vs) n1
        have sB := Same.upd (o := .tup (Ins.tail (1 + k5) (1 + k5)).vs) n2
        have sC := Same.upd (o := .tup (Ins.jump (1 + k5) (-1)).vs) n3
        have sL := Same.upd (o := .lst [.ref p1, .ref p2, .ref p3]) nL
        have sT := ((sA.trans sB).trans sC).trans sL
        refine ⟨_, rfl, _, _, _, _, rfl, rfl, upd_same, sT _ _ hpl, ?_, fun P nP => ?_⟩
        · rw [List.length_map, Paired.len hrs]
          show 3 + _ ≤ _
          omega
        have sP := Same.upd (o := .lst ([V.ref p1, .ref p2, .ref p3] ++ as.map V.ref)) nP
        have sZ := sT.trans sP
        refine ⟨P, preL (1 + k5) k6 ++ is, _, rfl, ⟨[p1, p2, p3] ++ as, by rw [List.map_append]; exact upd_same, Paired.app (.cons ?_ (.cons ?_ (.cons ?_ .nil))) (Paired.imp (fun _ _ z => sZ _ _ z) hrs)⟩, w6.same sZ, f6.same sZ, by rw [List.length_append]; show 3 + _ ≤ _; omega, preL_ok (by omega) (by omega) hok⟩
        · exact sP _ _ (sL _ _ (sC _ _ (sB _ _ upd_same)))
        · exact sP _ _ (sL _ _ (sC _ _ upd_same))
        · exact sP _ _ (sL _ _ upd_same)
      · exact ⟨p, is, none, rfl, hp4, w4, f4, by omega, hok.more (by decide)⟩
    · rintro σ H4 ⟨p, is, v4, rfl, hp, w4, f4, hl, hok⟩
      have hJ : JOk is := hok.jok
      have hbig : ∀ i ∈ is, i.big ≤ 21 := hok.big
      have hbel : ∀ i ∈ is, i.below 20 ∧ i.big ≤ 1000000 := fun i hi => ⟨by
        obtain ⟨j, hj⟩ := List.getElem?_of_mem hi
        exact Ins.ok_below (hok j i hj), Nat.le_trans (hbig i hi) (by decide)⟩
      have hbs : bigSum is ≤ is.length * 21 := bigSum_mul is hbig
      have hprog : progOk (progD is) = true := by
        rw [progOk_is hok (Nat.le_refl _), decide_eq_true (by omega), treesSum_big, decide_eq_true (by show bigSum is ≤ 200000; omega)]
        rfl
      refine ⟨_, rfl, _, rfl, st, _, rfl, by decide, by decide, f4.sm, fun d5 H5 hd5 ex5 st5 => ?_⟩
      have w5 := w4.draw f4 ex5
      have f5 := f4.draw ex5 st5
      have hp5 := hp.draw f4.sm ex5
      refine ⟨st, d5, rfl, by omega, by omega, st5, fun x H6 hx ex6 st6 => ?_⟩
      have w6 := w5.draw f5 ex6
      have f6 := f5.draw ex6 st6
      have hp6 := hp5.draw st5 ex6
      have hxl := x.sg_len
      have run : ∀ n, n ≤ 1000 → RunOk is x n := fun n hn => ⟨hJ, hbel, by omega, by omega, by omega⟩
      refine ⟨_, rfl, st, _, rfl, by decide, by decide, st6, fun fs H7 hfs ex7 st7 => ?_⟩
      have w7 := w6.draw f6 ex7
      have f7 := f6.draw ex7 st7
      have hp7 := hp6.draw st6 ex7
      refine ⟨_, rfl, _, _, rfl, rfl, _, rfl, st, _, rfl, by decide, by decide, st7, fun k8 H8 hk8 ex8 st8 => ?_⟩
      have w8 := w7.draw f7 ex8
      have f8 := f7.draw ex8 st8
      have hp8 := hp7.draw st7 ex8
      refine ⟨_, _, rfl, rfl, ?_⟩
      obtain ⟨sc, hsc⟩ : ∃ sc : Nat, (fs : Int) + 1 + (k8 : Int) = (sc : Nat) := ⟨fs + 1 + k8, by omega⟩
      dsimp only
      rw [hsc]
      refine ⟨_, rfl, st, _, rfl, by decide, by decide, st8, fun many H9 hm ex9 st9 => ?_⟩
      have w9 := w8.draw f8 ex9
      have f9 := f8.draw ex9 st9
      have hp9 := hp8.draw st8 ex9
      refine ⟨_, rfl, _, rfl, _, rfl, _, rfl, W, Ah, At, As, Ap, [.leaf], x, rfl, w9, (by show 1 + _ ≤ _; omega), by omega, fun nx T1 H10 x1 l1 hnx b10 w10 => ?_⟩
      have f10 := f9.wld b10
      have hp10 := hp9.wld w9 b10
      have l1 : T1.length ≤ 1 + x.pairs := l1
      refine ⟨W, Ah, At, As, Ap, p, T1, is, x, nx, 500, rfl, w10, hp10.k, hnx, hJ, hbel, by omega, by omega, fun v T2 H11 rv x2 l2 b11 w11 => ?_⟩
      have f11 := f10.wld b11
      have hp11 := hp10.wld w10 b11
      refine ⟨_, rfl, _, rfl, _, rfl, (by show 4 ≤ sizeLine; omega), fun c1 nc1 => ?_⟩
      refine ⟨c1, p, is, x, rfl, hp11.same (Same.upd nc1), hprog, by omega, .inl ⟨many, by omega, run many (by omega), upd_same, fun H12 s12' => ?_⟩⟩
      have s12 := (Same.upd nc1).trans s12'
      have w12 := w11.same s12
      have f12 := f11.same s12
      have hp12 := hp11.same s12
      refine ⟨_, rfl, _, rfl, st, _, rfl, by decide, by decide, f12.sm, fun d6 H13 hd6 ex13 st13 => ?_⟩
      have w13 := w12.draw f12 ex13
      have f13 := f12.draw ex13 st13
      have hp13 := hp12.draw f12.sm ex13
      refine ⟨st, d6, rfl, by omega, by omega, st13, fun y3 H14 hy3 ex14 st14 => ?_⟩
      have w14 := w13.draw f13 ex14
      have f14 := f13.draw ex14 st14
      have hp14 := hp13.draw st13 ex14
      have rv14 : RunV H14 T2 is x 500 v := ((rv.same s12).exs f12.sm ex13).exs st13 ex14
      refine ⟨(by show 3 ≤ sizeLine; omega), fun R nR => ?_⟩
      have sR := Same.upd (o := .lst (trV [.leaf, .node .leaf .leaf, y3])) nR
      have eR : upd H14 R (.lst (trV [.leaf, .node .leaf .leaf, y3])) R = some (.lst (trV [.leaf, .node .leaf .leaf, y3])) := upd_same
      have e0 : [V.str (Str.ofString "0"), .str (Str.ofString "100"), .str y3.str] = trV [.leaf, .node .leaf .leaf, y3] := by
        show [V.str (Str.ofString "0"), .str (Str.ofString "100"), .str y3.str] = [V.str Tr.leaf.str, .str (Tr.node .leaf .leaf).str, .str y3.str]
        rw [show Tr.leaf.str = Str.ofString "0" by decide +kernel, show (Tr.node .leaf .leaf).str = Str.ofString "100" by decide +kernel]
      rw [e0]
      have w15 := w14.same sR
      have f15 := f14.same sR
      have hp15 := hp14.same sR
      have nRw := w14.none nR
      have nRst : R ≠ st := st14.ne nR
      have rv15 : RunV (upd H14 R (.lst (trV [.leaf, .node .leaf .leaf, y3]))) T2 is x 500 v := rv14.mono (Ext.refl _) fun q xs h => sR _ _ h
      generalize upd H14 R (.lst (trV [.leaf, .node .leaf .leaf, y3])) = H15 at *
      have hy3l := y3.sg_len
      refine ⟨fun σ H' => ∃ ys : List Tr, σ = [some (.ref a), some (.ref st), some (.ref W), some (.ref p), v4, some (.str x.str), some (.int fs), some (.int sc), some (.int many), some v, some (.bl (lastsB is x many)), some (.ref R), none, none] ∧ H' R = some (.lst (trV ys)) ∧ ys.length ≤ 4 ∧ (∀ y ∈ ys, y.sg.length ≤ 200000) ∧ PgAt H' p is ∧ Strm H' st ∧ RunV H' T2 is x 500 v, ?_, ?_⟩
      · have hl0 : ∀ y ∈ [Tr.leaf, .node .leaf .leaf, y3], y.sg.length ≤ 200000 := fun y hy => by
          simp only [List.mem_cons, List.not_mem_nil, or_false] at hy
          rcases hy with rfl | rfl | rfl
          · decide
          · decide
          · omega
        rcases rv15 with ⟨rfl, hg⟩ | ⟨rfl, hg⟩ | ⟨n, d, qa, rs', rfl, hqa, hg, hT⟩
        · refine ⟨_, rfl, rfl, _, rfl, iteTb rfl ?_⟩
          refine ⟨_, rfl, _, _, Dp.str _, Dp.str _, sh_large, sh_large, _, rfl, iteFb (by rw [eq_large]; rfl) ?_⟩
          exact ⟨_, rfl, eR, (by show 3 ≤ 4; omega), hl0, hp15, f15.sm, .inl ⟨rfl, hg⟩⟩
        · refine ⟨_, rfl, rfl, _, rfl, iteFb rfl ?_⟩
          exact ⟨_, rfl, eR, (by show 3 ≤ 4; omega), hl0, hp15, f15.sm, .inr (.inl ⟨rfl, hg⟩)⟩
        · refine ⟨_, rfl, rfl, _, rfl, iteTb rfl ?_⟩
          refine ⟨_, rfl, _, _, dp_two hqa, Dp.str _, sh_two _ _, sh_large, _, rfl, iteTb rfl ?_⟩
          obtain ⟨hs, ts, c1, c2, c3, g⟩ := w15.tb.get
          refine ⟨_, rfl, _, _, rfl, w15.gs, _, rfl, _, _, _, _, rfl, rfl, SqT.of hqa, rfl, _, _, _, _, rfl, rfl, SqL.of c3, sizV_at hT, _, _, rfl, rfl, _, rfl, ite2 (fun c => ?_) (fun c => ?_)⟩
          · refine ⟨_, rfl, .inl ⟨rfl, _, SqL.of eR⟩, _, rfl, _, rfl, _, _, _, _, rfl, rfl, SqT.of hqa, rfl, W, Ah, At, As, Ap, T2, n, _, rfl, w15, hT, by have := of_decide_eq_true c; omega, fun H16 s16 => ⟨_, _, _, rfl, rfl, s16 _ _ eR, (by show 3 + 1 ≤ sizeLine; omega), ?_⟩⟩
            have c := of_decide_eq_true c
            have hpR : p ≠ R := fun z => by
              obtain ⟨as, h, _⟩ := hp14
              rw [z, nR] at h
              cases h
            have hqR : qa ≠ R := fun z => by
              rw [z, eR] at hqa
              cases hqa
            have e1 : ButL [R] H16 (upd H16 R (.lst (trV [.leaf, .node .leaf .leaf, y3] ++ [.str (reg rs' 0).str]))) := fun b o n e => by
              rw [upd_ne (fun z => n (List.mem_singleton.mpr z))]
              exact e
            refine ⟨[.leaf, .node .leaf .leaf, y3] ++ [reg rs' 0], rfl, ?_, (by show 4 ≤ 4; omega), fun y hy => ?_, (hp15.same s16).but1 hpR e1 (s16 _ _ eR), Strm.off st14 nR (sR.trans s16).exs (s16.strm f15.sm), .inr (.inr ⟨n, d, qa, rs', rfl, ?_, hg, hT⟩)⟩
            · rw [upd_same, trV_append]
              rfl
            · rcases List.mem_append.mp hy with hy | hy
              · exact hl0 y hy
              · rw [List.mem_singleton.mp hy]
                omega
            · rw [upd_ne hqR]
              exact s16 _ _ hqa
          · exact ⟨_, rfl, eR, (by show 3 ≤ 4; omega), hl0, hp15, f15.sm, .inr (.inr ⟨n, d, qa, rs', rfl, hqa, hg, hT⟩)⟩
      · rintro σ H16 ⟨ys, rfl, hR, hyl, hys, hp16, st16, rv⟩
        refine ⟨(by show 0 ≤ sizeLine; omega), fun S nS => ?_⟩
        have sS := Same.upd (o := .lst []) nS
        have eS : upd H16 S (.lst []) S = some (.lst (trV [])) := upd_same
        have hR2 := sS _ _ hR
        have hp17 := hp16.same sS
        have st17 := sS.strm st16
        have rv17 := rv.same sS
        have ex17 := sS.exs (st := st)
        have nSR : R ≠ S := fun z => by rw [← z, hR] at nS; cases nS
        have nSp : p ≠ S := fun z => by
          obtain ⟨as, h, _⟩ := hp16
          rw [z, nS] at h
          cases h
        have nSst : S ≠ st := fun z => by
          obtain ⟨l, ns, c, i, m, h, _⟩ := st16
          rw [← z, nS] at h
          cases h
        have fr : ∀ q xs, H16 q = some (.tup xs) → q ≠ S := fun q xs h z => by rw [z, nS] at h; cases h
        generalize upd H16 S (.lst []) = H17 at sS eS hR2 hp17 st17 rv17 ex17 ⊢
        refine ⟨_, rfl, R, rfl, ⟨_, SqL.of hR2⟩, for_it (walk_list (K := K) (a := R) (xs := trV ys)) (fun j σ H' => ∃ (us : List Tr) (v13 : Option V), σ = [some (.ref a), some (.ref st), some (.ref W), some (.ref p), v4, some (.str x.str), some (.int fs), some (.int sc), some (.int many), some v, some (.bl (lastsB is x many)), some (.ref R), some (.ref S), v13] ∧ H' R = some (.lst (trV ys)) ∧ H' S = some (.lst (trV us)) ∧ us.length ≤ 1 ∧ (∀ y ∈ us, returnsB is x y many = true) ∧ PgAt H' p is ∧ Strm H' st ∧ RunV H' T2 is x 500 v ∧ ExS st H16 H')
          ⟨[], none, rfl, hR2, eS, by decide, (fun y h => by cases h), hp17, st17, rv17, ex17⟩ (fun j σ H' _ ⟨_, _, _, e, _⟩ => SqL.of e) ?_ ?_⟩
        · rintro j yv σ H19 H18 hj ⟨us, v13, rfl, hR18, hS18, hul, hus, hp18, st18, rv18, ex18⟩ ⟨rfl, hy⟩
          obtain ⟨y, hyj, ey⟩ : ∃ y, ys[j]? = some y ∧ yv = .str y.str := by
            unfold trV at hy
            rw [List.getElem?_map] at hy
            cases z : ys[j]? with
            | none =>
              rw [z] at hy
              cases hy
            | some y =>
              rw [z] at hy
              exact ⟨y, rfl, (Option.some.inj hy).symm⟩
          subst ey
          have hyL := hys y (List.mem_of_getElem? hyj)
          refine ⟨_, rfl, _, rfl, _, rfl, _, rfl, (by show 5 ≤ sizeLine; omega), fun c np => ?_⟩
          refine ⟨c, p, is, x, rfl, hp18.same (Same.upd np), hprog, by omega, .inr (.inl ⟨y, many, hyL, by omega, run many (by omega), upd_same, fun H20 s20' => ?_⟩)⟩
          have s20 := (Same.upd np).trans s20'
          cases hb : returnsB is x y many with
          | false =>
            refine ⟨_, rfl, iteF ?_⟩
            exact ⟨us, _, rfl, s20 _ _ hR18, s20 _ _ hS18, hul, hus, hp18.same s20, s20.strm st18, rv18.same s20, ex18.trans s20.exs⟩
          | true =>
            refine ⟨_, rfl, iteT ?_⟩
            have st20 := s20.strm st18
            refine ⟨_, rfl, _, rfl, _, rfl, _, rfl, _, rfl, st, _, rfl, by decide, by decide, st20, fun k9 H21 hk9 ex21 st21 => ?_⟩
            refine ⟨_, _, rfl, rfl, (by show 5 ≤ sizeLine; omega), fun c2 nc2 => ?_⟩
            have hR21 := ex21.k R _ nRst (s20 _ _ hR18)
            have hS21 := ex21.k S _ nSst (s20 _ _ hS18)
            have hp21 := (hp18.same s20).draw st20 ex21
            have rv21 := (rv18.same s20).exs st20 ex21
            have hb2 : returnsB is x y (many + k9) = true := by
              obtain ⟨d, hd, r⟩ := (returns_iff hJ).mp hb
              exact (returns_iff hJ).mpr ⟨d, by omega, r⟩
            refine ⟨c2, p, is, x, rfl, hp21.same (Same.upd nc2), hprog, by omega, .inr (.inl ⟨y, many + k9, hyL, by omega, run (many + k9) (by omega), upd_same, fun H22 s22' => ?_⟩)⟩
            have s22 := (Same.upd nc2).trans s22'
            rw [hb2]
            refine ⟨_, rfl, iteFb rfl ?_⟩
            have hp22 := hp21.same s22
            have st22 := s22.strm st21
            have rv22 := rv21.same s22
            have ex22 := ((ex18.trans s20.exs).trans ex21).trans s22.exs
            have hR22 := s22 _ _ hR21
            have hS22 := s22 _ _ hS21
            match us, hul, hus, hS22 with
            | [], _, _, hS22 =>
              refine ⟨_, rfl, _, rfl, _, _, rfl, .inl (SqL.of hS22), rfl, rfl, _, rfl, iteTb rfl ?_⟩
              refine ⟨_, rfl, .inl ⟨rfl, _, SqL.of hS22⟩, _, rfl, _, _, _, rfl, rfl, hS22, (by show 0 + 1 ≤ sizeLine; omega), ?_⟩
              have e1 : ButL [S] H22 (upd H22 S (.lst (trV [] ++ [.str y.str]))) := fun b o n e => by
                rw [upd_ne (fun z => n (List.mem_singleton.mpr z))]
                exact e
              refine ⟨[y], _, rfl, ?_, upd_same, (by show 1 ≤ 1; omega), fun z hz => by rw [List.mem_singleton.mp hz]; exact hb, hp22.but1 nSp e1 hS22, Strm.off st16 nS ex22 st22, rv22.mono (Ext.refl _) fun q xs h => ?_, ExS.off nSst nS ex22⟩
              · rw [upd_ne nSR]
                exact hR22
              · rw [upd_ne (fun z => by rw [z, hS22] at h; cases h)]
                exact h
            | [u], _, hus, hS22 =>
              have eu : y = u := by
                obtain ⟨d, _, r⟩ := (returns_iff hJ).mp hb
                obtain ⟨d2, _, r2⟩ := (returns_iff hJ).mp (hus u (List.mem_singleton.mpr rfl))
                exact (r.uniq r2).2
              subst eu
              refine ⟨_, rfl, _, rfl, _, _, rfl, .inl (SqL.of hS22), rfl, rfl, _, rfl, iteFb ?_ ?_⟩
              · show (!(eqV (.str y.str) (.str y.str) || false)) = false
                rw [show eqV (V.str y.str) (V.str y.str) = true by simp [eqV]]
                rfl
              · exact ⟨[y], _, rfl, hR22, hS22, (by show 1 ≤ 1; omega), hus, hp22, st22, rv22, ex22⟩
            | _ :: _ :: _, h, _, _ => exact absurd h (by simp)
        · rintro σ H18 ⟨us, v13, rfl, hR18, hS18, hul, hus, hp18, st18, rv18, ex18⟩
          have noLast : ∀ n, many ≤ n → us ≠ [] → lastsB is x n = false := fun n hn hne => by
            obtain ⟨u, hu⟩ := List.exists_mem_of_ne_nil us hne
            obtain ⟨d, hd, r⟩ := (returns_iff hJ).mp (hus u hu)
            cases h : lastsB is x n with
            | false => rfl
            | true =>
              have := ((lasts_iff hJ).mp h).ret r
              omega
          have ulen : (trV us).length = us.length := trV_len us
          refine ⟨fun σ H' => σ = [some (.ref a), some (.ref st), some (.ref W), some (.ref p), v4, some (.str x.str), some (.int fs), some (.int sc), some (.int many), some v, some (.bl (lastsB is x many)), some (.ref R), some (.ref S), v13] ∧ Same H18 H', ?_, ?_⟩
          · refine ⟨_, rfl, _, _, rfl, .inl (SqL.of hS18), _, _, rfl, rfl, _, rfl, iteNo (by omega) ?_⟩
            refine ⟨_, rfl, _, _, rfl, .inl (SqL.of hS18), rfl, _, rfl, ?_⟩
            by_cases ce : us = []
            · refine iteFb (decide_eq_false fun z => ?_) ⟨rfl, Same.refl _⟩
              have z := V.int.inj z
              rw [ulen, ce] at z
              cases z
            · have hne := List.length_pos_iff.mpr ce
              refine iteTb (decide_eq_true ?_) ?_
              · congr 1
                omega
              · refine ⟨_, rfl, ?_⟩
                rw [noLast many (Nat.le_refl _) ce]
                refine ⟨_, rfl, iteFb rfl ?_⟩
                refine ⟨_, rfl, _, rfl, _, rfl, _, _, rfl, rfl, (by show 4 ≤ sizeLine; omega), fun c np => ?_⟩
                refine ⟨c, p, is, x, rfl, hp18.same (Same.upd np), hprog, by omega, .inl ⟨many + 7, by omega, run (many + 7) (by omega), upd_same, fun H20 s20' => ?_⟩⟩
                rw [noLast (many + 7) (by omega) ce]
                exact ⟨_, rfl, iteFb rfl ⟨rfl, (Same.upd np).trans s20'⟩⟩
          · rintro σ H19 ⟨rfl, s19⟩
            refine ⟨fun σ H' => σ = [some (.ref a), some (.ref st), some (.ref W), some (.ref p), v4, some (.str x.str), some (.int fs), some (.int sc), some (.int many), some v, some (.bl (lastsB is x many)), some (.ref R), some (.ref S), v13] ∧ Same H18 H', ?_, ?_⟩
            · refine ⟨_, rfl, _, rfl, _, rfl, _, rfl, (by show 5 ≤ sizeLine; omega), fun c np => ?_⟩
              refine ⟨c, p, is, x, rfl, (hp18.same s19).same (Same.upd np), hprog, by omega, .inr (.inr ⟨fs, sc, by omega, by omega, run fs (by omega), run sc (by omega), upd_same, fun H20 s20' => ?_⟩)⟩
              have s20 := (s19.trans (Same.upd np)).trans s20'
              cases hb : neverB is x fs sc with
              | false => exact ⟨_, rfl, iteF ⟨rfl, s20⟩⟩
              | true =>
                have l := never_loops hJ hb
                have ev := rv18.of_loops l
                subst ev
                have eu : us = [] := by
                  cases us with
                  | nil => rfl
                  | cons u r =>
                    obtain ⟨d, _, rr⟩ := (returns_iff hJ).mp (hus u (List.mem_cons_self ..))
                    exact (l.ret rr).elim
                refine ⟨_, rfl, iteT ?_⟩
                refine ⟨_, rfl, rfl, _, rfl, iteFb rfl ?_⟩
                refine ⟨_, rfl, _, _, rfl, .inl (SqL.of (s20 _ _ hS18)), _, _, rfl, rfl, _, rfl, iteNo (by rw [ulen, eu]; decide) ?_⟩
                refine ⟨_, rfl, ?_⟩
                rw [l.lasts hJ many]
                exact ⟨_, rfl, iteFb rfl ⟨rfl, s20⟩⟩
            · rintro σ H20 ⟨rfl, s20⟩
              have rv20 := rv18.same s20
              refine ⟨_, rfl, _, rfl, ?_⟩
              cases hb : lastsB is x many with
              | false => exact ⟨_, rfl, iteTb rfl (q _)⟩
              | true =>
                have o := (lasts_iff hJ).mp hb
                refine ⟨_, rfl, iteFb rfl ?_⟩
                rcases rv20 with ⟨rfl, hg⟩ | ⟨rfl, hg⟩ | ⟨n, d, qa, rs', rfl, hqa, hg, hT⟩
                · refine ⟨_, rfl, rfl, _, rfl, iteFb rfl ?_⟩
                  refine ⟨_, rfl, _, _, Dp.str _, Dp.str _, sh_large, sh_large, ?_⟩
                  rw [eq_large]
                  exact ⟨_, rfl, iteTb rfl (q _)⟩
                · exact ⟨_, rfl, rfl, _, rfl, iteTb rfl (q _)⟩
                · refine ⟨_, rfl, rfl, _, rfl, iteFb rfl ?_⟩
                  refine ⟨_, rfl, _, _, dp_two hqa, Dp.str _, sh_two _ _, sh_large, _, rfl, iteFb rfl ?_⟩
                  have hd := o.ret (Ret.of_go hJ hg)
                  refine ⟨_, rfl, _, _, _, _, rfl, rfl, SqT.of hqa, rfl, _, rfl, _, _, rfl, rfl, ?_⟩
                  dsimp only
                  rw [decide_eq_true (show (many : Int) < (d : Int) by omega)]
                  exact q _
end
theorem all_mk {l : PySem.W.OpenLaw} {w : World} {K : PySem.W.Frag} {h : Heap} {mg : Str → Option Value} {fa f0 f1 f2 f3 f4 f5 f6 f7 f8 f9 f10 f11 f12 f13 f14 f15 f16 f17 f18 f19 f20 f21 f22 f23 f24 f25 f26 f27 f28 f29 f30 f31 f32 f33 f34 f35 f36 A_NarcissusError A_TooLarge A_OutOfSteps A_SHAPES A_FORMS A_ITEMS A_CHECKS A_Machine : Addr} (X : K.In h) (G : h.Ns mainGlobals mg) (hfa : mg "law" = some (.ref fa))
    {od0 an0 od1 an1 od2 an2 od3 an3 od4 an4 od5 an5 od6 an6 od7 an7 od8 an8 od9 an9 od10 an10 od11 an11 od12 an12 od13 an13 od14 an14 od15 an15 od16 an16 od17 an17 od18 an18 od19 an19 od20 an20 od21 an21 od22 an22 od23 an23 od24 an24 od25 an25 od26 an26 od27 an27 od28 an28 od29 an29 od30 an30 od31 an31 od32 an32 od33 an33 od34 an34 od35 an35 od36 an36 : Option Addr} {sl0 sl1 sl2 sl3 sl4 sl5 sl6 sl7 sl8 sl9 sl10 sl11 sl12 sl13 sl14 sl15 sl16 sl17 sl18 sl19 sl20 sl21 sl22 sl23 sl24 sl25 sl26 sl27 sl28 sl29 sl30 sl31 sl32 sl33 sl34 sl35 sl36 : Array (Option Value)} {oc0 kV0 dc0 pm0 cd0 ct0 oc1 kV1 dc1 pm1 cd1 ct1 oc2 kV2 dc2 pm2 cd2 ct2 oc3 kV3 dc3 pm3 cd3 ct3 oc4 kV4 dc4 pm4 cd4 ct4 oc5 kV5 dc5 pm5 cd5 ct5 oc6 kV6 dc6 pm6 cd6 ct6 oc7 kV7 dc7 pm7 cd7 ct7 oc8 kV8 dc8 pm8 cd8 ct8 oc9 kV9 dc9 pm9 cd9 ct9 oc10 kV10 dc10 pm10 cd10 ct10 oc11 kV11 dc11 pm11 cd11 ct11 oc12 kV12 dc12 pm12 cd12 ct12 oc13 kV13 dc13 pm13 cd13 ct13 oc14 kV14 dc14 pm14 cd14 ct14 oc15 kV15 dc15 pm15 cd15 ct15 oc16 kV16 dc16 pm16 cd16 ct16 oc17 kV17 dc17 pm17 cd17 ct17 oc18 kV18 dc18 pm18 cd18 ct18 oc19 kV19 dc19 pm19 cd19 ct19 oc20 kV20 dc20 pm20 cd20 ct20 oc21 kV21 dc21 pm21 cd21 ct21 oc22 kV22 dc22 pm22 cd22 ct22 oc23 kV23 dc23 pm23 cd23 ct23 oc24 kV24 dc24 pm24 cd24 ct24 oc25 kV25 dc25 pm25 cd25 ct25 oc26 kV26 dc26 pm26 cd26 ct26 oc27 kV27 dc27 pm27 cd27 ct27 oc28 kV28 dc28 pm28 cd28 ct28 oc29 kV29 dc29 pm29 cd29 ct29 oc30 kV30 dc30 pm30 cd30 ct30 oc31 kV31 dc31 pm31 cd31 ct31 oc32 kV32 dc32 pm32 cd32 ct32 oc33 kV33 dc33 pm33 cd33 ct33 oc34 kV34 dc34 pm34 cd34 ct34 oc35 kV35 dc35 pm35 cd35 ct35 oc36 kV36 dc36 pm36 cd36 ct36 : Value} {tk_MOST_TREE tk_MOST_CODE tk_REGISTERS tk_MOST_RING tk_MOST_NUMBER tk_MOST_INPUTS : Tok}
    (a0 : PySem.W.nsIn K mainGlobals "_law_stream" = some (some (.ref f0))) (l0 : K.lookup f0 = some ⟨oc0, od0, .func (PySem.W.fnOf "_law_stream" "_law_stream" (defArgs s_law_stream) (defBody s_law_stream) (defScope s_law_stream) .none kV0 dc0 pm0 an0 cd0 ct0), sl0⟩) (c0 : PySem.W.codeIn K cd0 "_law_stream" = true) (k0 : PySem.W.keepIn K (.ref f0) = true)
    (a1 : PySem.W.nsIn K mainGlobals "_law_world" = some (some (.ref f1))) (l1 : K.lookup f1 = some ⟨oc1, od1, .func (PySem.W.fnOf "_law_world" "_law_world" (defArgs s_law_world) (defBody s_law_world) (defScope s_law_world) .none kV1 dc1 pm1 an1 cd1 ct1), sl1⟩) (c1 : PySem.W.codeIn K cd1 "_law_world" = true) (k1 : PySem.W.keepIn K (.ref f1) = true)
    (a2 : PySem.W.nsIn K mainGlobals "_law_draw" = some (some (.ref f2))) (l2 : K.lookup f2 = some ⟨oc2, od2, .func (PySem.W.fnOf "_law_draw" "_law_draw" (defArgs s_law_draw) (defBody s_law_draw) (defScope s_law_draw) .none kV2 dc2 pm2 an2 cd2 ct2), sl2⟩) (c2 : PySem.W.codeIn K cd2 "_law_draw" = true) (k2 : PySem.W.keepIn K (.ref f2) = true)
    (a3 : PySem.W.nsIn K mainGlobals "_law_registers" = some (some (.ref f3))) (l3 : K.lookup f3 = some ⟨oc3, od3, .func (PySem.W.fnOf "_law_registers" "_law_registers" (defArgs s_law_registers) (defBody s_law_registers) (defScope s_law_registers) .none kV3 dc3 pm3 an3 cd3 ct3), sl3⟩) (c3 : PySem.W.codeIn K cd3 "_law_registers" = true) (k3 : PySem.W.keepIn K (.ref f3) = true)
    (a4 : PySem.W.nsIn K mainGlobals "_law_tree" = some (some (.ref f4))) (l4 : K.lookup f4 = some ⟨oc4, od4, .func (PySem.W.fnOf "_law_tree" "_law_tree" (defArgs s_law_tree) (defBody s_law_tree) (defScope s_law_tree) .none kV4 dc4 pm4 an4 cd4 ct4), sl4⟩) (c4 : PySem.W.codeIn K cd4 "_law_tree" = true) (k4 : PySem.W.keepIn K (.ref f4) = true)
    (a5 : PySem.W.nsIn K mainGlobals "_law_random_program" = some (some (.ref f5))) (l5 : K.lookup f5 = some ⟨oc5, od5, .func (PySem.W.fnOf "_law_random_program" "_law_random_program" (defArgs s_law_random_program) (defBody s_law_random_program) (defScope s_law_random_program) .none kV5 dc5 pm5 an5 cd5 ct5), sl5⟩) (c5 : PySem.W.codeIn K cd5 "_law_random_program" = true) (k5 : PySem.W.keepIn K (.ref f5) = true)
    (a6 : PySem.W.nsIn K mainGlobals "_law_short_program" = some (some (.ref f6))) (l6 : K.lookup f6 = some ⟨oc6, od6, .func (PySem.W.fnOf "_law_short_program" "_law_short_program" (defArgs s_law_short_program) (defBody s_law_short_program) (defScope s_law_short_program) .none kV6 dc6 pm6 an6 cd6 ct6), sl6⟩) (c6 : PySem.W.codeIn K cd6 "_law_short_program" = true) (k6 : PySem.W.keepIn K (.ref f6) = true)
    (a7 : PySem.W.nsIn K mainGlobals "_law_program" = some (some (.ref f7))) (l7 : K.lookup f7 = some ⟨oc7, od7, .func (PySem.W.fnOf "_law_program" "_law_program" (defArgs s_law_program) (defBody s_law_program) (defScope s_law_program) .none kV7 dc7 pm7 an7 cd7 ct7), sl7⟩) (c7 : PySem.W.codeIn K cd7 "_law_program" = true) (k7 : PySem.W.keepIn K (.ref f7) = true)
    (a8 : PySem.W.nsIn K mainGlobals "_law_cons" = some (some (.ref f8))) (l8 : K.lookup f8 = some ⟨oc8, od8, .func (PySem.W.fnOf "_law_cons" "_law_cons" (defArgs s_law_cons) (defBody s_law_cons) (defScope s_law_cons) .none kV8 dc8 pm8 an8 cd8 ct8), sl8⟩) (c8 : PySem.W.codeIn K cd8 "_law_cons" = true) (k8 : PySem.W.keepIn K (.ref f8) = true)
    (a9 : PySem.W.nsIn K mainGlobals "_law_in" = some (some (.ref f9))) (l9 : K.lookup f9 = some ⟨oc9, od9, .func (PySem.W.fnOf "_law_in" "_law_in" (defArgs s_law_in) (defBody s_law_in) (defScope s_law_in) .none kV9 dc9 pm9 an9 cd9 ct9), sl9⟩) (c9 : PySem.W.codeIn K cd9 "_law_in" = true) (k9 : PySem.W.keepIn K (.ref f9) = true)
    (a10 : PySem.W.nsIn K mainGlobals "_law_loaded" = some (some (.ref f10))) (l10 : K.lookup f10 = some ⟨oc10, od10, .func (PySem.W.fnOf "_law_loaded" "_law_loaded" (defArgs s_law_loaded) (defBody s_law_loaded) (defScope s_law_loaded) .none kV10 dc10 pm10 an10 cd10 ct10), sl10⟩) (c10 : PySem.W.codeIn K cd10 "_law_loaded" = true) (k10 : PySem.W.keepIn K (.ref f10) = true)
    (a11 : PySem.W.nsIn K mainGlobals "_law_step" = some (some (.ref f11))) (l11 : K.lookup f11 = some ⟨oc11, od11, .func (PySem.W.fnOf "_law_step" "_law_step" (defArgs s_law_step) (defBody s_law_step) (defScope s_law_step) .none kV11 dc11 pm11 an11 cd11 ct11), sl11⟩) (c11 : PySem.W.codeIn K cd11 "_law_step" = true) (k11 : PySem.W.keepIn K (.ref f11) = true)
    (a12 : PySem.W.nsIn K mainGlobals "_law_run" = some (some (.ref f12))) (l12 : K.lookup f12 = some ⟨oc12, od12, .func (PySem.W.fnOf "_law_run" "_law_run" (defArgs s_law_run) (defBody s_law_run) (defScope s_law_run) .none kV12 dc12 pm12 an12 cd12 ct12), sl12⟩) (c12 : PySem.W.codeIn K cd12 "_law_run" = true) (k12 : PySem.W.keepIn K (.ref f12) = true)
    (a13 : PySem.W.nsIn K mainGlobals "trees_of" = some (some (.ref f13))) (l13 : K.lookup f13 = some ⟨oc13, od13, .func (PySem.W.fnOf "trees_of" "trees_of" (defArgs s_trees_of) (defBody s_trees_of) (defScope s_trees_of) .none kV13 dc13 pm13 an13 cd13 ct13), sl13⟩) (c13 : PySem.W.codeIn K cd13 "trees_of" = true) (k13 : PySem.W.keepIn K (.ref f13) = true)
    (a14 : PySem.W.nsIn K mainGlobals "fits_programs" = some (some (.ref f14))) (l14 : K.lookup f14 = some ⟨oc14, od14, .func (PySem.W.fnOf "_fits" "_fits" (defArgs s_fits_programs) (defBody s_fits_programs) (defScope s_fits_programs) .none kV14 dc14 pm14 an14 cd14 ct14), sl14⟩) (c14 : PySem.W.codeIn K cd14 "_fits" = true) (k14 : PySem.W.keepIn K (.ref f14) = true)
    (a15 : PySem.W.nsIn K mainGlobals "_has_shape" = some (some (.ref f15))) (l15 : K.lookup f15 = some ⟨oc15, od15, .func (PySem.W.fnOf "_has_shape" "_has_shape" (defArgs s_has_shape) (defBody s_has_shape) (defScope s_has_shape) .none kV15 dc15 pm15 an15 cd15 ct15), sl15⟩) (c15 : PySem.W.codeIn K cd15 "_has_shape" = true) (k15 : PySem.W.keepIn K (.ref f15) = true)
    (a16 : PySem.W.nsIn K mainGlobals "end_of" = some (some (.ref f16))) (l16 : K.lookup f16 = some ⟨oc16, od16, .func (PySem.W.fnOf "end_of" "end_of" (defArgs s_end_of) (defBody s_end_of) (defScope s_end_of) .none kV16 dc16 pm16 an16 cd16 ct16), sl16⟩) (c16 : PySem.W.codeIn K cd16 "end_of" = true) (k16 : PySem.W.keepIn K (.ref f16) = true)
    (a17 : PySem.W.nsIn K mainGlobals "is_tree" = some (some (.ref f17))) (l17 : K.lookup f17 = some ⟨oc17, od17, .func (PySem.W.fnOf "is_tree" "is_tree" (defArgs s_is_tree) (defBody s_is_tree) (defScope s_is_tree) .none kV17 dc17 pm17 an17 cd17 ct17), sl17⟩) (c17 : PySem.W.codeIn K cd17 "is_tree" = true) (k17 : PySem.W.keepIn K (.ref f17) = true)
    (a18 : PySem.W.nsIn K mainGlobals "is_program" = some (some (.ref f18))) (l18 : K.lookup f18 = some ⟨oc18, od18, .func (PySem.W.fnOf "is_program" "is_program" (defArgs s_is_program) (defBody s_is_program) (defScope s_is_program) .none kV18 dc18 pm18 an18 cd18 ct18), sl18⟩) (c18 : PySem.W.codeIn K cd18 "is_program" = true) (k18 : PySem.W.keepIn K (.ref f18) = true)
    (a19 : PySem.W.nsIn K mainGlobals "_may_have" = some (some (.ref f19))) (l19 : K.lookup f19 = some ⟨oc19, od19, .func (PySem.W.fnOf "_may_have" "_may_have" (defArgs s_may_have) (defBody s_may_have) (defScope s_may_have) .none kV19 dc19 pm19 an19 cd19 ct19), sl19⟩) (c19 : PySem.W.codeIn K cd19 "_may_have" = true) (k19 : PySem.W.keepIn K (.ref f19) = true)
    (a20 : PySem.W.nsIn K mainGlobals "fits_claims" = some (some (.ref f20))) (l20 : K.lookup f20 = some ⟨oc20, od20, .func (PySem.W.fnOf "_fits" "_fits" (defArgs s_fits_claims) (defBody s_fits_claims) (defScope s_fits_claims) .none kV20 dc20 pm20 an20 cd20 ct20), sl20⟩) (c20 : PySem.W.codeIn K cd20 "_fits" = true) (k20 : PySem.W.keepIn K (.ref f20) = true)
    (a21 : PySem.W.nsIn K mainGlobals "is_claim" = some (some (.ref f21))) (l21 : K.lookup f21 = some ⟨oc21, od21, .func (PySem.W.fnOf "is_claim" "is_claim" (defArgs s_is_claim) (defBody s_is_claim) (defScope s_is_claim) .none kV21 dc21 pm21 an21 cd21 ct21), sl21⟩) (c21 : PySem.W.codeIn K cd21 "is_claim" = true) (k21 : PySem.W.keepIn K (.ref f21) = true)
    (a22 : PySem.W.findIn K (.ref A_Machine) "pair" = some (some (.ref f22))) (i22 : PySem.W.isFn K (.ref f22) = true) (l22 : K.lookup f22 = some ⟨oc22, od22, .func (PySem.W.fnOf "pair" "Machine.pair" (defArgs s_Machine_pair) (defBody s_Machine_pair) (defScope s_Machine_pair) .none kV22 dc22 pm22 an22 cd22 ct22), sl22⟩) (c22 : PySem.W.codeIn K cd22 "Machine.pair" = true) (k22 : PySem.W.keepIn K (.ref f22) = true)
    (a23 : PySem.W.findIn K (.ref A_Machine) "enter" = some (some (.ref f23))) (i23 : PySem.W.isFn K (.ref f23) = true) (l23 : K.lookup f23 = some ⟨oc23, od23, .func (PySem.W.fnOf "enter" "Machine.enter" (defArgs s_Machine_enter) (defBody s_Machine_enter) (defScope s_Machine_enter) .none kV23 dc23 pm23 an23 cd23 ct23), sl23⟩) (c23 : PySem.W.codeIn K cd23 "Machine.enter" = true) (k23 : PySem.W.keepIn K (.ref f23) = true)
    (a24 : PySem.W.findIn K (.ref A_Machine) "planned" = some (some (.ref f24))) (i24 : PySem.W.isFn K (.ref f24) = true) (l24 : K.lookup f24 = some ⟨oc24, od24, .func (PySem.W.fnOf "planned" "Machine.planned" (defArgs s_Machine_planned) (defBody s_Machine_planned) (defScope s_Machine_planned) .none kV24 dc24 pm24 an24 cd24 ct24), sl24⟩) (c24 : PySem.W.codeIn K cd24 "Machine.planned" = true) (k24 : PySem.W.keepIn K (.ref f24) = true)
    (a25 : PySem.W.findIn K (.ref A_Machine) "__init__" = some (some (.ref f25))) (i25 : PySem.W.isFn K (.ref f25) = true) (l25 : K.lookup f25 = some ⟨oc25, od25, .func (PySem.W.fnOf "__init__" "Machine.__init__" (defArgs s_Machine___init__) (defBody s_Machine___init__) (defScope s_Machine___init__) .none kV25 dc25 pm25 an25 cd25 ct25), sl25⟩) (c25 : PySem.W.codeIn K cd25 "Machine.__init__" = true) (k25 : PySem.W.keepIn K (.ref f25) = true)
    (a26 : PySem.W.findIn K (.ref A_Machine) "joined" = some (some (.ref f26))) (i26 : PySem.W.isFn K (.ref f26) = true) (l26 : K.lookup f26 = some ⟨oc26, od26, .func (PySem.W.fnOf "joined" "Machine.joined" (defArgs s_Machine_joined) (defBody s_Machine_joined) (defScope s_Machine_joined) .none kV26 dc26 pm26 an26 cd26 ct26), sl26⟩) (c26 : PySem.W.codeIn K cd26 "Machine.joined" = true) (k26 : PySem.W.keepIn K (.ref f26) = true)
    (a27 : PySem.W.findIn K (.ref A_Machine) "advance" = some (some (.ref f27))) (i27 : PySem.W.isFn K (.ref f27) = true) (l27 : K.lookup f27 = some ⟨oc27, od27, .func (PySem.W.fnOf "advance" "Machine.advance" (defArgs s_Machine_advance) (defBody s_Machine_advance) (defScope s_Machine_advance) .none kV27 dc27 pm27 an27 cd27 ct27), sl27⟩) (c27 : PySem.W.codeIn K cd27 "Machine.advance" = true) (k27 : PySem.W.keepIn K (.ref f27) = true)
    (a28 : PySem.W.findIn K (.ref A_Machine) "tree_of" = some (some (.ref f28))) (i28 : PySem.W.isFn K (.ref f28) = true) (l28 : K.lookup f28 = some ⟨oc28, od28, .func (PySem.W.fnOf "tree_of" "Machine.tree_of" (defArgs s_Machine_tree_of) (defBody s_Machine_tree_of) (defScope s_Machine_tree_of) .none kV28 dc28 pm28 an28 cd28 ct28), sl28⟩) (c28 : PySem.W.codeIn K cd28 "Machine.tree_of" = true) (k28 : PySem.W.keepIn K (.ref f28) = true)
    (a29 : PySem.W.nsIn K mainGlobals "run" = some (some (.ref f29))) (l29 : K.lookup f29 = some ⟨oc29, od29, .func (PySem.W.fnOf "run" "run" (defArgs s_run) (defBody s_run) (defScope s_run) .none kV29 dc29 pm29 an29 cd29 ct29), sl29⟩) (c29 : PySem.W.codeIn K cd29 "run" = true) (k29 : PySem.W.keepIn K (.ref f29) = true)
    (a30 : PySem.W.nsIn K mainGlobals "_shows_returns" = some (some (.ref f30))) (l30 : K.lookup f30 = some ⟨oc30, od30, .func (PySem.W.fnOf "_shows_returns" "_shows_returns" (defArgs s_shows_returns) (defBody s_shows_returns) (defScope s_shows_returns) .none kV30 dc30 pm30 an30 cd30 ct30), sl30⟩) (c30 : PySem.W.codeIn K cd30 "_shows_returns" = true) (k30 : PySem.W.keepIn K (.ref f30) = true)
    (a31 : PySem.W.nsIn K mainGlobals "_shows_lasts" = some (some (.ref f31))) (l31 : K.lookup f31 = some ⟨oc31, od31, .func (PySem.W.fnOf "_shows_lasts" "_shows_lasts" (defArgs s_shows_lasts) (defBody s_shows_lasts) (defScope s_shows_lasts) .none kV31 dc31 pm31 an31 cd31 ct31), sl31⟩) (c31 : PySem.W.codeIn K cd31 "_shows_lasts" = true) (k31 : PySem.W.keepIn K (.ref f31) = true)
    (a32 : PySem.W.nsIn K mainGlobals "after" = some (some (.ref f32))) (l32 : K.lookup f32 = some ⟨oc32, od32, .func (PySem.W.fnOf "after" "after" (defArgs s_after) (defBody s_after) (defScope s_after) .none kV32 dc32 pm32 an32 cd32 ct32), sl32⟩) (c32 : PySem.W.codeIn K cd32 "after" = true) (k32 : PySem.W.keepIn K (.ref f32) = true)
    (a33 : PySem.W.nsIn K mainGlobals "_shows_never" = some (some (.ref f33))) (l33 : K.lookup f33 = some ⟨oc33, od33, .func (PySem.W.fnOf "_shows_never" "_shows_never" (defArgs s_shows_never) (defBody s_shows_never) (defScope s_shows_never) .none kV33 dc33 pm33 an33 cd33 ct33), sl33⟩) (c33 : PySem.W.codeIn K cd33 "_shows_never" = true) (k33 : PySem.W.keepIn K (.ref f33) = true)
    (a34 : PySem.W.nsIn K mainGlobals "is_shown" = some (some (.ref f34))) (l34 : K.lookup f34 = some ⟨oc34, od34, .func (PySem.W.fnOf "is_shown" "is_shown" (defArgs s_is_shown) (defBody s_is_shown) (defScope s_is_shown) .none kV34 dc34 pm34 an34 cd34 ct34), sl34⟩) (c34 : PySem.W.codeIn K cd34 "is_shown" = true) (k34 : PySem.W.keepIn K (.ref f34) = true)
    (a35 : PySem.W.nsIn K mainGlobals "_law_out" = some (some (.ref f35))) (l35 : K.lookup f35 = some ⟨oc35, od35, .func (PySem.W.fnOf "_law_out" "_law_out" (defArgs s_law_out) (defBody s_law_out) (defScope s_law_out) .none kV35 dc35 pm35 an35 cd35 ct35), sl35⟩) (c35 : PySem.W.codeIn K cd35 "_law_out" = true) (k35 : PySem.W.keepIn K (.ref f35) = true)
    (a36 : PySem.W.nsIn K mainGlobals "law" = some (some (.ref f36))) (l36 : K.lookup f36 = some ⟨oc36, od36, .func (PySem.W.fnOf "law" "law" (defArgs s_law) (defBody s_law) (defScope s_law) .none kV36 dc36 pm36 an36 cd36 ct36), sl36⟩) (c36 : PySem.W.codeIn K cd36 "law" = true) (k36 : PySem.W.keepIn K (.ref f36) = true)
    (z_list : PySem.W.nsIn K mainGlobals "list" = some none)
    (z_int : PySem.W.nsIn K mainGlobals "int" = some none)
    (z_abs : PySem.W.nsIn K mainGlobals "abs" = some none)
    (z_len : PySem.W.nsIn K mainGlobals "len" = some none)
    (z_range : PySem.W.nsIn K mainGlobals "range" = some none)
    (z_isinstance : PySem.W.nsIn K mainGlobals "isinstance" = some none)
    (z_str : PySem.W.nsIn K mainGlobals "str" = some none)
    (z_bool : PySem.W.nsIn K mainGlobals "bool" = some none)
    (z_all : PySem.W.nsIn K mainGlobals "all" = some none)
    (z_tuple : PySem.W.nsIn K mainGlobals "tuple" = some none)
    (z_zip : PySem.W.nsIn K mainGlobals "zip" = some none)
    (z_enumerate : PySem.W.nsIn K mainGlobals "enumerate" = some none)
    (z_sum : PySem.W.nsIn K mainGlobals "sum" = some none)
    (z_reversed : PySem.W.nsIn K mainGlobals "reversed" = some none)
    (z_MOST_TREE : PySem.W.nsIn K mainGlobals "MOST_TREE" = some (some (.int 200000 tk_MOST_TREE)))
    (z_MOST_CODE : PySem.W.nsIn K mainGlobals "MOST_CODE" = some (some (.int 600 tk_MOST_CODE)))
    (z_REGISTERS : PySem.W.nsIn K mainGlobals "REGISTERS" = some (some (.int 20 tk_REGISTERS)))
    (z_MOST_RING : PySem.W.nsIn K mainGlobals "MOST_RING" = some (some (.int 8 tk_MOST_RING)))
    (z_MOST_NUMBER : PySem.W.nsIn K mainGlobals "MOST_NUMBER" = some (some (.int 1000000 tk_MOST_NUMBER)))
    (z_MOST_INPUTS : PySem.W.nsIn K mainGlobals "MOST_INPUTS" = some (some (.int 20 tk_MOST_INPUTS)))
    (z_SHAPES : PySem.W.nsIn K mainGlobals "SHAPES" = some (some (.ref A_SHAPES)))
    {es_SHAPES : Array DictEntry} {en_SHAPES : Nat} (u_SHAPES : K.lookup A_SHAPES = some ⟨.type "dict", none, .dict es_SHAPES en_SHAPES, #[]⟩) (v_SHAPES : PySem.W.KeysLit w.params es_SHAPES.toList) (w_SHAPES : (A_SHAPES == sysModules) = false) (x_SHAPES : Paired (fun (e : DictEntry) (p : Str × Str) => (∃ t, e.key = .str p.1 t) ∧ ∃ t, e.val = .str p.2 t) es_SHAPES.toList [(("set" : Str), ("rt" : Str)), (("move" : Str), ("rr" : Str)), (("cons" : Str), ("rrr" : Str)), (("head" : Str), ("rr" : Str)), (("tail" : Str), ("rr" : Str)), (("jump" : Str), ("rn" : Str))])
    (z_FORMS : PySem.W.nsIn K mainGlobals "FORMS" = some (some (.ref A_FORMS)))
    {es_FORMS : Array DictEntry} {en_FORMS : Nat} (u_FORMS : K.lookup A_FORMS = some ⟨.type "dict", none, .dict es_FORMS en_FORMS, #[]⟩) (v_FORMS : PySem.W.KeysLit w.params es_FORMS.toList) (w_FORMS : (A_FORMS == sysModules) = false) (x_FORMS : Paired (fun (e : DictEntry) (p : Str × Str) => (∃ t, e.key = .str p.1 t) ∧ ∃ t, e.val = .str p.2 t) es_FORMS.toList [(("returns" : Str), ("pttn" : Str)), (("lasts" : Str), ("ptn" : Str)), (("never" : Str), ("ptnn" : Str)), (("agree" : Str), ("ppin" : Str)), (("knows" : Str), ("pp" : Str)), (("fixed" : Str), ("pp" : Str)), (("together" : Str), ("rr" : Str)), (("defeats" : Str), ("pppptn" : Str)), (("lies" : Str), ("ppttn" : Str))])
    (z_ITEMS : PySem.W.nsIn K mainGlobals "ITEMS" = some (some (.ref A_ITEMS)))
    {es_ITEMS : Array DictEntry} {en_ITEMS : Nat} (u_ITEMS : K.lookup A_ITEMS = some ⟨.type "dict", none, .dict es_ITEMS en_ITEMS, #[]⟩) (v_ITEMS : PySem.W.KeysLit w.params es_ITEMS.toList) (w_ITEMS : (A_ITEMS == sysModules) = false) (x_ITEMS : Paired (fun (e : DictEntry) (p : Str × Str) => (∃ t, e.key = .str p.1 t) ∧ ∃ t, e.val = .str p.2 t) es_ITEMS.toList [(("r" : Str), ("p" : Str)), (("i" : Str), ("t" : Str))])
    (z_CHECKS : PySem.W.nsIn K mainGlobals "CHECKS" = some (some (.ref A_CHECKS)))
    {es_CHECKS : Array DictEntry} {en_CHECKS : Nat} (u_CHECKS : K.lookup A_CHECKS = some ⟨.type "dict", none, .dict es_CHECKS en_CHECKS, #[]⟩) (v_CHECKS : PySem.W.KeysLit w.params es_CHECKS.toList) (w_CHECKS : (A_CHECKS == sysModules) = false)
    (x_CHECKS_returns : PySem.W.nsIn K A_CHECKS "returns" = some (some (.ref f30)))
    (x_CHECKS_lasts : PySem.W.nsIn K A_CHECKS "lasts" = some (some (.ref f31)))
    (x_CHECKS_never : PySem.W.nsIn K A_CHECKS "never" = some (some (.ref f33)))
    (z_Machine : PySem.W.nsIn K mainGlobals "Machine" = some (some (.ref A_Machine))) (pg_Machine : PySem.W.plainGet K A_Machine Str.empty = true) (hd_Machine : PySem.W.hasDictIn K A_Machine = true) (po_Machine : PySem.W.plainOver K A_Machine = true) (sa_Machine : PySem.W.findIn K (.ref A_Machine) "__setattr__" = some (some (.builtin "object.__setattr__"))) (mk_Machine : PySem.W.makesIn K A_Machine = true) (kc_Machine : PySem.W.keepIn K (.ref A_Machine) = true)
    (na_Machine_heads : PySem.W.findIn K (.ref A_Machine) "heads" = some none)
    (na_Machine_tails : PySem.W.findIn K (.ref A_Machine) "tails" = some none)
    (na_Machine_sizes : PySem.W.findIn K (.ref A_Machine) "sizes" = some none)
    (na_Machine_at : PySem.W.findIn K (.ref A_Machine) "at" = some none)
    (na_Machine_registers : PySem.W.findIn K (.ref A_Machine) "registers" = some none)
    (na_Machine_plan : PySem.W.findIn K (.ref A_Machine) "plan" = some none)
    (y_NarcissusError : PySem.W.nsIn K mainGlobals "NarcissusError" = some (some (.ref A_NarcissusError)))
    (y_NarcissusError_x : PySem.W.excIn K A_NarcissusError [.type "ValueError", .type "Exception", .type "BaseException", .type "object"] "ValueError.__new__" = true)
    (y_NarcissusError_k : PySem.W.keepIn K (.ref A_NarcissusError) = true)
    (y_NarcissusError_b : PySem.W.subIn K (.ref A_NarcissusError) (.type "BaseException") = some true)
    (y_NarcissusError_t : PySem.W.typeIn K (.ref A_NarcissusError) = some (.type "type"))
    (y_NarcissusError_ga : PySem.W.findIn K (.ref A_NarcissusError) "__getattribute__" = some (some (.builtin "BaseException.__getattribute__")))
    (y_NarcissusError_gt : PySem.W.findIn K (.ref A_NarcissusError) "__getattr__" = some none)
    (y_NarcissusError_hd : PySem.W.hasDictIn K A_NarcissusError = true)
    (y_NarcissusError_ca : PySem.W.findIn K (.ref A_NarcissusError) "__class__" = some (some (.builtin "object.__class__")))
    (y_NarcissusError_sg : PySem.W.specialIn K (.builtin "object.__class__") "__get__" = some (some (.builtin "getset_descriptor.__get__")))
    (y_NarcissusError_ta : PySem.W.takesIn K (.builtin "object.__class__") = some true)
    (y_NarcissusError_mr : PySem.W.mroIn K A_NarcissusError (.type "object") = some true)
    (y_NarcissusError_k_NarcissusError : PySem.W.kitOne K (.ref A_NarcissusError) (.ref A_NarcissusError) = some true) (y_NarcissusError_s_NarcissusError : PySem.W.subIn K (.ref A_NarcissusError) (.ref A_NarcissusError) = some true)
    (y_NarcissusError_k_TooLarge : PySem.W.kitOne K (.ref A_NarcissusError) (.ref A_TooLarge) = some false) (y_NarcissusError_s_TooLarge : PySem.W.subIn K (.ref A_NarcissusError) (.ref A_TooLarge) = some false)
    (y_NarcissusError_k_OutOfSteps : PySem.W.kitOne K (.ref A_NarcissusError) (.ref A_OutOfSteps) = some false) (y_NarcissusError_s_OutOfSteps : PySem.W.subIn K (.ref A_NarcissusError) (.ref A_OutOfSteps) = some false)
    (y_TooLarge : PySem.W.nsIn K mainGlobals "TooLarge" = some (some (.ref A_TooLarge)))
    (y_TooLarge_x : PySem.W.excIn K A_TooLarge [.type "ValueError", .type "Exception", .type "BaseException", .type "object"] "ValueError.__new__" = true)
    (y_TooLarge_k : PySem.W.keepIn K (.ref A_TooLarge) = true)
    (y_TooLarge_b : PySem.W.subIn K (.ref A_TooLarge) (.type "BaseException") = some true)
    (y_TooLarge_t : PySem.W.typeIn K (.ref A_TooLarge) = some (.type "type"))
    (y_TooLarge_ga : PySem.W.findIn K (.ref A_TooLarge) "__getattribute__" = some (some (.builtin "BaseException.__getattribute__")))
    (y_TooLarge_gt : PySem.W.findIn K (.ref A_TooLarge) "__getattr__" = some none)
    (y_TooLarge_hd : PySem.W.hasDictIn K A_TooLarge = true)
    (y_TooLarge_ca : PySem.W.findIn K (.ref A_TooLarge) "__class__" = some (some (.builtin "object.__class__")))
    (y_TooLarge_sg : PySem.W.specialIn K (.builtin "object.__class__") "__get__" = some (some (.builtin "getset_descriptor.__get__")))
    (y_TooLarge_ta : PySem.W.takesIn K (.builtin "object.__class__") = some true)
    (y_TooLarge_mr : PySem.W.mroIn K A_TooLarge (.type "object") = some true)
    (y_TooLarge_k_NarcissusError : PySem.W.kitOne K (.ref A_TooLarge) (.ref A_NarcissusError) = some true) (y_TooLarge_s_NarcissusError : PySem.W.subIn K (.ref A_TooLarge) (.ref A_NarcissusError) = some true)
    (y_TooLarge_k_TooLarge : PySem.W.kitOne K (.ref A_TooLarge) (.ref A_TooLarge) = some true) (y_TooLarge_s_TooLarge : PySem.W.subIn K (.ref A_TooLarge) (.ref A_TooLarge) = some true)
    (y_TooLarge_k_OutOfSteps : PySem.W.kitOne K (.ref A_TooLarge) (.ref A_OutOfSteps) = some false) (y_TooLarge_s_OutOfSteps : PySem.W.subIn K (.ref A_TooLarge) (.ref A_OutOfSteps) = some false)
    (y_OutOfSteps : PySem.W.nsIn K mainGlobals "OutOfSteps" = some (some (.ref A_OutOfSteps)))
    (y_OutOfSteps_x : PySem.W.excIn K A_OutOfSteps [.type "ValueError", .type "Exception", .type "BaseException", .type "object"] "ValueError.__new__" = true)
    (y_OutOfSteps_k : PySem.W.keepIn K (.ref A_OutOfSteps) = true)
    (y_OutOfSteps_b : PySem.W.subIn K (.ref A_OutOfSteps) (.type "BaseException") = some true)
    (y_OutOfSteps_t : PySem.W.typeIn K (.ref A_OutOfSteps) = some (.type "type"))
    (y_OutOfSteps_ga : PySem.W.findIn K (.ref A_OutOfSteps) "__getattribute__" = some (some (.builtin "BaseException.__getattribute__")))
    (y_OutOfSteps_gt : PySem.W.findIn K (.ref A_OutOfSteps) "__getattr__" = some none)
    (y_OutOfSteps_hd : PySem.W.hasDictIn K A_OutOfSteps = true)
    (y_OutOfSteps_ca : PySem.W.findIn K (.ref A_OutOfSteps) "__class__" = some (some (.builtin "object.__class__")))
    (y_OutOfSteps_sg : PySem.W.specialIn K (.builtin "object.__class__") "__get__" = some (some (.builtin "getset_descriptor.__get__")))
    (y_OutOfSteps_ta : PySem.W.takesIn K (.builtin "object.__class__") = some true)
    (y_OutOfSteps_mr : PySem.W.mroIn K A_OutOfSteps (.type "object") = some true)
    (y_OutOfSteps_k_NarcissusError : PySem.W.kitOne K (.ref A_OutOfSteps) (.ref A_NarcissusError) = some true) (y_OutOfSteps_s_NarcissusError : PySem.W.subIn K (.ref A_OutOfSteps) (.ref A_NarcissusError) = some true)
    (y_OutOfSteps_k_TooLarge : PySem.W.kitOne K (.ref A_OutOfSteps) (.ref A_TooLarge) = some false) (y_OutOfSteps_s_TooLarge : PySem.W.subIn K (.ref A_OutOfSteps) (.ref A_TooLarge) = some false)
    (y_OutOfSteps_k_OutOfSteps : PySem.W.kitOne K (.ref A_OutOfSteps) (.ref A_OutOfSteps) = some true) (y_OutOfSteps_s_OutOfSteps : PySem.W.subIn K (.ref A_OutOfSteps) (.ref A_OutOfSteps) = some true)
    : ∃ fd : FuncData, (∀ (s : Shared) (v : Value), BindsTo s fd ⟨[v], []⟩ [("script", v)]) ∧ ∀ base : Heap, K.In base → base.Ns mainGlobals mg → FnOk l.prog w K mg base CX0 45 fa fd ["script"] (sp_law K (fun _ => 0)) := by
  have e := hfa.symm.trans (PySem.W.mg_of X G a36)
  cases e
  let cl : Cn → Addr := fun n => match n with | .NarcissusError => A_NarcissusError | .TooLarge => A_TooLarge | .BadText => 0 | .NoCode => 0 | .Ended => 0 | .OutOfSteps => A_OutOfSteps | .TooWide => 0 | .BadClaim => 0 | .Machine => A_Machine | .SHAPES => A_SHAPES | .WORDS => 0 | .CODE_OF_FIRST => 0 | .JOINING => 0 | .FORMS => A_FORMS | .ITEMS => A_ITEMS | .CHECKS => A_CHECKS
  have T : Txt K mg cl w := ⟨PySem.W.mg_none_of X G z_list, PySem.W.mg_none_of X G z_int, PySem.W.mg_none_of X G z_abs, PySem.W.mg_none_of X G z_len, PySem.W.mg_none_of X G z_range, PySem.W.mg_none_of X G z_isinstance, PySem.W.mg_none_of X G z_str, PySem.W.mg_none_of X G z_bool, PySem.W.mg_none_of X G z_all, PySem.W.mg_none_of X G z_tuple, PySem.W.mg_none_of X G z_zip, PySem.W.mg_none_of X G z_enumerate, PySem.W.mg_none_of X G z_sum, PySem.W.mg_none_of X G z_reversed, ⟨PySem.W.mg_of X G z_SHAPES, dlit_mk u_SHAPES v_SHAPES w_SHAPES x_SHAPES⟩, ⟨PySem.W.mg_of X G z_FORMS, dlit_mk u_FORMS v_FORMS w_FORMS x_FORMS⟩, ⟨PySem.W.mg_of X G z_ITEMS, dlit_mk u_ITEMS v_ITEMS w_ITEMS x_ITEMS⟩, ⟨PySem.W.mg_of X G z_CHECKS, _, _, ⟨u_CHECKS, v_CHECKS, w_CHECKS⟩⟩, ⟨_, PySem.W.mg_of X G a30, x_CHECKS_returns⟩, ⟨_, PySem.W.mg_of X G a31, x_CHECKS_lasts⟩, ⟨_, PySem.W.mg_of X G a33, x_CHECKS_never⟩, ⟨_, PySem.W.mg_of X G z_MOST_TREE⟩, ⟨_, PySem.W.mg_of X G z_MOST_CODE⟩, ⟨_, PySem.W.mg_of X G z_REGISTERS⟩, ⟨_, PySem.W.mg_of X G z_MOST_RING⟩, ⟨_, PySem.W.mg_of X G z_MOST_NUMBER⟩, ⟨_, PySem.W.mg_of X G z_MOST_INPUTS⟩, ⟨PySem.W.mg_of X G z_Machine, ⟨pg_Machine, hd_Machine, po_Machine, sa_Machine⟩⟩, na_Machine_heads, na_Machine_tails, na_Machine_sizes, na_Machine_at, na_Machine_registers, na_Machine_plan, ⟨PySem.W.mg_of X G y_NarcissusError, ⟨y_NarcissusError_x, y_NarcissusError_k, y_NarcissusError_b, y_NarcissusError_t, ⟨y_NarcissusError_ga, y_NarcissusError_gt, y_NarcissusError_b, y_NarcissusError_hd, y_NarcissusError_ca, y_NarcissusError_sg, y_NarcissusError_ta, y_NarcissusError_mr⟩⟩⟩, ⟨y_NarcissusError_k_NarcissusError, y_NarcissusError_s_NarcissusError⟩, ⟨y_NarcissusError_k_TooLarge, y_NarcissusError_s_TooLarge⟩, ⟨y_NarcissusError_k_OutOfSteps, y_NarcissusError_s_OutOfSteps⟩, ⟨PySem.W.mg_of X G y_TooLarge, ⟨y_TooLarge_x, y_TooLarge_k, y_TooLarge_b, y_TooLarge_t, ⟨y_TooLarge_ga, y_TooLarge_gt, y_TooLarge_b, y_TooLarge_hd, y_TooLarge_ca, y_TooLarge_sg, y_TooLarge_ta, y_TooLarge_mr⟩⟩⟩, ⟨y_TooLarge_k_NarcissusError, y_TooLarge_s_NarcissusError⟩, ⟨y_TooLarge_k_TooLarge, y_TooLarge_s_TooLarge⟩, ⟨y_TooLarge_k_OutOfSteps, y_TooLarge_s_OutOfSteps⟩, ⟨PySem.W.mg_of X G y_OutOfSteps, ⟨y_OutOfSteps_x, y_OutOfSteps_k, y_OutOfSteps_b, y_OutOfSteps_t, ⟨y_OutOfSteps_ga, y_OutOfSteps_gt, y_OutOfSteps_b, y_OutOfSteps_hd, y_OutOfSteps_ca, y_OutOfSteps_sg, y_OutOfSteps_ta, y_OutOfSteps_mr⟩⟩⟩, ⟨y_OutOfSteps_k_NarcissusError, y_OutOfSteps_s_NarcissusError⟩, ⟨y_OutOfSteps_k_TooLarge, y_OutOfSteps_s_TooLarge⟩, ⟨y_OutOfSteps_k_OutOfSteps, y_OutOfSteps_s_OutOfSteps⟩⟩
  refine ⟨PySem.W.fnOf "law" "law" (defArgs s_law) (defBody s_law) (defScope s_law) .none kV36 dc36 pm36 an36 cd36 ct36, fun s v => .of_eq rfl, fun base _ _ => ?_⟩
  have F0 := fun_mk (st := s_law_stream) l0 c0 k0
  have B0 := F0.binds (ps := ["script"]) fun _ _ _ _ _ _ us hl => match us, hl with | [_], _ => rfl
  have H_law_stream : Has l.prog w K mg base CX0 1 "_law_stream" ["script"] (sp_law_stream K cl) := ⟨⟨_, _, ok_law_stream T F0, PySem.W.mg_of X G a0, F0.kp, B0⟩⟩
  have F1 := fun_mk (st := s_law_world) l1 c1 k1
  have B1 := F1.binds (ps := []) fun _ _ _ _ _ _ us hl => match us, hl with | [], _ => rfl
  have H_law_world : Has l.prog w K mg base CX0 1 "_law_world" [] (sp_law_world K cl) := ⟨⟨_, _, ok_law_world T F1, PySem.W.mg_of X G a1, F1.kp, B1⟩⟩
  have F2 := fun_mk (st := s_law_draw) l2 c2 k2
  have B2 := F2.binds (ps := ["stream", "many"]) fun _ _ _ _ _ _ us hl => match us, hl with | [_, _], _ => rfl
  have H_law_draw : Has l.prog w K mg base CX0 1 "_law_draw" ["stream", "many"] (sp_law_draw K cl) := ⟨⟨_, _, ok_law_draw T F2, PySem.W.mg_of X G a2, F2.kp, B2⟩⟩
  have F3 := fun_mk (st := s_law_registers) l3 c3 k3
  have B3 := F3.binds (ps := ["stream"]) fun _ _ _ _ _ _ us hl => match us, hl with | [_], _ => rfl
  have H_law_registers : Has l.prog w K mg base CX0 2 "_law_registers" ["stream"] (sp_law_registers K cl) := ⟨⟨_, _, ok_law_registers T H_law_draw F3, PySem.W.mg_of X G a3, F3.kp, B3⟩⟩
  have F4 := fun_mk (st := s_law_tree) l4 c4 k4
  have B4 := F4.binds (ps := ["stream", "pairs"]) fun _ _ _ _ _ _ us hl => match us, hl with | [_, _], _ => rfl
  have H_law_tree : Has l.prog w K mg base CX0 42 "_law_tree" ["stream", "pairs"] (sp_law_tree K cl) := ⟨⟨_, _, ok_law_tree T H_law_draw F4 (PySem.W.mg_of X G a4) B4 40, PySem.W.mg_of X G a4, F4.kp, B4⟩⟩
  have F5 := fun_mk (st := s_law_random_program) l5 c5 k5
  have B5 := F5.binds (ps := ["stream"]) fun _ _ _ _ _ _ us hl => match us, hl with | [_], _ => rfl
  have H_law_random_program : Has l.prog w K mg base CX0 43 "_law_random_program" ["stream"] (sp_law_random_program K cl) := ⟨⟨_, _, ok_law_random_program T H_law_draw H_law_registers H_law_tree F5, PySem.W.mg_of X G a5, F5.kp, B5⟩⟩
  have F6 := fun_mk (st := s_law_short_program) l6 c6 k6
  have B6 := F6.binds (ps := ["stream"]) fun _ _ _ _ _ _ us hl => match us, hl with | [_], _ => rfl
  have H_law_short_program : Has l.prog w K mg base CX0 43 "_law_short_program" ["stream"] (sp_law_short_program K cl) := ⟨⟨_, _, ok_law_short_program T H_law_draw H_law_tree F6, PySem.W.mg_of X G a6, F6.kp, B6⟩⟩
  have F7 := fun_mk (st := s_law_program) l7 c7 k7
  have B7 := F7.binds (ps := ["stream"]) fun _ _ _ _ _ _ us hl => match us, hl with | [_], _ => rfl
  have H_law_program : Has l.prog w K mg base CX0 44 "_law_program" ["stream"] (sp_law_program K cl) := ⟨⟨_, _, ok_law_program T H_law_random_program H_law_draw H_law_short_program F7, PySem.W.mg_of X G a7, F7.kp, B7⟩⟩
  have F8 := fun_mk (st := s_law_cons) l8 c8 k8
  have B8 := F8.binds (ps := ["world", "a", "b"]) fun _ _ _ _ _ _ us hl => match us, hl with | [_, _, _], _ => rfl
  have H_law_cons : Has l.prog w K mg base CX0 1 "_law_cons" ["world", "a", "b"] (sp_law_cons K cl) := ⟨⟨_, _, ok_law_cons T F8, PySem.W.mg_of X G a8, F8.kp, B8⟩⟩
  have F9 := fun_mk (st := s_law_in) l9 c9 k9
  have B9 := F9.binds (ps := ["world", "text"]) fun _ _ _ _ _ _ us hl => match us, hl with | [_, _], _ => rfl
  have H_law_in : Has l.prog w K mg base CX0 2 "_law_in" ["world", "text"] (sp_law_in K cl) := ⟨⟨_, _, ok_law_in T H_law_cons F9, PySem.W.mg_of X G a9, F9.kp, B9⟩⟩
  have F10 := fun_mk (st := s_law_loaded) l10 c10 k10
  have B10 := F10.binds (ps := ["world", "program"]) fun _ _ _ _ _ _ us hl => match us, hl with | [_, _], _ => rfl
  have H_law_loaded : Has l.prog w K mg base CX0 3 "_law_loaded" ["world", "program"] (sp_law_loaded K cl) := ⟨⟨_, _, ok_law_loaded T H_law_in F10, PySem.W.mg_of X G a10, F10.kp, B10⟩⟩
  have F11 := fun_mk (st := s_law_step) l11 c11 k11
  have B11 := F11.binds (ps := ["world", "rows", "at", "registers"]) fun _ _ _ _ _ _ us hl => match us, hl with | [_, _, _, _], _ => rfl
  have H_law_step : Has l.prog w K mg base CX0 2 "_law_step" ["world", "rows", "at", "registers"] (sp_law_step K cl) := ⟨⟨_, _, ok_law_step T H_law_cons F11, PySem.W.mg_of X G a11, F11.kp, B11⟩⟩
  have F12 := fun_mk (st := s_law_run) l12 c12 k12
  have B12 := F12.binds (ps := ["world", "program", "x", "steps"]) fun _ _ _ _ _ _ us hl => match us, hl with | [_, _, _, _], _ => rfl
  have H_law_run : Has l.prog w K mg base CX0 4 "_law_run" ["world", "program", "x", "steps"] (sp_law_run K cl) := ⟨⟨_, _, ok_law_run T H_law_loaded H_law_step F12, PySem.W.mg_of X G a12, F12.kp, B12⟩⟩
  have F13 := fun_mk (st := s_trees_of) l13 c13 k13
  have B13 := F13.binds (ps := ["program"]) fun _ _ _ _ _ _ us hl => match us, hl with | [_], _ => rfl
  have H_trees_of : Has l.prog w K mg base CX0 1 "trees_of" ["program"] (sp_trees_of K cl) := ⟨⟨_, _, ok_trees_of T F13, PySem.W.mg_of X G a13, F13.kp, B13⟩⟩
  have F14 := fun_mk (st := s_fits_programs) l14 c14 k14
  have B14 := F14.binds (ps := ["kind", "part", "index", "count"]) fun _ _ _ _ _ _ us hl => match us, hl with | [_, _, _, _], _ => rfl
  have H_fits_programs : Has l.prog w K mg base CX0 1 "fits_programs" ["kind", "part", "index", "count"] (sp_fits_programs K cl) := ⟨⟨_, _, ok_fits_programs T F14, PySem.W.mg_of X G a14, F14.kp, B14⟩⟩
  have F15 := fun_mk (st := s_has_shape) l15 c15 k15
  have B15 := F15.binds (ps := ["value", "index", "count"]) fun _ _ _ _ _ _ us hl => match us, hl with | [_, _, _], _ => rfl
  have H_has_shape : Has l.prog w K mg base CX0 2 "_has_shape" ["value", "index", "count"] (sp_has_shape K cl) := ⟨⟨_, _, ok_has_shape T H_fits_programs F15, PySem.W.mg_of X G a15, F15.kp, B15⟩⟩
  have F16 := fun_mk (st := s_end_of) l16 c16 k16
  have B16 := F16.binds (ps := ["signs", "start"]) fun _ _ _ _ _ _ us hl => match us, hl with | [_, _], _ => rfl
  have H_end_of : Has l.prog w K mg base CX0 1 "end_of" ["signs", "start"] (sp_end_of K cl) := ⟨⟨_, _, ok_end_of T F16, PySem.W.mg_of X G a16, F16.kp, B16⟩⟩
  have F17 := fun_mk (st := s_is_tree) l17 c17 k17
  have B17 := F17.binds (ps := ["value"]) fun _ _ _ _ _ _ us hl => match us, hl with | [_], _ => rfl
  have H_is_tree : Has l.prog w K mg base CX0 2 "is_tree" ["value"] (sp_is_tree K cl) := ⟨⟨_, _, ok_is_tree T H_end_of F17, PySem.W.mg_of X G a17, F17.kp, B17⟩⟩
  have F18 := fun_mk (st := s_is_program) l18 c18 k18
  have B18 := F18.binds (ps := ["value"]) fun _ _ _ _ _ _ us hl => match us, hl with | [_], _ => rfl
  have H_is_program : Has l.prog w K mg base CX0 3 "is_program" ["value"] (sp_is_program K cl) := ⟨⟨_, _, ok_is_program T H_trees_of H_has_shape H_is_tree F18, PySem.W.mg_of X G a18, F18.kp, B18⟩⟩
  have F19 := fun_mk (st := s_may_have) l19 c19 k19
  have B19 := F19.binds (ps := ["kind", "many"]) fun _ _ _ _ _ _ us hl => match us, hl with | [_, _], _ => rfl
  have H_may_have : Has l.prog w K mg base CX0 1 "_may_have" ["kind", "many"] (sp_may_have K cl) := ⟨⟨_, _, ok_may_have T F19, PySem.W.mg_of X G a19, F19.kp, B19⟩⟩
  have F20 := fun_mk (st := s_fits_claims) l20 c20 k20
  have B20 := F20.binds (ps := ["kind", "part"]) fun _ _ _ _ _ _ us hl => match us, hl with | [_, _], _ => rfl
  have H_fits_claims : Has l.prog w K mg base CX0 6 "fits_claims" ["kind", "part"] (sp_fits_claims K cl) := ⟨⟨_, _, ok_fits_claims T H_is_program H_is_tree H_may_have F20 (PySem.W.mg_of X G a20) B20 2, PySem.W.mg_of X G a20, F20.kp, B20⟩⟩
  have F21 := fun_mk (st := s_is_claim) l21 c21 k21
  have B21 := F21.binds (ps := ["value"]) fun _ _ _ _ _ _ us hl => match us, hl with | [_], _ => rfl
  have H_is_claim : Has l.prog w K mg base CX0 7 "is_claim" ["value"] (sp_is_claim K cl) := ⟨⟨_, _, ok_is_claim T H_fits_claims F21, PySem.W.mg_of X G a21, F21.kp, B21⟩⟩
  have F22 := fun_mk (st := s_Machine_pair) l22 c22 k22
  have B22 := F22.binds (ps := ["self", "first", "second"]) fun _ _ _ _ _ _ us hl => match us, hl with | [_, _, _], _ => rfl
  have H_Machine_pair : HasM l.prog w K (cl .Machine) mg base CX0 1 "pair" ["self", "first", "second"] (sp_Machine_pair K cl) := ⟨⟨_, _, ok_Machine_pair T F22, ⟨a22, i22, k22⟩, B22⟩⟩
  have F23 := fun_mk (st := s_Machine_enter) l23 c23 k23
  have B23 := F23.binds (ps := ["self", "tree"]) fun _ _ _ _ _ _ us hl => match us, hl with | [_, _], _ => rfl
  have H_Machine_enter : HasM l.prog w K (cl .Machine) mg base CX0 2 "enter" ["self", "tree"] (sp_Machine_enter K cl) := ⟨⟨_, _, ok_Machine_enter T H_Machine_pair F23, ⟨a23, i23, k23⟩, B23⟩⟩
  have F24 := fun_mk (st := s_Machine_planned) l24 c24 k24
  have B24 := F24.binds (ps := ["self", "index", "instruction"]) fun _ _ _ _ _ _ us hl => match us, hl with | [_, _, _], _ => rfl
  have H_Machine_planned : HasM l.prog w K (cl .Machine) mg base CX0 3 "planned" ["self", "index", "instruction"] (sp_Machine_planned K cl) := ⟨⟨_, _, ok_Machine_planned T H_Machine_enter F24, ⟨a24, i24, k24⟩, B24⟩⟩
  have F25 := fun_mk (st := s_Machine___init__) l25 c25 k25
  have B25 := F25.binds (ps := ["self", "program", "x"]) fun _ _ _ _ _ _ us hl => match us, hl with | [_, _, _], _ => rfl
  have H_Machine___init__ : HasI l.prog w K (cl .Machine) mg base CX0 4 ["self", "program", "x"] (sp_Machine___init__ K cl) := ⟨⟨_, _, ok_Machine___init__ T H_Machine_planned H_Machine_enter F25, ⟨mk_Machine, a25, i25, kc_Machine⟩, B25⟩⟩
  have F26 := fun_mk (st := s_Machine_joined) l26 c26 k26
  have B26 := F26.binds (ps := ["self", "first", "second"]) fun _ _ _ _ _ _ us hl => match us, hl with | [_, _, _], _ => rfl
  have H_Machine_joined : HasM l.prog w K (cl .Machine) mg base (L2.CX l.prog w) 2 "joined" ["self", "first", "second"] (sp_Machine_joined K cl) := ⟨⟨_, _, ok_Machine_joined T H_Machine_pair F26, ⟨a26, i26, k26⟩, B26⟩⟩
  have F27 := fun_mk (st := s_Machine_advance) l27 c27 k27
  have B27 := F27.binds (ps := ["self", "steps"]) fun _ _ _ _ _ _ us hl => match us, hl with | [_, _], _ => rfl
  have H_Machine_advance : HasM l.prog w K (cl .Machine) mg base (L2.CX l.prog w) 3 "advance" ["self", "steps"] (sp_Machine_advance K cl) := ⟨⟨_, _, ok_Machine_advance T H_Machine_joined F27, ⟨a27, i27, k27⟩, B27⟩⟩
  have F28 := fun_mk (st := s_Machine_tree_of) l28 c28 k28
  have B28 := F28.binds (ps := ["self", "name"]) fun _ _ _ _ _ _ us hl => match us, hl with | [_, _], _ => rfl
  have H_Machine_tree_of : HasM l.prog w K (cl .Machine) mg base CX0 1 "tree_of" ["self", "name"] (sp_Machine_tree_of K cl) := ⟨⟨_, _, ok_Machine_tree_of T F28, ⟨a28, i28, k28⟩, B28⟩⟩
  have F29 := fun_mk (st := s_run) l29 c29 k29
  have B29 := F29.binds (ps := ["program", "x", "steps"]) fun _ _ _ _ _ _ us hl => match us, hl with | [_, _, _], _ => rfl
  have H_run : Has l.prog w K mg base (L2.CX l.prog w) 6 "run" ["program", "x", "steps"] (sp_run K cl) := ⟨⟨_, _, ok_run T H_Machine___init__ H_Machine_advance H_Machine_tree_of F29, PySem.W.mg_of X G a29, F29.kp, B29⟩⟩
  have F30 := fun_mk (st := s_shows_returns) l30 c30 k30
  have B30 := F30.binds (ps := ["program", "x", "result", "steps"]) fun _ _ _ _ _ _ us hl => match us, hl with | [_, _, _, _], _ => rfl
  have H_shows_returns : Has l.prog w K mg base (L2.CX l.prog w) 7 "_shows_returns" ["program", "x", "result", "steps"] (sp_shows_returns K cl) := ⟨⟨_, _, ok_shows_returns T H_run F30, PySem.W.mg_of X G a30, F30.kp, B30⟩⟩
  have F31 := fun_mk (st := s_shows_lasts) l31 c31 k31
  have B31 := F31.binds (ps := ["program", "x", "steps"]) fun _ _ _ _ _ _ us hl => match us, hl with | [_, _, _], _ => rfl
  have H_shows_lasts : Has l.prog w K mg base (L2.CX l.prog w) 7 "_shows_lasts" ["program", "x", "steps"] (sp_shows_lasts K cl) := ⟨⟨_, _, ok_shows_lasts T H_run F31, PySem.W.mg_of X G a31, F31.kp, B31⟩⟩
  have F32 := fun_mk (st := s_after) l32 c32 k32
  have B32 := F32.binds (ps := ["program", "x", "steps"]) fun _ _ _ _ _ _ us hl => match us, hl with | [_, _, _], _ => rfl
  have H_after : Has l.prog w K mg base (L2.CX l.prog w) 6 "after" ["program", "x", "steps"] (sp_after K cl) := ⟨⟨_, _, ok_after T H_Machine___init__ H_Machine_advance H_Machine_tree_of F32, PySem.W.mg_of X G a32, F32.kp, B32⟩⟩
  have F33 := fun_mk (st := s_shows_never) l33 c33 k33
  have B33 := F33.binds (ps := ["program", "x", "early", "late"]) fun _ _ _ _ _ _ us hl => match us, hl with | [_, _, _, _], _ => rfl
  have H_shows_never : Has l.prog w K mg base (L2.CX l.prog w) 7 "_shows_never" ["program", "x", "early", "late"] (sp_shows_never K cl) := ⟨⟨_, _, ok_shows_never T H_after F33, PySem.W.mg_of X G a33, F33.kp, B33⟩⟩
  have F34 := fun_mk (st := s_is_shown) l34 c34 k34
  have B34 := F34.binds (ps := ["claim"]) fun _ _ _ _ _ _ us hl => match us, hl with | [_], _ => rfl
  have H_is_shown : Has l.prog w K mg base CX0 8 "is_shown" ["claim"] (sp_is_shown K cl) := ⟨⟨_, _, ok_is_shown T H_is_claim H_shows_returns H_shows_lasts H_shows_never F34, PySem.W.mg_of X G a34, F34.kp, B34⟩⟩
  have F35 := fun_mk (st := s_law_out) l35 c35 k35
  have B35 := F35.binds (ps := ["world", "tree"]) fun _ _ _ _ _ _ us hl => match us, hl with | [_, _], _ => rfl
  have H_law_out : Has l.prog w K mg base CX0 1 "_law_out" ["world", "tree"] (sp_law_out K cl) := ⟨⟨_, _, ok_law_out T F35, PySem.W.mg_of X G a35, F35.kp, B35⟩⟩
  have F36 := fun_mk (st := s_law) l36 c36 k36
  exact ok_law T H_law_stream H_law_world H_law_program H_law_tree H_law_draw H_law_run H_is_shown H_law_in H_law_out F36
end Nx
open PySem PySem.W PyProof.Rows
set_option maxRecDepth 100000 in
set_option maxHeartbeats 0 in
theorem PySem.Challenge.cw_narcissus_k48_whole_claims_agree_holds : PySem.Challenge.rw_narcissus_k48_whole_claims_agree.Holds := by
  w_on; o_law; k_head; (case hw => w_witness2)
  k_fill
  refine L2.walk_of (l := PySem.Challenge.rw_narcissus_k48_whole_claims_agree) (n := 63) (k := 45) (x := "script") (CX := fun _ => L2.CX0) (sp := fun w => Nx.sp_law _ (fun _ => 0)) rfl (by decide) rfl ⟨rfl, by decide, by decide⟩ (fun w h Y => PySem.W.kIn_of Y) ?F (fun _ _ a ns hl _ hS => ⟨a, ns, rfl, hS, hl, fun _ => rfl⟩) (fun _ _ _ _ _ h => h)
  case F =>
    intro w mg fa h KX G hmg
    refine' Nx.all_mk KX G hmg ?a0 ?l0 ?c0 ?k0 ?a1 ?l1 ?c1 ?k1 ?a2 ?l2 ?c2 ?k2 ?a3 ?l3 ?c3 ?k3 ?a4 ?l4 ?c4 ?k4 ?a5 ?l5 ?c5 ?k5 ?a6 ?l6 ?c6 ?k6 ?a7 ?l7 ?c7 ?k7 ?a8 ?l8 ?c8 ?k8 ?a9 ?l9 ?c9 ?k9 ?a10 ?l10 ?c10 ?k10 ?a11 ?l11 ?c11 ?k11 ?a12 ?l12 ?c12 ?k12 ?a13 ?l13 ?c13 ?k13 ?a14 ?l14 ?c14 ?k14 ?a15 ?l15 ?c15 ?k15 ?a16 ?l16 ?c16 ?k16 ?a17 ?l17 ?c17 ?k17 ?a18 ?l18 ?c18 ?k18 ?a19 ?l19 ?c19 ?k19 ?a20 ?l20 ?c20 ?k20 ?a21 ?l21 ?c21 ?k21 ?a22 ?i22 ?l22 ?c22 ?k22 ?a23 ?i23 ?l23 ?c23 ?k23 ?a24 ?i24 ?l24 ?c24 ?k24 ?a25 ?i25 ?l25 ?c25 ?k25 ?a26 ?i26 ?l26 ?c26 ?k26 ?a27 ?i27 ?l27 ?c27 ?k27 ?a28 ?i28 ?l28 ?c28 ?k28 ?a29 ?l29 ?c29 ?k29 ?a30 ?l30 ?c30 ?k30 ?a31 ?l31 ?c31 ?k31 ?a32 ?l32 ?c32 ?k32 ?a33 ?l33 ?c33 ?k33 ?a34 ?l34 ?c34 ?k34 ?a35 ?l35 ?c35 ?k35 ?a36 ?l36 ?c36 ?k36 ?z_list ?z_int ?z_abs ?z_len ?z_range ?z_isinstance ?z_str ?z_bool ?z_all ?z_tuple ?z_zip ?z_enumerate ?z_sum ?z_reversed ?z_MOST_TREE ?z_MOST_CODE ?z_REGISTERS ?z_MOST_RING ?z_MOST_NUMBER ?z_MOST_INPUTS ?z_SHAPES ?u_SHAPES ?v_SHAPES ?w_SHAPES ?x_SHAPES ?z_FORMS ?u_FORMS ?v_FORMS ?w_FORMS ?x_FORMS ?z_ITEMS ?u_ITEMS ?v_ITEMS ?w_ITEMS ?x_ITEMS ?z_CHECKS ?u_CHECKS ?v_CHECKS ?w_CHECKS ?x_CHECKS_returns ?x_CHECKS_lasts ?x_CHECKS_never ?z_Machine ?pg_Machine ?hd_Machine ?po_Machine ?sa_Machine ?mk_Machine ?kc_Machine ?na_Machine_heads ?na_Machine_tails ?na_Machine_sizes ?na_Machine_at ?na_Machine_registers ?na_Machine_plan ?y_NarcissusError ?y_NarcissusError_x ?y_NarcissusError_k ?y_NarcissusError_b ?y_NarcissusError_t ?y_NarcissusError_ga ?y_NarcissusError_gt ?y_NarcissusError_hd ?y_NarcissusError_ca ?y_NarcissusError_sg ?y_NarcissusError_ta ?y_NarcissusError_mr ?y_NarcissusError_k_NarcissusError ?y_NarcissusError_s_NarcissusError ?y_NarcissusError_k_TooLarge ?y_NarcissusError_s_TooLarge ?y_NarcissusError_k_OutOfSteps ?y_NarcissusError_s_OutOfSteps ?y_TooLarge ?y_TooLarge_x ?y_TooLarge_k ?y_TooLarge_b ?y_TooLarge_t ?y_TooLarge_ga ?y_TooLarge_gt ?y_TooLarge_hd ?y_TooLarge_ca ?y_TooLarge_sg ?y_TooLarge_ta ?y_TooLarge_mr ?y_TooLarge_k_NarcissusError ?y_TooLarge_s_NarcissusError ?y_TooLarge_k_TooLarge ?y_TooLarge_s_TooLarge ?y_TooLarge_k_OutOfSteps ?y_TooLarge_s_OutOfSteps ?y_OutOfSteps ?y_OutOfSteps_x ?y_OutOfSteps_k ?y_OutOfSteps_b ?y_OutOfSteps_t ?y_OutOfSteps_ga ?y_OutOfSteps_gt ?y_OutOfSteps_hd ?y_OutOfSteps_ca ?y_OutOfSteps_sg ?y_OutOfSteps_ta ?y_OutOfSteps_mr ?y_OutOfSteps_k_NarcissusError ?y_OutOfSteps_s_NarcissusError ?y_OutOfSteps_k_TooLarge ?y_OutOfSteps_s_TooLarge ?y_OutOfSteps_k_OutOfSteps ?y_OutOfSteps_s_OutOfSteps
    (case z_Machine => first | rfl | k_is)
    (case y_NarcissusError => first | rfl | k_is)
    (case y_TooLarge => first | rfl | k_is)
    (case y_OutOfSteps => first | rfl | k_is)
    (case a0 => first | rfl | k_is)
    (case l0 => first | rfl | k_is)
    (case c0 => first | rfl | k_is)
    (case k0 => first | rfl | k_is)
    (case a1 => first | rfl | k_is)
    (case l1 => first | rfl | k_is)
    (case c1 => first | rfl | k_is)
    (case k1 => first | rfl | k_is)
    (case a2 => first | rfl | k_is)
    (case l2 => first | rfl | k_is)
    (case c2 => first | rfl | k_is)
    (case k2 => first | rfl | k_is)
    (case a3 => first | rfl | k_is)
    (case l3 => first | rfl | k_is)
    (case c3 => first | rfl | k_is)
    (case k3 => first | rfl | k_is)
    (case a4 => first | rfl | k_is)
    (case l4 => first | rfl | k_is)
    (case c4 => first | rfl | k_is)
    (case k4 => first | rfl | k_is)
    (case a5 => first | rfl | k_is)
    (case l5 => first | rfl | k_is)
    (case c5 => first | rfl | k_is)
    (case k5 => first | rfl | k_is)
    (case a6 => first | rfl | k_is)
    (case l6 => first | rfl | k_is)
    (case c6 => first | rfl | k_is)
    (case k6 => first | rfl | k_is)
    (case a7 => first | rfl | k_is)
    (case l7 => first | rfl | k_is)
    (case c7 => first | rfl | k_is)
    (case k7 => first | rfl | k_is)
    (case a8 => first | rfl | k_is)
    (case l8 => first | rfl | k_is)
    (case c8 => first | rfl | k_is)
    (case k8 => first | rfl | k_is)
    (case a9 => first | rfl | k_is)
    (case l9 => first | rfl | k_is)
    (case c9 => first | rfl | k_is)
    (case k9 => first | rfl | k_is)
    (case a10 => first | rfl | k_is)
    (case l10 => first | rfl | k_is)
    (case c10 => first | rfl | k_is)
    (case k10 => first | rfl | k_is)
    (case a11 => first | rfl | k_is)
    (case l11 => first | rfl | k_is)
    (case c11 => first | rfl | k_is)
    (case k11 => first | rfl | k_is)
    (case a12 => first | rfl | k_is)
    (case l12 => first | rfl | k_is)
    (case c12 => first | rfl | k_is)
    (case k12 => first | rfl | k_is)
    (case a13 => first | rfl | k_is)
    (case l13 => first | rfl | k_is)
    (case c13 => first | rfl | k_is)
    (case k13 => first | rfl | k_is)
    (case a14 => first | rfl | k_is)
    (case l14 => first | rfl | k_is)
    (case c14 => first | rfl | k_is)
    (case k14 => first | rfl | k_is)
    (case a15 => first | rfl | k_is)
    (case l15 => first | rfl | k_is)
    (case c15 => first | rfl | k_is)
    (case k15 => first | rfl | k_is)
    (case a16 => first | rfl | k_is)
    (case l16 => first | rfl | k_is)
    (case c16 => first | rfl | k_is)
    (case k16 => first | rfl | k_is)
    (case a17 => first | rfl | k_is)
    (case l17 => first | rfl | k_is)
    (case c17 => first | rfl | k_is)
    (case k17 => first | rfl | k_is)
    (case a18 => first | rfl | k_is)
    (case l18 => first | rfl | k_is)
    (case c18 => first | rfl | k_is)
    (case k18 => first | rfl | k_is)
    (case a19 => first | rfl | k_is)
    (case l19 => first | rfl | k_is)
    (case c19 => first | rfl | k_is)
    (case k19 => first | rfl | k_is)
    (case a20 => first | rfl | k_is)
    (case l20 => first | rfl | k_is)
    (case c20 => first | rfl | k_is)
    (case k20 => first | rfl | k_is)
    (case a21 => first | rfl | k_is)
    (case l21 => first | rfl | k_is)
    (case c21 => first | rfl | k_is)
    (case k21 => first | rfl | k_is)
    (case a22 => first | rfl | k_is)
    (case i22 => first | rfl | k_is)
    (case l22 => first | rfl | k_is)
    (case c22 => first | rfl | k_is)
    (case k22 => first | rfl | k_is)
    (case a23 => first | rfl | k_is)
    (case i23 => first | rfl | k_is)
    (case l23 => first | rfl | k_is)
    (case c23 => first | rfl | k_is)
    (case k23 => first | rfl | k_is)
    (case a24 => first | rfl | k_is)
    (case i24 => first | rfl | k_is)
    (case l24 => first | rfl | k_is)
    (case c24 => first | rfl | k_is)
    (case k24 => first | rfl | k_is)
    (case a25 => first | rfl | k_is)
    (case i25 => first | rfl | k_is)
    (case l25 => first | rfl | k_is)
    (case c25 => first | rfl | k_is)
    (case k25 => first | rfl | k_is)
    (case a26 => first | rfl | k_is)
    (case i26 => first | rfl | k_is)
    (case l26 => first | rfl | k_is)
    (case c26 => first | rfl | k_is)
    (case k26 => first | rfl | k_is)
    (case a27 => first | rfl | k_is)
    (case i27 => first | rfl | k_is)
    (case l27 => first | rfl | k_is)
    (case c27 => first | rfl | k_is)
    (case k27 => first | rfl | k_is)
    (case a28 => first | rfl | k_is)
    (case i28 => first | rfl | k_is)
    (case l28 => first | rfl | k_is)
    (case c28 => first | rfl | k_is)
    (case k28 => first | rfl | k_is)
    (case a29 => first | rfl | k_is)
    (case l29 => first | rfl | k_is)
    (case c29 => first | rfl | k_is)
    (case k29 => first | rfl | k_is)
    (case a30 => first | rfl | k_is)
    (case l30 => first | rfl | k_is)
    (case c30 => first | rfl | k_is)
    (case k30 => first | rfl | k_is)
    (case a31 => first | rfl | k_is)
    (case l31 => first | rfl | k_is)
    (case c31 => first | rfl | k_is)
    (case k31 => first | rfl | k_is)
    (case a32 => first | rfl | k_is)
    (case l32 => first | rfl | k_is)
    (case c32 => first | rfl | k_is)
    (case k32 => first | rfl | k_is)
    (case a33 => first | rfl | k_is)
    (case l33 => first | rfl | k_is)
    (case c33 => first | rfl | k_is)
    (case k33 => first | rfl | k_is)
    (case a34 => first | rfl | k_is)
    (case l34 => first | rfl | k_is)
    (case c34 => first | rfl | k_is)
    (case k34 => first | rfl | k_is)
    (case a35 => first | rfl | k_is)
    (case l35 => first | rfl | k_is)
    (case c35 => first | rfl | k_is)
    (case k35 => first | rfl | k_is)
    (case a36 => first | rfl | k_is)
    (case l36 => first | rfl | k_is)
    (case c36 => first | rfl | k_is)
    (case k36 => first | rfl | k_is)
    (case z_list => first | rfl | k_is)
    (case z_int => first | rfl | k_is)
    (case z_abs => first | rfl | k_is)
    (case z_len => first | rfl | k_is)
    (case z_range => first | rfl | k_is)
    (case z_isinstance => first | rfl | k_is)
    (case z_str => first | rfl | k_is)
    (case z_bool => first | rfl | k_is)
    (case z_all => first | rfl | k_is)
    (case z_tuple => first | rfl | k_is)
    (case z_zip => first | rfl | k_is)
    (case z_enumerate => first | rfl | k_is)
    (case z_sum => first | rfl | k_is)
    (case z_reversed => first | rfl | k_is)
    (case z_MOST_TREE => first | rfl | k_is)
    (case z_MOST_CODE => first | rfl | k_is)
    (case z_REGISTERS => first | rfl | k_is)
    (case z_MOST_RING => first | rfl | k_is)
    (case z_MOST_NUMBER => first | rfl | k_is)
    (case z_MOST_INPUTS => first | rfl | k_is)
    (case z_SHAPES => first | rfl | k_is)
    (case u_SHAPES => first | rfl | k_is)
    (case v_SHAPES => exact ⟨⟨_, _, rfl, rfl⟩, ⟨⟨_, _, rfl, rfl⟩, ⟨⟨_, _, rfl, rfl⟩, ⟨⟨_, _, rfl, rfl⟩, ⟨⟨_, _, rfl, rfl⟩, ⟨⟨_, _, rfl, rfl⟩, True.intro⟩⟩⟩⟩⟩⟩)
    (case w_SHAPES => first | rfl | decide)
    (case x_SHAPES => exact Nx.Paired.cons' ⟨_, rfl⟩ ⟨_, rfl⟩ (Nx.Paired.cons' ⟨_, rfl⟩ ⟨_, rfl⟩ (Nx.Paired.cons' ⟨_, rfl⟩ ⟨_, rfl⟩ (Nx.Paired.cons' ⟨_, rfl⟩ ⟨_, rfl⟩ (Nx.Paired.cons' ⟨_, rfl⟩ ⟨_, rfl⟩ (Nx.Paired.cons' ⟨_, rfl⟩ ⟨_, rfl⟩ (.nil)))))))
    (case z_FORMS => first | rfl | k_is)
    (case u_FORMS => first | rfl | k_is)
    (case v_FORMS => exact ⟨⟨_, _, rfl, rfl⟩, ⟨⟨_, _, rfl, rfl⟩, ⟨⟨_, _, rfl, rfl⟩, ⟨⟨_, _, rfl, rfl⟩, ⟨⟨_, _, rfl, rfl⟩, ⟨⟨_, _, rfl, rfl⟩, ⟨⟨_, _, rfl, rfl⟩, ⟨⟨_, _, rfl, rfl⟩, ⟨⟨_, _, rfl, rfl⟩, True.intro⟩⟩⟩⟩⟩⟩⟩⟩⟩)
    (case w_FORMS => first | rfl | decide)
    (case x_FORMS => exact Nx.Paired.cons' ⟨_, rfl⟩ ⟨_, rfl⟩ (Nx.Paired.cons' ⟨_, rfl⟩ ⟨_, rfl⟩ (Nx.Paired.cons' ⟨_, rfl⟩ ⟨_, rfl⟩ (Nx.Paired.cons' ⟨_, rfl⟩ ⟨_, rfl⟩ (Nx.Paired.cons' ⟨_, rfl⟩ ⟨_, rfl⟩ (Nx.Paired.cons' ⟨_, rfl⟩ ⟨_, rfl⟩ (Nx.Paired.cons' ⟨_, rfl⟩ ⟨_, rfl⟩ (Nx.Paired.cons' ⟨_, rfl⟩ ⟨_, rfl⟩ (Nx.Paired.cons' ⟨_, rfl⟩ ⟨_, rfl⟩ (.nil))))))))))
    (case z_ITEMS => first | rfl | k_is)
    (case u_ITEMS => first | rfl | k_is)
    (case v_ITEMS => exact ⟨⟨_, _, rfl, rfl⟩, ⟨⟨_, _, rfl, rfl⟩, True.intro⟩⟩)
    (case w_ITEMS => first | rfl | decide)
    (case x_ITEMS => exact Nx.Paired.cons' ⟨_, rfl⟩ ⟨_, rfl⟩ (Nx.Paired.cons' ⟨_, rfl⟩ ⟨_, rfl⟩ (.nil)))
    (case z_CHECKS => first | rfl | k_is)
    (case u_CHECKS => first | rfl | k_is)
    (case v_CHECKS => exact ⟨⟨_, _, rfl, rfl⟩, ⟨⟨_, _, rfl, rfl⟩, ⟨⟨_, _, rfl, rfl⟩, ⟨⟨_, _, rfl, rfl⟩, ⟨⟨_, _, rfl, rfl⟩, ⟨⟨_, _, rfl, rfl⟩, ⟨⟨_, _, rfl, rfl⟩, ⟨⟨_, _, rfl, rfl⟩, ⟨⟨_, _, rfl, rfl⟩, True.intro⟩⟩⟩⟩⟩⟩⟩⟩⟩)
    (case w_CHECKS => first | rfl | decide)
    (case x_CHECKS_returns => first | rfl | k_is)
    (case x_CHECKS_lasts => first | rfl | k_is)
    (case x_CHECKS_never => first | rfl | k_is)
    (case pg_Machine => first | rfl | k_is)
    (case hd_Machine => first | rfl | k_is)
    (case po_Machine => first | rfl | k_is)
    (case sa_Machine => first | rfl | k_is)
    (case mk_Machine => first | rfl | k_is)
    (case kc_Machine => first | rfl | k_is)
    (case na_Machine_heads => first | rfl | k_is)
    (case na_Machine_tails => first | rfl | k_is)
    (case na_Machine_sizes => first | rfl | k_is)
    (case na_Machine_at => first | rfl | k_is)
    (case na_Machine_registers => first | rfl | k_is)
    (case na_Machine_plan => first | rfl | k_is)
    (case y_NarcissusError_x => k_exc)
    (case y_NarcissusError_k => first | rfl | k_is)
    (case y_NarcissusError_b => first | rfl | k_is)
    (case y_NarcissusError_t => first | rfl | k_is)
    (case y_NarcissusError_ga => first | rfl | k_is)
    (case y_NarcissusError_gt => first | rfl | k_is)
    (case y_NarcissusError_hd => first | rfl | k_is)
    (case y_NarcissusError_ca => first | rfl | k_is)
    (case y_NarcissusError_sg => first | rfl | k_is)
    (case y_NarcissusError_ta => first | rfl | k_is)
    (case y_NarcissusError_mr => first | rfl | k_is)
    (case y_NarcissusError_k_NarcissusError => first | rfl | k_is)
    (case y_NarcissusError_s_NarcissusError => first | rfl | k_is)
    (case y_NarcissusError_k_TooLarge => first | rfl | k_is)
    (case y_NarcissusError_s_TooLarge => first | rfl | k_is)
    (case y_NarcissusError_k_OutOfSteps => first | rfl | k_is)
    (case y_NarcissusError_s_OutOfSteps => first | rfl | k_is)
    (case y_TooLarge_x => k_exc)
    (case y_TooLarge_k => first | rfl | k_is)
    (case y_TooLarge_b => first | rfl | k_is)
    (case y_TooLarge_t => first | rfl | k_is)
    (case y_TooLarge_ga => first | rfl | k_is)
    (case y_TooLarge_gt => first | rfl | k_is)
    (case y_TooLarge_hd => first | rfl | k_is)
    (case y_TooLarge_ca => first | rfl | k_is)
    (case y_TooLarge_sg => first | rfl | k_is)
    (case y_TooLarge_ta => first | rfl | k_is)
    (case y_TooLarge_mr => first | rfl | k_is)
    (case y_TooLarge_k_NarcissusError => first | rfl | k_is)
    (case y_TooLarge_s_NarcissusError => first | rfl | k_is)
    (case y_TooLarge_k_TooLarge => first | rfl | k_is)
    (case y_TooLarge_s_TooLarge => first | rfl | k_is)
    (case y_TooLarge_k_OutOfSteps => first | rfl | k_is)
    (case y_TooLarge_s_OutOfSteps => first | rfl | k_is)
    (case y_OutOfSteps_x => k_exc)
    (case y_OutOfSteps_k => first | rfl | k_is)
    (case y_OutOfSteps_b => first | rfl | k_is)
    (case y_OutOfSteps_t => first | rfl | k_is)
    (case y_OutOfSteps_ga => first | rfl | k_is)
    (case y_OutOfSteps_gt => first | rfl | k_is)
    (case y_OutOfSteps_hd => first | rfl | k_is)
    (case y_OutOfSteps_ca => first | rfl | k_is)
    (case y_OutOfSteps_sg => first | rfl | k_is)
    (case y_OutOfSteps_ta => first | rfl | k_is)
    (case y_OutOfSteps_mr => first | rfl | k_is)
    (case y_OutOfSteps_k_NarcissusError => first | rfl | k_is)
    (case y_OutOfSteps_s_NarcissusError => first | rfl | k_is)
    (case y_OutOfSteps_k_TooLarge => first | rfl | k_is)
    (case y_OutOfSteps_s_TooLarge => first | rfl | k_is)
    (case y_OutOfSteps_k_OutOfSteps => first | rfl | k_is)
    (case y_OutOfSteps_s_OutOfSteps => first | rfl | k_is)
