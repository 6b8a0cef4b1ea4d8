import PyProof.Rows.All
import Wide.All
import OpenK.AllK
import Wide.FinOn
import Open.SpecLaws
import KE.OsGo
import HandS.ForSpec
import HandS.Comp
import HandS.Iter
import HandS.IsInst
import HandS.Codes
import HandS.Evl
import HandS.Wide
import HandS.Walk
import HandS.More
import HandS.Exc
import KE.GoesRaise
import VamacfSpec
import PyVamacf
import PySem.Challenge.RW_programends_s01_answers
set_option linter.all false
/-! The reading of a program: a mirror that goes as the program goes (pieces counted, depth counted), and that it is the specification's. -/
namespace My
open VamacBase
theorem bind_some_iff {α β : Type} {o : Option α} {f : α → Option β} {b : β} : o.bind f = some b ↔ ∃ a, o = some a ∧ f a = some b := by
  cases o <;> simp
theorem map_some_iff {α β : Type} {o : Option α} {f : α → β} {b : β} : o.map f = some b ↔ ∃ a, o = some a ∧ f a = b := by
  cases o <;> simp
/-- a row's pieces, so many, with so many read before them -/
def rowsM (row : Nat → Reader Prog) : Nat → Nat → Reader Prog
  | 0, _, x => some (.done, x)
  | k + 1, c, x => if c = 16 then none else match x with
    | 0 :: y => (readDeed y).bind fun d => (if hasNumber d.1 then readValue d.2 else some (0, d.2)).bind fun s => (rowsM row k (c + 1) s.2).map fun r => (.deed d.1 s.1 r.1, r.2)
    | 1 :: y => (readNat 1 9 y).bind fun n => (row (c + 1) n.2).bind fun b => (rowsM row k (c + 1 + b.1.size) b.2).map fun r => (.times n.1 b.1 r.1, r.2)
    | 2 :: y => (row (c + 1) y).bind fun b => (rowsM row k (c + 1 + b.1.size) b.2).map fun r => (.toEnd b.1 r.1, r.2)
    | 3 :: y => (readPair readField readValue y).bind fun u => (row (c + 1) u.2).bind fun b => (rowsM row k (c + 1 + b.1.size) b.2).map fun r => (.when u.1.1 u.1.2 b.1 r.1, r.2)
    | _ => none
/-- a row, so many levels of rows may still be opened (itself too) -/
def rowM : Nat → Nat → Reader Prog
  | 0, _, _ => none
  | d + 1, c, x => (readNat 0 16 x).bind fun k => rowsM (rowM d) k.1 c k.2

theorem readNat_some {lo hi : Nat} {x y : List Int} {n : Nat} (h : readNat lo hi x = some (n, y)) : x = (n : Int) :: y ∧ lo ≤ n ∧ n ≤ hi := by
  unfold readNat at h
  split at h
  · cases h
  · rename_i z r
    split at h
    · rename_i hz
      cases h
      unfold int at hz
      refine ⟨?_, ?_, ?_⟩
      · congr 1; omega
      · omega
      · omega
    · cases h
theorem readValue_some {x y : List Int} {v : Int} (h : readValue x = some (v, y)) : x = v :: y ∧ okValue v = true := by
  unfold readValue at h
  split at h
  · cases h
  · split at h
    · rename_i hz
      cases h
      exact ⟨rfl, hz⟩
    · cases h
theorem readPair_some {A B : Type} {a : Reader A} {b : Reader B} {x y : List Int} {u : A} {v : B} (h : readPair a b x = some ((u, v), y)) : ∃ z, a x = some (u, z) ∧ b z = some (v, y) := by
  unfold readPair at h
  rw [bind_some_iff] at h
  obtain ⟨p, h1, h2⟩ := h
  rw [map_some_iff] at h2
  obtain ⟨q, h3, h4⟩ := h2
  cases h4
  exact ⟨p.2, h1, h3⟩
theorem readDeed_some {x y : List Int} {d : Deed} (h : readDeed x = some (d, y)) : x = flatDeed d ++ y ∧ okDeed d = true := by
  unfold readDeed at h
  split at h
  all_goals first
    | (rw [map_some_iff] at h
       obtain ⟨⟨⟨f, v⟩, z⟩, h1, h2⟩ := h
       cases h2
       obtain ⟨z', e1, e2⟩ := readPair_some h1
       obtain ⟨rfl, f1, f2⟩ := readNat_some e1
       obtain ⟨rfl, v1⟩ := readValue_some e2
       refine ⟨rfl, ?_⟩
       have hf : okField f = true := by unfold okField FIELDS; unfold FIELDS at f2; exact decide_eq_true (by omega)
       simp only [okDeed, hf, v1, Bool.and_self])
    | (rw [map_some_iff] at h
       obtain ⟨⟨f, z⟩, h1, h2⟩ := h
       cases h2
       obtain ⟨rfl, f1, f2⟩ := readNat_some h1
       refine ⟨rfl, ?_⟩
       have hf : okField f = true := by unfold okField FIELDS; unfold FIELDS at f2; exact decide_eq_true (by omega)
       exact hf)
    | (injection h with h; injection h with h1 h2; subst h1 h2; exact ⟨rfl, rfl⟩)
    | cases h
theorem step_some {d : Deed} {z y : List Int} {s : Int} (h : (if hasNumber d then readValue z else some (0, z)) = some (s, y)) :
    z = (if hasNumber d then [s] else []) ++ y ∧ okValue s = true ∧ (hasNumber d || s == 0) = true := by
  split at h
  · rename_i hn
    obtain ⟨rfl, hv⟩ := readValue_some h
    exact ⟨by rw [if_pos hn]; rfl, hv, by rw [hn]; rfl⟩
  · rename_i hn
    cases h
    exact ⟨by rw [if_neg hn]; rfl, rfl, by simp⟩
/-- what was read of a row's pieces -/
theorem readPieces_some : ∀ (f n : Nat) (x y : List Int) (p : Prog), readPieces f n x = some (p, y) → x = flatPieces p ++ y ∧ p.row = n ∧ okPieces p = true
  | 0, _, _, _, _, h => by simp [readPieces] at h
  | f + 1, n, x, y, p, h => by
    unfold readPieces at h
    dsimp only at h
    split at h
    · rename_i hn
      cases h
      exact ⟨rfl, hn.symm, rfl⟩
    · rename_i hn
      have row_some : ∀ {z w : List Int} {b : Prog}, ((readNat 0 PIECES z).bind fun k => readPieces f k.1 k.2) = some (b, w) → z = (b.row : Int) :: (flatPieces b ++ w) ∧ okPieces b = true := by
        intro z w b hb
        rw [bind_some_iff] at hb
        obtain ⟨⟨k, z'⟩, e1, e2⟩ := hb
        obtain ⟨rfl, _, _⟩ := readNat_some e1
        obtain ⟨rfl, rfl, ok⟩ := readPieces_some f _ _ _ _ e2
        exact ⟨rfl, ok⟩
      split at h
      · rw [bind_some_iff] at h
        obtain ⟨⟨d, z⟩, e1, h⟩ := h
        rw [bind_some_iff] at h
        obtain ⟨⟨s, z2⟩, e2, h⟩ := h
        rw [map_some_iff] at h
        obtain ⟨⟨r, z3⟩, e3, h⟩ := h
        cases h
        obtain ⟨rfl, o1⟩ := readDeed_some e1
        obtain ⟨e2', o2, o3⟩ := step_some e2
        obtain ⟨rfl, rn, o4⟩ := readPieces_some f _ _ _ _ e3
        (try simp only at e2')
        refine ⟨?_, ?_, ?_⟩
        · simp only [flatPieces, List.cons_append, List.append_assoc, e2']
        · simp only [Prog.row]; omega
        · simp only [okPieces, o1, o2, o3, o4, Bool.and_self]
      · rw [bind_some_iff] at h
        obtain ⟨⟨k, z⟩, e1, h⟩ := h
        rw [bind_some_iff] at h
        obtain ⟨⟨b, z2⟩, e2, h⟩ := h
        rw [map_some_iff] at h
        obtain ⟨⟨r, z3⟩, e3, h⟩ := h
        cases h
        obtain ⟨rfl, k1, k2⟩ := readNat_some e1
        obtain ⟨e2', o2⟩ := row_some e2
        obtain ⟨rfl, rn, o4⟩ := readPieces_some f _ _ _ _ e3
        (try simp only at e2')
        refine ⟨?_, ?_, ?_⟩
        · simp only [flatPieces, List.cons_append, List.append_assoc, int, e2']
        · simp only [Prog.row]; omega
        · simp only [okPieces, o2, o4, Bool.and_self, Bool.and_true, decide_eq_true k1, decide_eq_true k2]
      · rw [bind_some_iff] at h
        obtain ⟨⟨b, z2⟩, e2, h⟩ := h
        rw [map_some_iff] at h
        obtain ⟨⟨r, z3⟩, e3, h⟩ := h
        cases h
        obtain ⟨e2', o2⟩ := row_some e2
        obtain ⟨rfl, rn, o4⟩ := readPieces_some f _ _ _ _ e3
        (try simp only at e2')
        refine ⟨?_, ?_, ?_⟩
        · simp only [flatPieces, List.cons_append, List.append_assoc, int, e2']
        · simp only [Prog.row]; omega
        · simp only [okPieces, o2, o4, Bool.and_self]
      · rw [bind_some_iff] at h
        obtain ⟨⟨⟨fl, v⟩, z⟩, e1, h⟩ := h
        rw [bind_some_iff] at h
        obtain ⟨⟨b, z2⟩, e2, h⟩ := h
        rw [map_some_iff] at h
        obtain ⟨⟨r, z3⟩, e3, h⟩ := h
        cases h
        obtain ⟨z', f1, f2⟩ := readPair_some e1
        obtain ⟨rfl, k1, k2⟩ := readNat_some f1
        obtain ⟨rfl, k3⟩ := readValue_some f2
        obtain ⟨e2', o2⟩ := row_some e2
        obtain ⟨rfl, rn, o4⟩ := readPieces_some f _ _ _ _ e3
        (try simp only at e2')
        have hf : okField fl = true := by unfold okField FIELDS; unfold FIELDS at k2; exact decide_eq_true (by omega)
        refine ⟨?_, ?_, ?_⟩
        · simp only [flatPieces, List.cons_append, List.append_assoc, int, e2']
        · simp only [Prog.row]; omega
        · simp only [okPieces, o2, o4, k3, hf, Bool.and_self]
      · cases h

theorem rowsM_size {row : Nat → Reader Prog} (hrow : ∀ c x y b, c ≤ 16 → row c x = some (b, y) → c + b.size ≤ 16) : ∀ (k c : Nat) (x y : List Int) (p : Prog), c ≤ 16 → rowsM row k c x = some (p, y) → c + p.size ≤ 16
  | 0, c, x, y, p, hc, h => by
    cases h
    exact hc
  | k + 1, c, x, y, p, hc, h => by
    unfold rowsM at h
    split at h
    · cases h
    · split at h
      · rw [bind_some_iff] at h
        obtain ⟨⟨d, z⟩, e1, h⟩ := h
        rw [bind_some_iff] at h
        obtain ⟨⟨s, z2⟩, e2, h⟩ := h
        rw [map_some_iff] at h
        obtain ⟨⟨r, z3⟩, e3, h⟩ := h
        cases h
        have := rowsM_size hrow k _ _ _ _ (by omega) e3
        show c + (r.size + 1) ≤ 16
        omega
      · rw [bind_some_iff] at h
        obtain ⟨⟨n, z⟩, e1, h⟩ := h
        rw [bind_some_iff] at h
        obtain ⟨⟨b, z2⟩, e2, h⟩ := h
        rw [map_some_iff] at h
        obtain ⟨⟨r, z3⟩, e3, h⟩ := h
        cases h
        have hb : c + 1 + b.size ≤ 16 := hrow _ _ _ _ (by omega) e2
        have : c + 1 + b.size + r.size ≤ 16 := rowsM_size hrow k _ _ _ _ hb e3
        show c + (b.size + r.size + 1) ≤ 16
        omega
      · rw [bind_some_iff] at h
        obtain ⟨⟨b, z2⟩, e2, h⟩ := h
        rw [map_some_iff] at h
        obtain ⟨⟨r, z3⟩, e3, h⟩ := h
        cases h
        have hb : c + 1 + b.size ≤ 16 := hrow _ _ _ _ (by omega) e2
        have : c + 1 + b.size + r.size ≤ 16 := rowsM_size hrow k _ _ _ _ hb e3
        show c + (b.size + r.size + 1) ≤ 16
        omega
      · rw [bind_some_iff] at h
        obtain ⟨⟨n, z⟩, e1, h⟩ := h
        rw [bind_some_iff] at h
        obtain ⟨⟨b, z2⟩, e2, h⟩ := h
        rw [map_some_iff] at h
        obtain ⟨⟨r, z3⟩, e3, h⟩ := h
        cases h
        have hb : c + 1 + b.size ≤ 16 := hrow _ _ _ _ (by omega) e2
        have : c + 1 + b.size + r.size ≤ 16 := rowsM_size hrow k _ _ _ _ hb e3
        show c + (b.size + r.size + 1) ≤ 16
        omega
      · cases h
theorem rowM_size : ∀ (d c : Nat) (x y : List Int) (p : Prog), c ≤ 16 → rowM d c x = some (p, y) → c + p.size ≤ 16
  | 0, _, _, _, _, _, h => by cases h
  | d + 1, c, x, y, p, hc, h => by
    unfold rowM at h
    rw [bind_some_iff] at h
    obtain ⟨⟨k, z⟩, e1, h⟩ := h
    exact rowsM_size (fun c' x' y' b hc' hb => rowM_size d c' x' y' b hc' hb) k c z y p hc h
/-- what the mirror reads, the specification reads -/
theorem rowsM_sound {d : Nat} {row : Nat → Reader Prog} (hrow : ∀ c x y b, row c x = some (b, y) → b.depth + 1 ≤ d ∧ y.length ≤ x.length ∧ ∀ f, x.length ≤ f → ((readNat 0 16 x).bind fun k => readPieces f k.1 k.2) = some (b, y)) :
    ∀ (k c : Nat) (x y : List Int) (p : Prog), rowsM row k c x = some (p, y) → p.depth ≤ d ∧ y.length ≤ x.length ∧ ∀ f, x.length < f → readPieces f k x = some (p, y)
  | 0, c, x, y, p, h => by
    cases h
    refine ⟨Nat.zero_le _, Nat.le_refl _, fun f hf => ?_⟩
    match f, hf with
    | f + 1, _ => rfl
  | k + 1, c, x, y, p, h => by
    unfold rowsM at h
    split at h
    · cases h
    · split at h
      · rw [bind_some_iff] at h
        obtain ⟨⟨d, z⟩, e1, h⟩ := h
        rw [bind_some_iff] at h
        obtain ⟨⟨s, z2⟩, e2, h⟩ := h
        rw [map_some_iff] at h
        obtain ⟨⟨r, z3⟩, e3, h⟩ := h
        cases h
        obtain ⟨ed, _⟩ := readDeed_some e1
        obtain ⟨es, _, _⟩ := step_some e2
        obtain ⟨i1, i2, i3⟩ := rowsM_sound hrow k _ _ _ _ e3
        have hl : z2.length ≤ z.length := by
          have := congrArg List.length es
          simp only [List.length_append] at this
          omega
        have hz : z.length ≤ (flatDeed d ++ z).length := by simp
        rw [ed]
        refine ⟨i1, ?_, fun f hf => ?_⟩
        · show z3.length ≤ _
          simp only [List.length_cons]
          simp only at i2
          omega
        · match f, hf with
          | f + 1, hf =>
            unfold readPieces
            dsimp only
            rw [if_neg (Nat.succ_ne_zero k), ← ed]
            show ((readDeed _).bind fun d => (if hasNumber d.1 then readValue d.2 else some (0, d.2)).bind fun s => (readPieces f (k + 1 - 1) s.2).map fun r => (Prog.deed d.1 s.1 r.1, r.2)) = _
            rw [e1]
            show ((if hasNumber d then readValue z else some (0, z)).bind fun s => (readPieces f (k + 1 - 1) s.2).map fun r => (Prog.deed d s.1 r.1, r.2)) = _
            have e2' : (if hasNumber d then readValue z else some (0, z)) = some (s, z2) := e2
            rw [e2']
            show ((readPieces f k z2).map fun r => (Prog.deed d s r.1, r.2)) = _
            rw [i3 f (by simp only [List.length_cons] at hf; simp only; omega)]
            rfl
      · rw [bind_some_iff] at h
        obtain ⟨⟨n, z⟩, e1, h⟩ := h
        rw [bind_some_iff] at h
        obtain ⟨⟨b, z2⟩, e2, h⟩ := h
        rw [map_some_iff] at h
        obtain ⟨⟨r, z3⟩, e3, h⟩ := h
        cases h
        obtain ⟨rfl, n1, n2⟩ := readNat_some e1
        obtain ⟨j1, j2, j3⟩ := hrow _ _ _ _ e2
        obtain ⟨i1, i2, i3⟩ := rowsM_sound hrow k _ _ _ _ e3
        refine ⟨?_, ?_, fun f hf => ?_⟩
        · show Nat.max (b.depth + 1) r.depth ≤ d
          exact Nat.max_le.mpr ⟨j1, i1⟩
        · show z3.length ≤ _
          simp only [List.length_cons]
          simp only [List.length_cons] at i2 j2
          omega
        · match f, hf with
          | f + 1, hf =>
            simp only [List.length_cons] at hf
            simp only [List.length_cons] at i2 j2 i3 j3
            unfold readPieces
            dsimp only
            rw [if_neg (Nat.succ_ne_zero k)]
            show ((readNat 1 9 (↑n :: z)).bind fun q => ((readNat 0 16 q.2).bind fun k => readPieces f k.1 k.2).bind fun b => (readPieces f k b.2).map fun r => (Prog.times q.1 b.1 r.1, r.2)) = _
            rw [e1]
            show (((readNat 0 16 z).bind fun k => readPieces f k.1 k.2).bind fun b => (readPieces f k b.2).map fun r => (Prog.times n b.1 r.1, r.2)) = _
            rw [j3 f (by omega)]
            show ((readPieces f k z2).map fun r => (Prog.times n b r.1, r.2)) = _
            rw [i3 f (by omega)]
            rfl
      · rw [bind_some_iff] at h
        obtain ⟨⟨b, z2⟩, e2, h⟩ := h
        rw [map_some_iff] at h
        obtain ⟨⟨r, z3⟩, e3, h⟩ := h
        cases h
        obtain ⟨j1, j2, j3⟩ := hrow _ _ _ _ e2
        obtain ⟨i1, i2, i3⟩ := rowsM_sound hrow k _ _ _ _ e3
        refine ⟨?_, ?_, fun f hf => ?_⟩
        · show Nat.max (b.depth + 1) r.depth ≤ d
          exact Nat.max_le.mpr ⟨j1, i1⟩
        · show z3.length ≤ _
          simp only [List.length_cons]
          simp only [List.length_cons] at i2 j2
          omega
        · match f, hf with
          | f + 1, hf =>
            simp only [List.length_cons] at hf
            simp only [List.length_cons] at i2 j2 i3 j3
            unfold readPieces
            dsimp only
            rw [if_neg (Nat.succ_ne_zero k)]
            show (((readNat 0 16 _).bind fun k => readPieces f k.1 k.2).bind fun b => (readPieces f k b.2).map fun r => (Prog.toEnd b.1 r.1, r.2)) = _
            rw [j3 f (by omega)]
            show ((readPieces f k z2).map fun r => (Prog.toEnd b r.1, r.2)) = _
            rw [i3 f (by omega)]
            rfl
      · rw [bind_some_iff] at h
        obtain ⟨⟨n, z⟩, e1, h⟩ := h
        rw [bind_some_iff] at h
        obtain ⟨⟨b, z2⟩, e2, h⟩ := h
        rw [map_some_iff] at h
        obtain ⟨⟨r, z3⟩, e3, h⟩ := h
        cases h
        obtain ⟨fl, v⟩ := n
        obtain ⟨z', f1, f2⟩ := readPair_some e1
        obtain ⟨rfl, _, _⟩ := readNat_some f1
        obtain ⟨rfl, _⟩ := readValue_some f2
        obtain ⟨j1, j2, j3⟩ := hrow _ _ _ _ e2
        obtain ⟨i1, i2, i3⟩ := rowsM_sound hrow k _ _ _ _ e3
        refine ⟨?_, ?_, fun f hf => ?_⟩
        · show Nat.max (b.depth + 1) r.depth ≤ d
          exact Nat.max_le.mpr ⟨j1, i1⟩
        · show z3.length ≤ _
          simp only [List.length_cons]
          simp only [List.length_cons] at i2 j2
          omega
        · match f, hf with
          | f + 1, hf =>
            simp only [List.length_cons] at hf
            simp only [List.length_cons] at i2 j2 i3 j3
            unfold readPieces
            dsimp only
            rw [if_neg (Nat.succ_ne_zero k)]
            show ((readPair readField readValue _).bind fun u => ((readNat 0 16 u.2).bind fun k => readPieces f k.1 k.2).bind fun b => (readPieces f k b.2).map fun r => (Prog.when u.1.1 u.1.2 b.1 r.1, r.2)) = _
            rw [e1]
            show (((readNat 0 16 z).bind fun k => readPieces f k.1 k.2).bind fun b => (readPieces f k b.2).map fun r => (Prog.when fl v b.1 r.1, r.2)) = _
            rw [j3 f (by omega)]
            show ((readPieces f k z2).map fun r => (Prog.when fl v b r.1, r.2)) = _
            rw [i3 f (by omega)]
            rfl
      · cases h
theorem rowM_sound : ∀ (d c : Nat) (x y : List Int) (p : Prog), rowM d c x = some (p, y) → p.depth + 1 ≤ d ∧ y.length ≤ x.length ∧ ∀ f, x.length ≤ f → ((readNat 0 16 x).bind fun k => readPieces f k.1 k.2) = some (p, y)
  | 0, _, _, _, _, h => by cases h
  | d + 1, c, x, y, p, h => by
    unfold rowM at h
    rw [bind_some_iff] at h
    obtain ⟨⟨k, z⟩, e1, h⟩ := h
    obtain ⟨rfl, _, _⟩ := readNat_some e1
    obtain ⟨i1, i2, i3⟩ := rowsM_sound (fun c' x' y' b hb => rowM_sound d c' x' y' b hb) k c z y p h
    refine ⟨by omega, by simp only [List.length_cons]; omega, fun f hf => ?_⟩
    rw [e1]
    show readPieces f k z = _
    exact i3 f (by simp only [List.length_cons] at hf; omega)
/-- what the specification reads within the limits, the mirror reads -/
theorem rowsM_complete : ∀ (f d k c : Nat) (x y : List Int) (p : Prog), readPieces f k x = some (p, y) → c + p.size ≤ 16 → p.depth ≤ d → rowsM (rowM d) k c x = some (p, y)
  | 0, _, _, _, _, _, _, h, _, _ => by simp [readPieces] at h
  | f + 1, d, k, c, x, y, p, h, hs, hd => by
    have row_c : ∀ {z w : List Int} {b : Prog} {c' : Nat}, ((readNat 0 PIECES z).bind fun k => readPieces f k.1 k.2) = some (b, w) → c' + b.size ≤ 16 → b.depth + 1 ≤ d → rowM d c' z = some (b, w) := by
      intro z w b c' hb h1 h2
      rw [bind_some_iff] at hb
      obtain ⟨⟨k', z'⟩, e1, e2⟩ := hb
      match d, h2 with
      | d' + 1, h2 =>
        unfold rowM
        rw [show readNat 0 16 z = some (k', z') from e1]
        exact rowsM_complete f d' k' c' z' w b e2 h1 (by omega)
    unfold readPieces at h
    dsimp only at h
    split at h
    · rename_i hn
      subst hn
      cases h
      rfl
    · rename_i hn
      obtain ⟨k, rfl⟩ : ∃ k', k = k' + 1 := ⟨k - 1, by omega⟩
      have hk : k + 1 - 1 = k := rfl
      split at h
      · rw [bind_some_iff] at h
        obtain ⟨⟨e, z⟩, e1, h⟩ := h
        rw [bind_some_iff] at h
        obtain ⟨⟨s, z2⟩, e2, h⟩ := h
        rw [map_some_iff] at h
        obtain ⟨⟨r, z3⟩, e3, h⟩ := h
        cases h
        have hs' : c + (r.size + 1) ≤ 16 := hs
        have ih := rowsM_complete f d k (c + 1) z2 z3 r e3 (by omega) hd
        unfold rowsM
        rw [if_neg (by omega)]
        show ((readDeed _).bind fun d' => (if hasNumber d'.1 then readValue d'.2 else some (0, d'.2)).bind fun s => (rowsM (rowM d) k (c + 1) s.2).map fun r => (Prog.deed d'.1 s.1 r.1, r.2)) = _
        rw [e1]
        show ((if hasNumber e then readValue z else some (0, z)).bind fun s => (rowsM (rowM d) k (c + 1) s.2).map fun r => (Prog.deed e s.1 r.1, r.2)) = _
        have e2' : (if hasNumber e then readValue z else some (0, z)) = some (s, z2) := e2
        rw [e2']
        show ((rowsM (rowM d) k (c + 1) z2).map fun r => (Prog.deed e s r.1, r.2)) = _
        rw [ih]
        rfl
      · rw [bind_some_iff] at h
        obtain ⟨⟨n, z⟩, e1, h⟩ := h
        rw [bind_some_iff] at h
        obtain ⟨⟨b, z2⟩, e2, h⟩ := h
        rw [map_some_iff] at h
        obtain ⟨⟨r, z3⟩, e3, h⟩ := h
        cases h
        have hs' : c + (b.size + r.size + 1) ≤ 16 := hs
        obtain ⟨hd1, hd2⟩ := Nat.max_le.mp (show Nat.max (b.depth + 1) r.depth ≤ d from hd)
        have jb := row_c (c' := c + 1) e2 (by omega) hd1
        have ih := rowsM_complete f d k (c + 1 + b.size) z2 z3 r e3 (by omega) hd2
        unfold rowsM
        rw [if_neg (by omega)]
        show ((readNat 1 9 _).bind fun n => (rowM d (c + 1) n.2).bind fun b => (rowsM (rowM d) k (c + 1 + b.1.size) b.2).map fun r => (Prog.times n.1 b.1 r.1, r.2)) = _
        rw [show readNat 1 9 _ = some (n, z) from e1]
        show ((rowM d (c + 1) z).bind fun b => (rowsM (rowM d) k (c + 1 + b.1.size) b.2).map fun r => (Prog.times n b.1 r.1, r.2)) = _
        rw [jb]
        show ((rowsM (rowM d) k (c + 1 + b.size) z2).map fun r => (Prog.times n b r.1, r.2)) = _
        rw [ih]
        rfl
      · rw [bind_some_iff] at h
        obtain ⟨⟨b, z2⟩, e2, h⟩ := h
        rw [map_some_iff] at h
        obtain ⟨⟨r, z3⟩, e3, h⟩ := h
        cases h
        have hs' : c + (b.size + r.size + 1) ≤ 16 := hs
        obtain ⟨hd1, hd2⟩ := Nat.max_le.mp (show Nat.max (b.depth + 1) r.depth ≤ d from hd)
        have jb := row_c (c' := c + 1) e2 (by omega) hd1
        have ih := rowsM_complete f d k (c + 1 + b.size) z2 z3 r e3 (by omega) hd2
        unfold rowsM
        rw [if_neg (by omega)]
        show ((rowM d (c + 1) _).bind fun b => (rowsM (rowM d) k (c + 1 + b.1.size) b.2).map fun r => (Prog.toEnd b.1 r.1, r.2)) = _
        rw [jb]
        show ((rowsM (rowM d) k (c + 1 + b.size) z2).map fun r => (Prog.toEnd b r.1, r.2)) = _
        rw [ih]
        rfl
      · rw [bind_some_iff] at h
        obtain ⟨⟨n, z⟩, e1, h⟩ := h
        rw [bind_some_iff] at h
        obtain ⟨⟨b, z2⟩, e2, h⟩ := h
        rw [map_some_iff] at h
        obtain ⟨⟨r, z3⟩, e3, h⟩ := h
        cases h
        have hs' : c + (b.size + r.size + 1) ≤ 16 := hs
        obtain ⟨hd1, hd2⟩ := Nat.max_le.mp (show Nat.max (b.depth + 1) r.depth ≤ d from hd)
        have jb := row_c (c' := c + 1) e2 (by omega) hd1
        have ih := rowsM_complete f d k (c + 1 + b.size) z2 z3 r e3 (by omega) hd2
        unfold rowsM
        rw [if_neg (by omega)]
        show ((readPair readField readValue _).bind fun u => (rowM d (c + 1) u.2).bind fun b => (rowsM (rowM d) k (c + 1 + b.1.size) b.2).map fun r => (Prog.when u.1.1 u.1.2 b.1 r.1, r.2)) = _
        rw [e1]
        show ((rowM d (c + 1) z).bind fun b => (rowsM (rowM d) k (c + 1 + b.1.size) b.2).map fun r => (Prog.when n.1 n.2 b.1 r.1, r.2)) = _
        rw [jb]
        show ((rowsM (rowM d) k (c + 1 + b.size) z2).map fun r => (Prog.when n.1 n.2 b r.1, r.2)) = _
        rw [ih]
        rfl
      · cases h
/-- the mirror is the specification's reading -/
theorem readProg_eq (x : List Int) : readProg x = rowM 4 0 x := by
  cases e : rowM 4 0 x with
  | some u =>
    obtain ⟨p, y⟩ := u
    obtain ⟨i1, i2, i3⟩ := rowM_sound 4 0 x y p e
    have hs := rowM_size 4 0 x y p (by omega) e
    have q := i3 (x.length + 1) (by omega)
    rw [bind_some_iff] at q
    obtain ⟨⟨k, z⟩, e1, e2⟩ := q
    unfold readProg
    rw [show readNat 0 PIECES x = some (k, z) from e1]
    show ((readPieces (x.length + 1) k z).bind fun u => if okProg u.1 then some u else none) = _
    rw [e2]
    show (if okProg p then some (p, y) else none) = _
    obtain ⟨_, _, ok⟩ := readPieces_some _ _ _ _ _ e2
    rw [if_pos]
    unfold okProg PIECES DEPTH
    rw [ok, decide_eq_true (by omega), decide_eq_true (by omega)]
    rfl
  | none =>
    cases q : readProg x with
    | none => rfl
    | some u =>
      exfalso
      unfold readProg at q
      rw [bind_some_iff] at q
      obtain ⟨⟨k, z⟩, e1, q⟩ := q
      rw [bind_some_iff] at q
      obtain ⟨⟨p, y⟩, e2, q⟩ := q
      split at q
      · rename_i ok
        unfold okProg PIECES DEPTH at ok
        rw [Bool.and_eq_true, Bool.and_eq_true] at ok
        have h1 := of_decide_eq_true ok.2.1
        have h2 := of_decide_eq_true ok.2.2
        have := rowsM_complete _ 3 k 0 z y p e2 (by simp only at h1; omega) h2
        unfold rowM at e
        rw [show readNat 0 16 x = some (k, z) from e1] at e
        have e' : rowsM (rowM 3) k 0 z = none := e
        rw [this] at e'
        cases e'
      · cases q
/-- what was read is what the program says in numbers -/
theorem readProg_flat {x y : List Int} {p : Prog} (h : readProg x = some (p, y)) : x = flatProg p ++ y ∧ okProg p = true := by
  unfold readProg at h
  rw [bind_some_iff] at h
  obtain ⟨⟨k, z⟩, e1, h⟩ := h
  rw [bind_some_iff] at h
  obtain ⟨⟨q, y'⟩, e2, h⟩ := h
  split at h
  · rename_i ok
    cases h
    obtain ⟨rfl, _, _⟩ := readNat_some e1
    obtain ⟨rfl, rfl, _⟩ := readPieces_some _ _ _ _ _ e2
    exact ⟨rfl, ok⟩
  · cases h
theorem whole_flat {x : List Int} {p : Prog} (h : whole readProg x = some p) : x = flatProg p ∧ okProg p = true := by
  unfold whole at h
  split at h
  · rename_i u e
    cases h
    have := readProg_flat e
    rw [List.append_nil] at this
    exact this
  · cases h

/-! ### one number within bounds; a deed as the program reads it -/
def withinM (lo hi : Int) : List Int → Option (Int × List Int)
  | [] => none
  | n :: y => if lo ≤ n ∧ n ≤ hi then some (n, y) else none
theorem withinM_some {lo hi : Int} {x y : List Int} {n : Int} (h : withinM lo hi x = some (n, y)) : x = n :: y ∧ lo ≤ n ∧ n ≤ hi := by
  unfold withinM at h
  split at h
  · cases h
  · split at h
    · rename_i z
      cases h
      exact ⟨rfl, z.1, z.2⟩
    · cases h
theorem nat_none {lo hi : Nat} {x : List Int} (h : withinM lo hi x = none) : readNat lo hi x = none := by
  cases x with
  | nil => rfl
  | cons n y =>
    have h' : (if (lo : Int) ≤ n ∧ n ≤ hi then some (n, y) else none) = none := h
    show (if (lo : Int) ≤ n ∧ n ≤ hi then some (n.toNat, y) else none) = none
    split at h'
    · cases h'
    · rename_i z
      rw [if_neg z]
theorem nat_some {lo hi : Nat} {x y : List Int} {n : Int} (h : withinM lo hi x = some (n, y)) : readNat lo hi x = some (n.toNat, y) ∧ ((n.toNat : Nat) : Int) = n ∧ lo ≤ n.toNat ∧ n.toNat ≤ hi := by
  obtain ⟨rfl, h1, h2⟩ := withinM_some h
  refine ⟨?_, by omega, by omega, by omega⟩
  unfold readNat int
  dsimp only
  rw [if_pos ⟨h1, h2⟩]
theorem value_eq (x : List Int) : readValue x = withinM (-999) 999 x := by
  cases x with
  | nil => rfl
  | cons n y =>
    show (if okValue n = true then some (n, y) else none) = (if (-999 : Int) ≤ n ∧ n ≤ 999 then some (n, y) else none)
    unfold okValue VALUE
    by_cases c : (-999 : Int) ≤ n ∧ n ≤ 999
    · rw [if_pos c, if_pos]
      rw [Bool.and_eq_true]
      exact ⟨decide_eq_true (by omega), decide_eq_true (by omega)⟩
    · rw [if_neg c, if_neg]
      intro z
      rw [Bool.and_eq_true] at z
      have h1 := of_decide_eq_true z.1
      have h2 := of_decide_eq_true z.2
      exact c ⟨by omega, by omega⟩
def kindOf : Deed → Int
  | .down => 0
  | .up => 1
  | .top => 2
  | .write _ _ => 3
  | .add _ _ => 4
  | .copy _ => 5
  | .paste _ => 6
  | .delete => 7
  | .double => 8
  | .find _ _ => 9
def fieldOf : Deed → Nat
  | .write f _ => f
  | .add f _ => f
  | .copy f => f
  | .paste f => f
  | .find f _ => f
  | _ => 0
def hasField : Deed → Bool
  | .write _ _ => true
  | .add _ _ => true
  | .copy _ => true
  | .paste _ => true
  | .find _ _ => true
  | _ => false
def deedOf (k : Int) (f : Nat) (v : Int) : Deed :=
  if k = 0 then .down else if k = 1 then .up else if k = 2 then .top else if k = 3 then .write f v else if k = 4 then .add f v else if k = 5 then .copy f else if k = 6 then .paste f else if k = 7 then .delete else if k = 8 then .double else .find f v
theorem kinds {k : Int} (h1 : 0 ≤ k) (h2 : k ≤ 9) : k = 0 ∨ k = 1 ∨ k = 2 ∨ k = 3 ∨ k = 4 ∨ k = 5 ∨ k = 6 ∨ k = 7 ∨ k = 8 ∨ k = 9 := by omega
theorem kind_deedOf {k : Int} (h1 : 0 ≤ k) (h2 : k ≤ 9) (f : Nat) (v : Int) : kindOf (deedOf k f v) = k := by
  rcases kinds h1 h2 with rfl | rfl | rfl | rfl | rfl | rfl | rfl | rfl | rfl | rfl <;> rfl
theorem field_deedOf {k : Int} (h1 : 0 ≤ k) (h2 : k ≤ 9) {f : Nat} (v : Int) (h : k ∈ [3, 4, 5, 6, 9] ∨ f = 0) : fieldOf (deedOf k f v) = f := by
  rcases kinds h1 h2 with rfl | rfl | rfl | rfl | rfl | rfl | rfl | rfl | rfl | rfl <;> first | rfl | (rcases h with h | h; exact absurd h (by decide); exact h.symm)
theorem number_deedOf {k : Int} (h1 : 0 ≤ k) (h2 : k ≤ 9) (f : Nat) {v : Int} (h : k ∈ [3, 4, 9] ∨ v = 0) : numberOf (deedOf k f v) = v := by
  rcases kinds h1 h2 with rfl | rfl | rfl | rfl | rfl | rfl | rfl | rfl | rfl | rfl <;> first | rfl | (rcases h with h | h; exact absurd h (by decide); exact h.symm)
theorem hasNumber_kind (d : Deed) : hasNumber d = decide (kindOf d ∈ ([3, 4, 9] : List Int)) := by cases d <;> rfl
theorem hasField_kind (d : Deed) : hasField d = decide (kindOf d ∈ ([3, 4, 5, 6, 9] : List Int)) := by cases d <;> rfl
theorem kindOf_le (d : Deed) : 0 ≤ kindOf d ∧ kindOf d ≤ 9 := by cases d <;> exact ⟨by simp only [kindOf]; omega, by simp only [kindOf]; omega⟩
theorem deedOf_kind (d : Deed) : deedOf (kindOf d) (fieldOf d) (numberOf d) = d := by cases d <;> rfl
/-- a deed as the program reads it: its kind, its field, its value -/
def deedM (x : List Int) : Option (Deed × List Int) := (withinM 0 9 x).bind fun k =>
  (if decide (k.1 ∈ ([3, 4, 5, 6, 9] : List Int)) then readField k.2 else some (0, k.2)).bind fun f =>
  (if decide (k.1 ∈ ([3, 4, 9] : List Int)) then readValue f.2 else some (0, f.2)).map fun v => (deedOf k.1 f.1 v.1, v.2)
theorem deed_eq (x : List Int) : readDeed x = deedM x := by
  cases x with
  | nil => rfl
  | cons k y =>
    by_cases c : 0 ≤ k ∧ k ≤ 9
    · rcases kinds c.1 c.2 with rfl | rfl | rfl | rfl | rfl | rfl | rfl | rfl | rfl | rfl
      all_goals first
        | rfl
        | (show (readPair readField readValue y).map _ = ((readField y).bind fun f => (readValue f.2).map fun v => _)
           unfold readPair
           cases readField y with
           | none => rfl
           | some u =>
             obtain ⟨f, z⟩ := u
             show ((readValue z).map _).map _ = ((readValue z).map _)
             cases readValue z <;> rfl)
        | (show (readField y).map _ = ((readField y).bind fun f => _)
           cases readField y <;> rfl)
    · have e1 : withinM 0 9 (k :: y) = none := if_neg c
      unfold deedM
      rw [e1]
      unfold readDeed
      split
      all_goals first
        | rfl
        | (rename_i e; injection e with e _; subst e; exact absurd ⟨by decide, by decide⟩ c)
end My
/-! A row read piece by piece. -/
namespace My
open VamacBase
inductive Head where
  | deed (d : Deed) (s : Int)
  | times (n : Nat)
  | toEnd
  | when (f : Nat) (v : Int)
def Head.isDeed : Head → Bool
  | .deed _ _ => true
  | _ => false
/-- a head with the row within it, as a program of one piece -/
def Head.one : Head → Prog → Prog
  | .deed d s, _ => .deed d s .done
  | .times n, b => .times n b .done
  | .toEnd, b => .toEnd b .done
  | .when f v, b => .when f v b .done
def steppedM : Reader (Deed × Int) := fun x => (readDeed x).bind fun d => (if hasNumber d.1 then readValue d.2 else some (0, d.2)).map fun s => ((d.1, s.1), s.2)
def headM : Reader Head := fun x => (withinM 0 3 x).bind fun k =>
  if k.1 = 0 then (steppedM k.2).map fun u => (.deed u.1.1 u.1.2, u.2)
  else if k.1 = 1 then (readNat 1 9 k.2).map fun u => (.times u.1, u.2)
  else if k.1 = 2 then some (.toEnd, k.2)
  else (readField k.2).bind fun f => (readValue f.2).map fun v => (.when f.1 v.1, v.2)
def pieceM (row : Nat → Reader Prog) (c : Nat) : Reader Prog := fun x => if c = 16 then none else (headM x).bind fun h =>
  if h.1.isDeed then some (h.1.one .done, h.2) else (row (c + 1) h.2).map fun b => (h.1.one b.1, b.2)
theorem rowsM_step (row : Nat → Reader Prog) (k c : Nat) (x : List Int) :
    rowsM row (k + 1) c x = (pieceM row c x).bind fun u => (rowsM row k (c + u.1.size) u.2).map fun r => (u.1.andThen r.1, r.2) := by
  unfold pieceM
  by_cases hc : c = 16
  · unfold rowsM
    rw [if_pos hc, if_pos hc]
    rfl
  · rw [if_neg hc]
    show (if c = 16 then none else _) = _
    rw [if_neg hc]
    cases x with
    | nil => rfl
    | cons h y =>
      by_cases q : 0 ≤ h ∧ h ≤ 3
      · have e1 : withinM 0 3 (h :: y) = some (h, y) := if_pos q
        unfold headM
        rw [e1]
        have : h = 0 ∨ h = 1 ∨ h = 2 ∨ h = 3 := by omega
        rcases this with rfl | rfl | rfl | rfl
        · show ((readDeed y).bind fun d => (if hasNumber d.1 then readValue d.2 else some (0, d.2)).bind fun s => (rowsM row k (c + 1) s.2).map fun r => (Prog.deed d.1 s.1 r.1, r.2)) = Option.bind (Option.bind ((steppedM y).map fun u => (Head.deed u.1.1 u.1.2, u.2)) _) _
          unfold steppedM
          cases readDeed y with
          | none => rfl
          | some d =>
            show ((if hasNumber d.1 then readValue d.2 else some (0, d.2)).bind fun s => (rowsM row k (c + 1) s.2).map fun r => (Prog.deed d.1 s.1 r.1, r.2)) = Option.bind (Option.bind (Option.map _ (Option.map _ (if hasNumber d.1 then readValue d.2 else some (0, d.2)))) _) _
            cases (if hasNumber d.1 then readValue d.2 else some (0, d.2)) with
            | none => rfl
            | some s => rfl
        · show ((readNat 1 9 y).bind fun n => (row (c + 1) n.2).bind fun b => (rowsM row k (c + 1 + b.1.size) b.2).map fun r => (Prog.times n.1 b.1 r.1, r.2)) = Option.bind (Option.bind ((readNat 1 9 y).map _) _) _
          cases readNat 1 9 y with
          | none => rfl
          | some n =>
            show ((row (c + 1) n.2).bind fun b => (rowsM row k (c + 1 + b.1.size) b.2).map fun r => (Prog.times n.1 b.1 r.1, r.2)) = Option.bind (Option.map _ (row (c + 1) n.2)) _
            cases row (c + 1) n.2 with
            | none => rfl
            | some b =>
              show (rowsM row k (c + 1 + b.1.size) b.2).map _ = (rowsM row k (c + (b.1.size + 0 + 1)) b.2).map _
              rw [show c + (b.1.size + 0 + 1) = c + 1 + b.1.size by omega]
              rfl
        · show ((row (c + 1) y).bind fun b => (rowsM row k (c + 1 + b.1.size) b.2).map fun r => (Prog.toEnd b.1 r.1, r.2)) = Option.bind (Option.map _ (row (c + 1) y)) _
          cases row (c + 1) y with
          | none => rfl
          | some b =>
            show (rowsM row k (c + 1 + b.1.size) b.2).map _ = (rowsM row k (c + (b.1.size + 0 + 1)) b.2).map _
            rw [show c + (b.1.size + 0 + 1) = c + 1 + b.1.size by omega]
            rfl
        · show ((readPair readField readValue y).bind fun u => (row (c + 1) u.2).bind fun b => (rowsM row k (c + 1 + b.1.size) b.2).map fun r => (Prog.when u.1.1 u.1.2 b.1 r.1, r.2)) = Option.bind (Option.bind ((readField y).bind fun f => (readValue f.2).map fun v => (Head.when f.1 v.1, v.2)) _) _
          unfold readPair
          cases readField y with
          | none => rfl
          | some f =>
            show (Option.bind ((readValue f.2).map fun v => ((f.1, v.1), v.2)) _) = Option.bind (Option.bind ((readValue f.2).map fun v => (Head.when f.1 v.1, v.2)) _) _
            cases readValue f.2 with
            | none => rfl
            | some v =>
              show ((row (c + 1) v.2).bind fun b => (rowsM row k (c + 1 + b.1.size) b.2).map fun r => (Prog.when f.1 v.1 b.1 r.1, r.2)) = Option.bind (Option.map _ (row (c + 1) v.2)) _
              cases row (c + 1) v.2 with
              | none => rfl
              | some b =>
                show (rowsM row k (c + 1 + b.1.size) b.2).map _ = (rowsM row k (c + (b.1.size + 0 + 1)) b.2).map _
                rw [show c + (b.1.size + 0 + 1) = c + 1 + b.1.size by omega]
                rfl
      · have e1 : withinM 0 3 (h :: y) = none := if_neg q
        unfold headM
        rw [e1]
        show _ = none
        split
        all_goals first
          | rfl
          | (rename_i e; injection e with e _; subst e; exact absurd ⟨by decide, by decide⟩ q)
theorem andThen_done : ∀ p : Prog, p.andThen .done = p
  | .done => rfl
  | .deed d s r => congrArg (Prog.deed d s) (andThen_done r)
  | .times n b r => congrArg (Prog.times n b) (andThen_done r)
  | .toEnd b r => congrArg (Prog.toEnd b) (andThen_done r)
  | .when f v b r => congrArg (Prog.when f v b) (andThen_done r)
theorem andThen_assoc : ∀ p q r : Prog, (p.andThen q).andThen r = p.andThen (q.andThen r)
  | .done, _, _ => rfl
  | .deed d s p, q, r => congrArg (Prog.deed d s) (andThen_assoc p q r)
  | .times n b p, q, r => congrArg (Prog.times n b) (andThen_assoc p q r)
  | .toEnd b p, q, r => congrArg (Prog.toEnd b) (andThen_assoc p q r)
  | .when f v b p, q, r => congrArg (Prog.when f v b) (andThen_assoc p q r)
theorem size_andThen : ∀ p q : Prog, (p.andThen q).size = p.size + q.size
  | .done, q => (Nat.zero_add _).symm
  | .deed d s p, q => by
    have := size_andThen p q
    simp only [Prog.andThen, Prog.size] at this ⊢
    omega
  | .times n b p, q => by
    have := size_andThen p q
    simp only [Prog.andThen, Prog.size] at this ⊢
    omega
  | .toEnd b p, q => by
    have := size_andThen p q
    simp only [Prog.andThen, Prog.size] at this ⊢
    omega
  | .when f v b p, q => by
    have := size_andThen p q
    simp only [Prog.andThen, Prog.size] at this ⊢
    omega
/-- a turn of the loop over a row's pieces: q are the pieces read so far -/
theorem rowsM_turn {row : Nat → Reader Prog} {k c : Nat} {x : List Int} {o : Option (Prog × List Int)} {q : Prog} (h : o = (rowsM row (k + 1) (c + q.size) x).map fun r => (q.andThen r.1, r.2)) :
    (pieceM row (c + q.size) x = none → o = none) ∧ ∀ p y, pieceM row (c + q.size) x = some (p, y) → o = (rowsM row k (c + (q.andThen p).size) y).map fun r => ((q.andThen p).andThen r.1, r.2) := by
  rw [rowsM_step] at h
  refine ⟨fun e => by rw [h, e]; rfl, fun p y e => ?_⟩
  rw [h, e, size_andThen, ← Nat.add_assoc]
  show Option.map _ (Option.map _ (rowsM row k (c + q.size + p.size) y)) = _
  rw [Option.map_map]
  congr 1
  funext r
  show (q.andThen (p.andThen r.1), r.2) = _
  rw [andThen_assoc]
end My
/-! Programs as lists of pieces: a row's pieces, all pieces by their numbers; what the specification tells of a program, told over these. -/
namespace My
open VamacBase Vamacf
abbrev Pc := Head × Prog
def rowL : Prog → List Pc
  | .done => []
  | .deed d s r => (.deed d s, .done) :: rowL r
  | .times n b r => (.times n, b) :: rowL r
  | .toEnd b r => (.toEnd, b) :: rowL r
  | .when f v b r => (.when f v, b) :: rowL r
def pre : Prog → List Pc
  | .done => []
  | .deed d s r => (.deed d s, .done) :: pre r
  | .times n b r => (.times n, b) :: (pre b ++ pre r)
  | .toEnd b r => (.toEnd, b) :: (pre b ++ pre r)
  | .when f v b r => (.when f v, b) :: (pre b ++ pre r)
theorem rowL_len : ∀ p : Prog, (rowL p).length = p.row
  | .done => rfl
  | .deed d s r => congrArg (· + 1) (rowL_len r)
  | .times n b r => congrArg (· + 1) (rowL_len r)
  | .toEnd b r => congrArg (· + 1) (rowL_len r)
  | .when f v b r => congrArg (· + 1) (rowL_len r)
theorem pre_len : ∀ p : Prog, (pre p).length = p.size
  | .done => rfl
  | .deed d s r => congrArg (· + 1) (pre_len r)
  | .times n b r => by simp only [pre, List.length_cons, List.length_append, pre_len b, pre_len r, Prog.size]
  | .toEnd b r => by simp only [pre, List.length_cons, List.length_append, pre_len b, pre_len r, Prog.size]
  | .when f v b r => by simp only [pre, List.length_cons, List.length_append, pre_len b, pre_len r, Prog.size]
/-- the rows within the pieces of a program are less deep, and their pieces keep to the limits -/
theorem rowL_depth : ∀ (p : Prog) (x : Pc), x ∈ rowL p → x.1.isDeed = false → x.2.depth + 1 ≤ p.depth
  | .done, x, h, _ => by cases h
  | .deed d s r, x, h, z => by
    rcases List.mem_cons.mp h with rfl | h
    · cases z
    · exact rowL_depth r x h z
  | .times n b r, x, h, z => by
    rcases List.mem_cons.mp h with rfl | h
    · exact Nat.le_max_left _ _
    · exact Nat.le_trans (rowL_depth r x h z) (Nat.le_max_right _ _)
  | .toEnd b r, x, h, z => by
    rcases List.mem_cons.mp h with rfl | h
    · exact Nat.le_max_left _ _
    · exact Nat.le_trans (rowL_depth r x h z) (Nat.le_max_right _ _)
  | .when f v b r, x, h, z => by
    rcases List.mem_cons.mp h with rfl | h
    · exact Nat.le_max_left _ _
    · exact Nat.le_trans (rowL_depth r x h z) (Nat.le_max_right _ _)
theorem pre_depth : ∀ (p : Prog) (x : Pc), x ∈ pre p → x.1.isDeed = false → x.2.depth + 1 ≤ p.depth
  | .done, x, h, _ => by cases h
  | .deed d s r, x, h, z => by
    rcases List.mem_cons.mp h with rfl | h
    · cases z
    · exact pre_depth r x h z
  | .times n b r, x, h, z => by
    rcases List.mem_cons.mp h with rfl | h
    · exact Nat.le_max_left _ _
    · rcases List.mem_append.mp h with h | h
      · exact Nat.le_trans (pre_depth b x h z) (Nat.le_trans (Nat.le_succ _) (Nat.le_max_left _ _))
      · exact Nat.le_trans (pre_depth r x h z) (Nat.le_max_right _ _)
  | .toEnd b r, x, h, z => by
    rcases List.mem_cons.mp h with rfl | h
    · exact Nat.le_max_left _ _
    · rcases List.mem_append.mp h with h | h
      · exact Nat.le_trans (pre_depth b x h z) (Nat.le_trans (Nat.le_succ _) (Nat.le_max_left _ _))
      · exact Nat.le_trans (pre_depth r x h z) (Nat.le_max_right _ _)
  | .when f v b r, x, h, z => by
    rcases List.mem_cons.mp h with rfl | h
    · exact Nat.le_max_left _ _
    · rcases List.mem_append.mp h with h | h
      · exact Nat.le_trans (pre_depth b x h z) (Nat.le_trans (Nat.le_succ _) (Nat.le_max_left _ _))
      · exact Nat.le_trans (pre_depth r x h z) (Nat.le_max_right _ _)
/-! ### depth -/
def depthOne (x : Pc) : Nat := if x.1.isDeed then 0 else x.2.depth + 1
theorem depth_rowL : ∀ p : Prog, p.depth = (rowL p).foldr (fun x a => Nat.max (depthOne x) a) 0
  | .done => rfl
  | .deed d s r => by
    show r.depth = Nat.max 0 _
    rw [← depth_rowL r]
    exact (Nat.zero_max _).symm
  | .times n b r => congrArg (Nat.max (b.depth + 1)) (depth_rowL r)
  | .toEnd b r => congrArg (Nat.max (b.depth + 1)) (depth_rowL r)
  | .when f v b r => congrArg (Nat.max (b.depth + 1)) (depth_rowL r)
theorem max_snoc (f : Pc → Nat) : ∀ (l : List Pc) (x : Pc), (l ++ [x]).foldr (fun x a => Nat.max (f x) a) 0 = Nat.max (l.foldr (fun x a => Nat.max (f x) a) 0) (f x)
  | [], x => by show Nat.max (f x) 0 = Nat.max 0 (f x); exact Nat.max_comm _ _
  | y :: l, x => by
    show Nat.max (f y) ((l ++ [x]).foldr _ 0) = Nat.max (Nat.max (f y) _) (f x)
    rw [max_snoc f l x]
    exact (Nat.max_assoc _ _ _).symm
/-! ### nearer -/
def moreOne (x : Pc) : Option Int := match x.1 with
  | .deed d _ => moreOf d
  | .times n => (more x.2).map fun y => (n : Int) * y
  | .toEnd => some 0
  | .when _ _ => (more x.2).map fun y => if y < 0 then 0 else y
def moreL (l : List Pc) : Option Int := l.foldr (fun x a => addMore (moreOne x) a) (some 0)
theorem more_rowL : ∀ p : Prog, more p = moreL (rowL p)
  | .done => rfl
  | .deed d s r => congrArg (addMore (moreOf d)) (more_rowL r)
  | .times n b r => congrArg (addMore _) (more_rowL r)
  | .toEnd b r => congrArg (addMore _) (more_rowL r)
  | .when f v b r => congrArg (addMore _) (more_rowL r)
theorem addMore_none : ∀ a : Option Int, addMore a none = none
  | none => rfl
  | some _ => rfl
theorem addMore_zero : ∀ a : Option Int, addMore (some 0) a = a
  | none => rfl
  | some x => by show some (0 + x) = some x; rw [Int.zero_add]
theorem addMore_zero' : ∀ a : Option Int, addMore a (some 0) = a
  | none => rfl
  | some x => by show some (x + 0) = some x; rw [Int.add_zero]
theorem addMore_assoc : ∀ a b c : Option Int, addMore (addMore a b) c = addMore a (addMore b c)
  | none, _, _ => rfl
  | some _, none, _ => rfl
  | some _, some _, none => rfl
  | some x, some y, some z => by show some (x + y + z) = some (x + (y + z)); rw [Int.add_assoc]
theorem moreL_snoc : ∀ (l : List Pc) (x : Pc), moreL (l ++ [x]) = addMore (moreL l) (moreOne x)
  | [], x => by show addMore (moreOne x) (some 0) = addMore (some 0) (moreOne x); rw [addMore_zero, addMore_zero']
  | y :: l, x => by
    show addMore (moreOne y) (moreL (l ++ [x])) = addMore (addMore (moreOne y) (moreL l)) (moreOne x)
    rw [moreL_snoc l x, addMore_assoc]
theorem moreL_none : ∀ (l : List Pc) (x : Pc), x ∈ l → moreOne x = none → moreL l = none
  | [], x, h, _ => by cases h
  | y :: l, x, h, e => by
    rcases List.mem_cons.mp h with rfl | h
    · show addMore (moreOne x) _ = none
      rw [e]
      rfl
    · show addMore _ (moreL l) = none
      rw [moreL_none l x h e, addMore_none]
/-! ### the most deeds -/
def mostOne (x : Pc) : Nat := match x.1 with
  | .deed _ _ => 1
  | .times n => n * most x.2
  | .toEnd => 8 * most x.2
  | .when _ _ => most x.2
theorem most_rowL : ∀ p : Prog, most p = ((rowL p).map mostOne).sum
  | .done => rfl
  | .deed d s r => by
    show most r + 1 = ((1 :: (rowL r).map mostOne)).sum
    rw [List.sum_cons, most_rowL r, Nat.add_comm]
  | .times n b r => congrArg (n * most b + ·) (most_rowL r)
  | .toEnd b r => congrArg (8 * most b + ·) (most_rowL r)
  | .when f v b r => congrArg (most b + ·) (most_rowL r)
/-! ### the first loop that doesn't come nearer, by the list of all pieces -/
def isLoose (x : Pc) : Bool := match x.1 with
  | .toEnd => !nearer x.2
  | _ => false
def firstAt (f : Pc → Bool) : Nat → List Pc → Option Nat
  | _, [] => none
  | n, x :: l => if f x then some n else firstAt f (n + 1) l
theorem firstAt_append (f : Pc → Bool) : ∀ (n : Nat) (l m : List Pc), firstAt f n (l ++ m) = match firstAt f n l with | some k => some k | none => firstAt f (n + l.length) m
  | n, [], m => rfl
  | n, x :: l, m => by
    show (if f x then some n else firstAt f (n + 1) (l ++ m)) = match (if f x then some n else firstAt f (n + 1) l) with | some k => some k | none => firstAt f (n + (l.length + 1)) m
    by_cases c : f x = true
    · rw [if_pos c, if_pos c]
    · rw [if_neg c, if_neg c, firstAt_append f (n + 1) l m, show n + 1 + l.length = n + (l.length + 1) by omega]
theorem loose_pre : ∀ (n : Nat) (p : Prog), loose n p = firstAt isLoose n (pre p)
  | n, .done => rfl
  | n, .deed d s r => loose_pre (n + 1) r
  | n, .times m b r => by
    show (match loose (n + 1) b with | some k => some k | none => loose (n + 1 + b.size) r) = firstAt isLoose (n + 1) (pre b ++ pre r)
    rw [firstAt_append, loose_pre (n + 1) b, loose_pre (n + 1 + b.size) r, pre_len]
  | n, .toEnd b r => by
    show (if nearer b then (match loose (n + 1) b with | some k => some k | none => loose (n + 1 + b.size) r) else some n) = if (!nearer b) = true then some n else firstAt isLoose (n + 1) (pre b ++ pre r)
    cases nearer b with
    | true =>
      show (match loose (n + 1) b with | some k => some k | none => loose (n + 1 + b.size) r) = firstAt isLoose (n + 1) (pre b ++ pre r)
      rw [firstAt_append, loose_pre (n + 1) b, loose_pre (n + 1 + b.size) r, pre_len]
    | false => rfl
  | n, .when f v b r => by
    show (match loose (n + 1) b with | some k => some k | none => loose (n + 1 + b.size) r) = firstAt isLoose (n + 1) (pre b ++ pre r)
    rw [firstAt_append, loose_pre (n + 1) b, loose_pre (n + 1 + b.size) r, pre_len]
theorem firstAt_hit (f : Pc → Bool) : ∀ (l : List Pc) (n i : Nat) (x : Pc), l[i]? = some x → f x = true → (∀ j, j < i → ∀ y, l[j]? = some y → f y = false) → firstAt f n l = some (n + i)
  | [], n, i, x, h, _, _ => by simp at h
  | y :: l, n, 0, x, h, e, _ => by
    obtain rfl : y = x := Option.some.inj h
    show (if f y then some n else _) = _
    rw [if_pos e]
    rfl
  | y :: l, n, i + 1, x, h, e, k => by
    show (if f y then some n else firstAt f (n + 1) l) = _
    rw [if_neg (by rw [k 0 (Nat.succ_pos i) y rfl]; decide), firstAt_hit f l (n + 1) i x (by simpa using h) e (fun j hj z hz => k (j + 1) (Nat.succ_lt_succ hj) z (by simpa using hz))]
    congr 1
    omega
theorem firstAt_miss (f : Pc → Bool) : ∀ (l : List Pc) (n : Nat), (∀ x ∈ l, f x = false) → firstAt f n l = none
  | [], _, _ => rfl
  | y :: l, n, k => by
    show (if f y then some n else firstAt f (n + 1) l) = _
    rw [if_neg (by rw [k y (List.mem_cons_self)]; decide)]
    exact firstAt_miss f l (n + 1) fun x h => k x (List.mem_cons_of_mem _ h)
/-! ### the first piece that is against a grant -/
def isOutside (fs : List Nat) (rows : Bool) (x : Pc) : Bool := match x.1 with
  | .deed d _ => !((writesOf d).all fs.contains && (rows || !changesRows d))
  | _ => false
theorem outside_pre (fs : List Nat) (rows : Bool) : ∀ (n : Nat) (p : Prog), outside fs rows n p = firstAt (isOutside fs rows) n (pre p)
  | n, .done => rfl
  | n, .deed d s r => by
    show (if (writesOf d).all fs.contains && (rows || !changesRows d) then outside fs rows (n + 1) r else some n) = if (!((writesOf d).all fs.contains && (rows || !changesRows d))) = true then some n else firstAt (isOutside fs rows) (n + 1) (pre r)
    rw [outside_pre fs rows (n + 1) r]
    cases ((writesOf d).all fs.contains && (rows || !changesRows d)) <;> rfl
  | n, .times m b r => by
    show (match outside fs rows (n + 1) b with | some k => some k | none => outside fs rows (n + 1 + b.size) r) = firstAt _ (n + 1) (pre b ++ pre r)
    rw [firstAt_append, outside_pre fs rows (n + 1) b, outside_pre fs rows (n + 1 + b.size) r, pre_len]
  | n, .toEnd b r => by
    show (match outside fs rows (n + 1) b with | some k => some k | none => outside fs rows (n + 1 + b.size) r) = firstAt _ (n + 1) (pre b ++ pre r)
    rw [firstAt_append, outside_pre fs rows (n + 1) b, outside_pre fs rows (n + 1 + b.size) r, pre_len]
  | n, .when f v b r => by
    show (match outside fs rows (n + 1) b with | some k => some k | none => outside fs rows (n + 1 + b.size) r) = firstAt _ (n + 1) (pre b ++ pre r)
    rw [firstAt_append, outside_pre fs rows (n + 1) b, outside_pre fs rows (n + 1 + b.size) r, pre_len]
/-! ### rows that may change -/
def changesOne (x : Pc) : Bool := match x.1 with
  | .deed d _ => changesRows d
  | _ => false
theorem reshapes_pre : ∀ p : Prog, reshapes p = (pre p).any changesOne
  | .done => rfl
  | .deed d s r => by show (changesRows d || reshapes r) = (changesRows d || (pre r).any changesOne); rw [reshapes_pre r]
  | .times m b r => by show (reshapes b || reshapes r) = (false || (pre b ++ pre r).any changesOne); rw [List.any_append, reshapes_pre b, reshapes_pre r, Bool.false_or]
  | .toEnd b r => by show (reshapes b || reshapes r) = (false || (pre b ++ pre r).any changesOne); rw [List.any_append, reshapes_pre b, reshapes_pre r, Bool.false_or]
  | .when f v b r => by show (reshapes b || reshapes r) = (false || (pre b ++ pre r).any changesOne); rw [List.any_append, reshapes_pre b, reshapes_pre r, Bool.false_or]
/-! ### the old clipboard -/
def isCopy : Deed → Bool
  | .copy _ => true
  | _ => false
def isPaste : Deed → Bool
  | .paste _ => true
  | _ => false
/-- whether a copy surely comes in a row -/
def copies : Prog → Bool
  | .done => false
  | .deed d _ r => isCopy d || copies r
  | .times _ b r => copies b || copies r
  | .toEnd _ r => copies r
  | .when _ _ _ r => copies r
def copyOne (x : Pc) : Bool := match x.1 with
  | .deed d _ => isCopy d
  | .times _ => copies x.2
  | _ => false
theorem copies_rowL : ∀ p : Prog, copies p = (rowL p).any copyOne
  | .done => rfl
  | .deed d s r => congrArg (isCopy d || ·) (copies_rowL r)
  | .times n b r => congrArg (copies b || ·) (copies_rowL r)
  | .toEnd b r => by show copies r = (false || _); rw [Bool.false_or]; exact copies_rowL r
  | .when f v b r => by show copies r = (false || _); rw [Bool.false_or]; exact copies_rowL r
theorem clip_copied : ∀ (p : Prog) (c : Bool), (clipFrom p c).copied = (c || copies p)
  | .done, c => by show c = (c || false); rw [Bool.or_false]
  | .deed d s r, c => by
    cases d with
    | copy f => show (clipFrom r true).copied = (c || (true || copies r)); rw [clip_copied r true]; simp
    | paste f => show (clipFrom r c).copied = (c || (false || copies r)); rw [clip_copied r c, Bool.false_or]
    | _ => show (clipFrom r c).copied = (c || (false || copies r)); rw [clip_copied r c, Bool.false_or]
  | .times n b r, c => by
    show (clipFrom r (clipFrom b c).copied).copied = (c || (copies b || copies r))
    rw [clip_copied r, clip_copied b, Bool.or_assoc]
  | .toEnd b r, c => clip_copied r c
  | .when f v b r, c => clip_copied r c
/-- whether a paste of a piece may come ahead of every copy -/
def oldOne (x : Pc) (c : Bool) : Bool := match x.1 with
  | .deed d _ => isPaste d && !c
  | _ => (clipFrom x.2 c).old
/-- the old clipboard, piece by piece -/
def oldL : List Pc → Bool → Bool
  | [], _ => false
  | x :: l, c => oldOne x c || oldL l (c || copyOne x)
theorem clip_old : ∀ (p : Prog) (c : Bool), (clipFrom p c).old = oldL (rowL p) c
  | .done, c => rfl
  | .deed d s r, c => by
    cases d with
    | copy f => show (clipFrom r true).old = (false || oldL (rowL r) (c || true)); rw [Bool.false_or, Bool.or_true]; exact clip_old r true
    | paste f => show (!c || (clipFrom r c).old) = ((true && !c) || oldL (rowL r) (c || false)); rw [Bool.or_false, Bool.true_and, clip_old r c]
    | _ => show (clipFrom r c).old = (false || oldL (rowL r) (c || false)); rw [Bool.false_or, Bool.or_false]; exact clip_old r c
  | .times n b r, c => by
    show ((clipFrom b c).old || (clipFrom r (clipFrom b c).copied).old) = ((clipFrom b c).old || oldL (rowL r) (c || copies b))
    rw [clip_copied, clip_old r]
  | .toEnd b r, c => by
    show ((clipFrom b c).old || (clipFrom r c).old) = ((clipFrom b c).old || oldL (rowL r) (c || false))
    rw [Bool.or_false, clip_old r]
  | .when f v b r, c => by
    show ((clipFrom b c).old || (clipFrom r c).old) = ((clipFrom b c).old || oldL (rowL r) (c || false))
    rw [Bool.or_false, clip_old r]
/-- a turn: behind i pieces the clipboard is copied so -/
def copiedL (l : List Pc) (c : Bool) : Bool := l.foldl (fun a x => a || copyOne x) c
theorem oldL_turn : ∀ (l : List Pc) (c : Bool) (i : Nat), (∀ j, j < i → ∀ x, l[j]? = some x → oldOne x (copiedL (l.take j) c) = false) → oldL l c = oldL (l.drop i) (copiedL (l.take i) c)
  | l, c, 0, _ => by rw [List.take_zero, List.drop_zero]; rfl
  | [], c, i + 1, _ => by simp [oldL]
  | x :: l, c, i + 1, k => by
    show (oldOne x c || oldL l (c || copyOne x)) = oldL (l.drop i) (copiedL (l.take i) (c || copyOne x))
    have h0 : oldOne x c = false := k 0 (Nat.succ_pos i) x rfl
    rw [h0, Bool.false_or]
    exact oldL_turn l (c || copyOne x) i fun j hj y hy => k (j + 1) (Nat.succ_lt_succ hj) y (by simpa using hy)
theorem copiedL_snoc (l : List Pc) (x : Pc) (c : Bool) : copiedL (l ++ [x]) c = (copiedL l c || copyOne x) := by
  unfold copiedL
  rw [List.foldl_append]
  rfl
/-! ### fields -/
theorem putNum_mem : ∀ (n : Nat) (l : List Nat) (x : Nat), x ∈ putNum n l ↔ x = n ∨ x ∈ l
  | n, [], x => by simp [putNum]
  | n, y :: l, x => by
    unfold putNum
    split
    · simp
    · split
      · rename_i e
        subst e
        simp
      · have := putNum_mem n l x
        simp only [List.mem_cons, this]
        constructor
        · rintro (h | h | h) <;> simp [h]
        · rintro (h | h | h) <;> simp [h]
theorem putNum_sorted : ∀ (n : Nat) (l : List Nat), l.Pairwise (· < ·) → (putNum n l).Pairwise (· < ·)
  | n, [], _ => by simp [putNum]
  | n, y :: l, h => by
    unfold putNum
    rw [List.pairwise_cons] at h
    split
    · rename_i c
      rw [List.pairwise_cons, List.pairwise_cons]
      refine ⟨fun a ha => ?_, h⟩
      rcases List.mem_cons.mp ha with rfl | ha
      · exact c
      · exact Nat.lt_trans c (h.1 a ha)
    · split
      · rw [List.pairwise_cons]
        exact h
      · rw [List.pairwise_cons]
        refine ⟨fun a ha => ?_, putNum_sorted n l h.2⟩
        rcases (putNum_mem n l a).mp ha with rfl | ha
        · omega
        · exact h.1 a ha
theorem union_mem (a b : List Nat) (x : Nat) : x ∈ union a b ↔ x ∈ a ∨ x ∈ b := by
  unfold union
  induction a generalizing b with
  | nil => simp
  | cons y a ih =>
    rw [List.foldl_cons, ih, putNum_mem, List.mem_cons]
    constructor
    · rintro (h | h | h) <;> simp [h]
    · rintro ((h | h) | h) <;> simp [h]
theorem union_sorted (a b : List Nat) (h : b.Pairwise (· < ·)) : (union a b).Pairwise (· < ·) := by
  unfold union
  induction a generalizing b with
  | nil => exact h
  | cons y a ih => exact ih _ (putNum_sorted y b h)
/-- rising lists with the same members are the same -/
theorem rising_ext : ∀ (a b : List Nat), a.Pairwise (· < ·) → b.Pairwise (· < ·) → (∀ x, x ∈ a ↔ x ∈ b) → a = b
  | [], [], _, _, _ => rfl
  | [], y :: b, _, _, h => by have := (h y).mpr (List.mem_cons_self); cases this
  | x :: a, [], _, _, h => by have := (h x).mp (List.mem_cons_self); cases this
  | x :: a, y :: b, ha, hb, h => by
    rw [List.pairwise_cons] at ha hb
    have e : x = y := by
      have h1 := (h x).mp (List.mem_cons_self)
      have h2 := (h y).mpr (List.mem_cons_self)
      rcases List.mem_cons.mp h1 with e | h1
      · exact e
      · rcases List.mem_cons.mp h2 with e | h2
        · exact e.symm
        · have := ha.1 y h2
          have := hb.1 x h1
          omega
    subst e
    congr 1
    refine rising_ext a b ha.2 hb.2 fun z => ?_
    have := h z
    simp only [List.mem_cons] at this
    constructor
    · intro hz
      rcases this.mp (.inr hz) with e | q
      · subst e; exact absurd (ha.1 z hz) (Nat.lt_irrefl _)
      · exact q
    · intro hz
      rcases this.mpr (.inr hz) with e | q
      · subst e; exact absurd (hb.1 z hz) (Nat.lt_irrefl _)
      · exact q
def writesPc (x : Pc) : List Nat := match x.1 with
  | .deed d _ => writesOf d
  | _ => []
def readsPc (x : Pc) : List Nat := match x.1 with
  | .deed d _ => readsOf d
  | .when f _ => [f]
  | _ => []
theorem writes_mem : ∀ (p : Prog) (x : Nat), x ∈ writes p ↔ ∃ y ∈ pre p, x ∈ writesPc y
  | .done, x => by simp [writes, pre]
  | .deed d s r, x => by simp only [writes, union_mem, writes_mem r, pre, List.mem_cons, exists_eq_or_imp]; exact Iff.rfl
  | .times n b r, x => by
    simp only [writes, union_mem, writes_mem r, writes_mem b, pre, List.mem_cons, List.mem_append]
    constructor
    · rintro (⟨y, h, q⟩ | ⟨y, h, q⟩)
      · exact ⟨y, .inr (.inl h), q⟩
      · exact ⟨y, .inr (.inr h), q⟩
    · rintro ⟨y, (rfl | h | h), q⟩
      · cases q
      · exact .inl ⟨y, h, q⟩
      · exact .inr ⟨y, h, q⟩
  | .toEnd b r, x => by
    simp only [writes, union_mem, writes_mem r, writes_mem b, pre, List.mem_cons, List.mem_append]
    constructor
    · rintro (⟨y, h, q⟩ | ⟨y, h, q⟩)
      · exact ⟨y, .inr (.inl h), q⟩
      · exact ⟨y, .inr (.inr h), q⟩
    · rintro ⟨y, (rfl | h | h), q⟩
      · cases q
      · exact .inl ⟨y, h, q⟩
      · exact .inr ⟨y, h, q⟩
  | .when f v b r, x => by
    simp only [writes, union_mem, writes_mem r, writes_mem b, pre, List.mem_cons, List.mem_append]
    constructor
    · rintro (⟨y, h, q⟩ | ⟨y, h, q⟩)
      · exact ⟨y, .inr (.inl h), q⟩
      · exact ⟨y, .inr (.inr h), q⟩
    · rintro ⟨y, (rfl | h | h), q⟩
      · cases q
      · exact .inl ⟨y, h, q⟩
      · exact .inr ⟨y, h, q⟩
theorem reads_mem : ∀ (p : Prog) (x : Nat), x ∈ reads p ↔ ∃ y ∈ pre p, x ∈ readsPc y
  | .done, x => by simp [reads, pre]
  | .deed d s r, x => by simp only [reads, union_mem, reads_mem r, pre, List.mem_cons, exists_eq_or_imp]; exact Iff.rfl
  | .times n b r, x => by
    simp only [reads, union_mem, reads_mem r, reads_mem b, pre, List.mem_cons, List.mem_append]
    constructor
    · rintro (⟨y, h, q⟩ | ⟨y, h, q⟩)
      · exact ⟨y, .inr (.inl h), q⟩
      · exact ⟨y, .inr (.inr h), q⟩
    · rintro ⟨y, (rfl | h | h), q⟩
      · cases q
      · exact .inl ⟨y, h, q⟩
      · exact .inr ⟨y, h, q⟩
  | .toEnd b r, x => by
    simp only [reads, union_mem, reads_mem r, reads_mem b, pre, List.mem_cons, List.mem_append]
    constructor
    · rintro (⟨y, h, q⟩ | ⟨y, h, q⟩)
      · exact ⟨y, .inr (.inl h), q⟩
      · exact ⟨y, .inr (.inr h), q⟩
    · rintro ⟨y, (rfl | h | h), q⟩
      · cases q
      · exact .inl ⟨y, h, q⟩
      · exact .inr ⟨y, h, q⟩
  | .when f v b r, x => by
    simp only [reads, putNum_mem, union_mem, reads_mem r, reads_mem b, pre, List.mem_cons, List.mem_append]
    constructor
    · rintro (rfl | ⟨y, h, q⟩ | ⟨y, h, q⟩)
      · exact ⟨_, .inl rfl, List.mem_cons_self⟩
      · exact ⟨y, .inr (.inl h), q⟩
      · exact ⟨y, .inr (.inr h), q⟩
    · rintro ⟨y, (rfl | h | h), q⟩
      · exact .inl (List.mem_singleton.mp q)
      · exact .inr (.inl ⟨y, h, q⟩)
      · exact .inr (.inr ⟨y, h, q⟩)
theorem writes_sorted : ∀ p : Prog, (writes p).Pairwise (· < ·)
  | .done => .nil
  | .deed d s r => union_sorted _ _ (writes_sorted r)
  | .times n b r => union_sorted _ _ (writes_sorted r)
  | .toEnd b r => union_sorted _ _ (writes_sorted r)
  | .when f v b r => union_sorted _ _ (writes_sorted r)
theorem reads_sorted : ∀ p : Prog, (reads p).Pairwise (· < ·)
  | .done => .nil
  | .deed d s r => union_sorted _ _ (reads_sorted r)
  | .times n b r => union_sorted _ _ (reads_sorted r)
  | .toEnd b r => union_sorted _ _ (reads_sorted r)
  | .when f v b r => putNum_sorted _ _ (union_sorted _ _ (reads_sorted r))
/-- the fields of a list, each once, rising -/
def rising3 (l : List Nat) : List Nat := (List.range 3).filter fun f => decide (f ∈ l)
theorem rising3_sorted (l : List Nat) : (rising3 l).Pairwise (· < ·) := (List.pairwise_lt_range (n := 3)).filter _
theorem rising3_mem (l : List Nat) (h : ∀ x ∈ l, x < 3) (x : Nat) : x ∈ rising3 l ↔ x ∈ l := by
  unfold rising3
  rw [List.mem_filter, List.mem_range, decide_eq_true_eq]
  exact ⟨fun z => z.2, fun z => ⟨h x z, z⟩⟩
/-- the pieces of a program within the limits -/
def okPc (x : Pc) : Bool := match x.1 with
  | .deed d s => okDeed d
  | .times n => decide (1 ≤ n) && decide (n ≤ 9)
  | .toEnd => true
  | .when f v => okField f && okValue v
theorem ok_pre : ∀ p : Prog, okPieces p = true → ∀ x ∈ pre p, okPc x = true
  | .done, _, x, h => by cases h
  | .deed d s r, o, x, h => by
    simp only [okPieces, Bool.and_eq_true] at o
    rcases List.mem_cons.mp h with rfl | h
    · exact o.1
    · exact ok_pre r o.2.2.2 x h
  | .times n b r, o, x, h => by
    simp only [okPieces, Bool.and_eq_true] at o
    rcases List.mem_cons.mp h with rfl | h
    · show (decide (1 ≤ n) && decide (n ≤ 9)) = true
      rw [Bool.and_eq_true]
      exact ⟨o.1, o.2.1⟩
    · rcases List.mem_append.mp h with h | h
      · exact ok_pre b o.2.2.1 x h
      · exact ok_pre r o.2.2.2 x h
  | .toEnd b r, o, x, h => by
    simp only [okPieces, Bool.and_eq_true] at o
    rcases List.mem_cons.mp h with rfl | h
    · rfl
    · rcases List.mem_append.mp h with h | h
      · exact ok_pre b o.1 x h
      · exact ok_pre r o.2 x h
  | .when f v b r, o, x, h => by
    simp only [okPieces, Bool.and_eq_true] at o
    rcases List.mem_cons.mp h with rfl | h
    · show (okField f && okValue v) = true
      rw [Bool.and_eq_true]
      exact ⟨o.1, o.2.1⟩
    · rcases List.mem_append.mp h with h | h
      · exact ok_pre b o.2.2.1 x h
      · exact ok_pre r o.2.2.2 x h
theorem okField_lt {f : Nat} (h : okField f = true) : f < 3 := of_decide_eq_true h
theorem writesPc_lt {x : Pc} (h : okPc x = true) : ∀ f ∈ writesPc x, f < 3 := by
  obtain ⟨h1, b⟩ := x
  cases h1 with
  | deed d s =>
    intro f hf
    cases d <;> simp only [writesPc, writesOf, List.mem_singleton, List.not_mem_nil] at hf <;> subst hf <;> simp only [okPc, okDeed, Bool.and_eq_true] at h <;> first | exact okField_lt h.1 | exact okField_lt h
  | _ => intro f hf; cases hf
theorem readsPc_lt {x : Pc} (h : okPc x = true) : ∀ f ∈ readsPc x, f < 3 := by
  obtain ⟨h1, b⟩ := x
  cases h1 with
  | deed d s =>
    intro f hf
    cases d <;> simp only [readsPc, readsOf, List.mem_singleton, List.not_mem_nil] at hf <;> subst hf <;> simp only [okPc, okDeed, Bool.and_eq_true] at h <;> first | exact okField_lt h.1 | exact okField_lt h
  | when f v =>
    intro g hg
    have e : g = f := List.mem_singleton.mp hg
    subst e
    simp only [okPc, Bool.and_eq_true] at h
    exact okField_lt h.1
  | _ => intro f hf; cases hf
theorem writes_rising (p : Prog) (o : okPieces p = true) : writes p = rising3 ((pre p).flatMap writesPc) := by
  have hl : ∀ x ∈ (pre p).flatMap writesPc, x < 3 := fun x hx => by
    obtain ⟨y, hy, q⟩ := List.mem_flatMap.mp hx
    exact writesPc_lt (ok_pre p o y hy) x q
  refine rising_ext _ _ (writes_sorted p) (rising3_sorted _) fun x => ?_
  rw [rising3_mem _ hl, writes_mem, List.mem_flatMap]
theorem reads_rising (p : Prog) (o : okPieces p = true) : reads p = rising3 ((pre p).flatMap readsPc) := by
  have hl : ∀ x ∈ (pre p).flatMap readsPc, x < 3 := fun x hx => by
    obtain ⟨y, hy, q⟩ := List.mem_flatMap.mp hx
    exact readsPc_lt (ok_pre p o y hy) x q
  refine rising_ext _ _ (reads_sorted p) (rising3_sorted _) fun x => ?_
  rw [rising3_mem _ hl, reads_mem, List.mem_flatMap]
theorem ok_rowL : ∀ p : Prog, okPieces p = true → ∀ x ∈ rowL p, okPc x = true ∧ okPieces x.2 = true
  | .done, _, x, h => by cases h
  | .deed d s r, o, x, h => by
    simp only [okPieces, Bool.and_eq_true] at o
    rcases List.mem_cons.mp h with rfl | h
    · exact ⟨o.1, rfl⟩
    · exact ok_rowL r o.2.2.2 x h
  | .times n b r, o, x, h => by
    simp only [okPieces, Bool.and_eq_true] at o
    rcases List.mem_cons.mp h with rfl | h
    · refine ⟨?_, o.2.2.1⟩
      show (decide (1 ≤ n) && decide (n ≤ 9)) = true
      rw [Bool.and_eq_true]
      exact ⟨o.1, o.2.1⟩
    · exact ok_rowL r o.2.2.2 x h
  | .toEnd b r, o, x, h => by
    simp only [okPieces, Bool.and_eq_true] at o
    rcases List.mem_cons.mp h with rfl | h
    · exact ⟨rfl, o.1⟩
    · exact ok_rowL r o.2 x h
  | .when f v b r, o, x, h => by
    simp only [okPieces, Bool.and_eq_true] at o
    rcases List.mem_cons.mp h with rfl | h
    · refine ⟨?_, o.2.2.1⟩
      show (okField f && okValue v) = true
      rw [Bool.and_eq_true]
      exact ⟨o.1, o.2.1⟩
    · exact ok_rowL r o.2.2.2 x h
theorem ok_pre2 : ∀ p : Prog, okPieces p = true → ∀ x ∈ pre p, okPieces x.2 = true
  | .done, _, x, h => by cases h
  | .deed d s r, o, x, h => by
    simp only [okPieces, Bool.and_eq_true] at o
    rcases List.mem_cons.mp h with rfl | h
    · rfl
    · exact ok_pre2 r o.2.2.2 x h
  | .times n b r, o, x, h => by
    simp only [okPieces, Bool.and_eq_true] at o
    rcases List.mem_cons.mp h with rfl | h
    · exact o.2.2.1
    · rcases List.mem_append.mp h with h | h
      · exact ok_pre2 b o.2.2.1 x h
      · exact ok_pre2 r o.2.2.2 x h
  | .toEnd b r, o, x, h => by
    simp only [okPieces, Bool.and_eq_true] at o
    rcases List.mem_cons.mp h with rfl | h
    · exact o.1
    · rcases List.mem_append.mp h with h | h
      · exact ok_pre2 b o.1 x h
      · exact ok_pre2 r o.2 x h
  | .when f v b r, o, x, h => by
    simp only [okPieces, Bool.and_eq_true] at o
    rcases List.mem_cons.mp h with rfl | h
    · exact o.2.2.1
    · rcases List.mem_append.mp h with h | h
      · exact ok_pre2 b o.2.2.1 x h
      · exact ok_pre2 r o.2.2.2 x h
theorem moreOf_kind (d : Deed) : moreOf d = if kindOf d = 2 then none else if kindOf d ∈ ([0, 7, 9] : List Int) then some (-1) else if kindOf d ∈ ([1, 8] : List Int) then some 1 else some 0 := by cases d <;> rfl
/-! ### so many things read, one behind another: a turn -/
theorem readTimes_turn {A : Type} {a : Reader A} {k : Nat} {x : List Int} {o : Option (List A × List Int)} {q : List A} (h : o = (readTimes a (k + 1) x).map fun r => (q ++ r.1, r.2)) :
    (a x = none → o = none) ∧ ∀ u y, a x = some (u, y) → o = (readTimes a k y).map fun r => (q ++ [u] ++ r.1, r.2) := by
  refine ⟨fun e => ?_, fun u y e => ?_⟩
  · rw [h]
    show Option.map _ ((a x).bind _) = none
    rw [e]
    rfl
  · rw [h]
    show Option.map _ ((a x).bind _) = _
    rw [e]
    show Option.map _ (Option.map _ (readTimes a k y)) = _
    rw [Option.map_map]
    congr 1
    funext r
    show (q ++ (u :: r.1), r.2) = _
    rw [List.append_assoc]
    rfl
theorem readTimes_start {A : Type} {a : Reader A} {k : Nat} {x : List Int} : readTimes a k x = (readTimes a k x).map fun r => ([] ++ r.1, r.2) := by
  rw [show (fun r : List A × List Int => ([] ++ r.1, r.2)) = id from rfl, Option.map_id]
  rfl
theorem depthOne_le (p : Prog) (x : Pc) (h : x ∈ rowL p) : depthOne x ≤ p.depth := by
  unfold depthOne
  cases c : x.1.isDeed with
  | true => exact Nat.zero_le _
  | false => exact rowL_depth p x h c
theorem copy_kind (d : Deed) : isCopy d = decide (kindOf d = 5) := by cases d <;> rfl
theorem paste_kind (d : Deed) : isPaste d = decide (kindOf d = 6) := by cases d <;> rfl
theorem changes_kind (d : Deed) : changesRows d = decide (kindOf d ∈ ([7, 8] : List Int)) := by cases d <;> rfl
theorem writes_kind (d : Deed) : writesOf d = if kindOf d ∈ ([3, 4, 6] : List Int) then [fieldOf d] else [] := by cases d <;> rfl
theorem reads_kind (d : Deed) : readsOf d = if kindOf d ∈ ([4, 5, 9] : List Int) then [fieldOf d] else [] := by cases d <;> rfl
end My
/-! The line of calls: read call by call, as the program reads it. -/
namespace My
open Vamacf (Call State)
def parseC (x : List Int) : Option (Call × List Int) := match x with
  | [] => none
  | p :: r =>
    if p = 0 then (PyFlat.row r).map fun u => (.program u.1, u.2)
    else if p = 1 then some (.told, r)
    else if p = 2 then some (.touches, r)
    else if p = 3 then some (.ends, r)
    else if p = 4 then (match r with
      | [] => none
      | q :: s => (PyFlat.row s).map fun u => (.allowed q u.1, u.2))
    else if p = 5 then (PyFlat.row r).map fun u => (.run u.1, u.2)
    else if p = 6 then (PyFlat.row r).map fun u => (.changed u.1, u.2)
    else if p = 7 then (PyFlat.row r).map fun u => (.join u.1, u.2)
    else if p = 8 then (PyFlat.row r).map fun u => (.clean u.1, u.2)
    else if p = 9 then (PyFlat.row r).bind fun u => (PyFlat.row u.2).map fun v => (.same u.1 v.1, v.2)
    else none
theorem shape_some {p : Int} {n k : Nat} (h : PyVamacf.shape p = some (n, k)) :
    (p = 0 ∧ n = 0 ∧ k = 1) ∨ (p = 1 ∧ n = 0 ∧ k = 0) ∨ (p = 2 ∧ n = 0 ∧ k = 0) ∨ (p = 3 ∧ n = 0 ∧ k = 0) ∨ (p = 4 ∧ n = 1 ∧ k = 1) ∨ (p = 5 ∧ n = 0 ∧ k = 1) ∨ (p = 6 ∧ n = 0 ∧ k = 1) ∨ (p = 7 ∧ n = 0 ∧ k = 1) ∨ (p = 8 ∧ n = 0 ∧ k = 1) ∨ (p = 9 ∧ n = 0 ∧ k = 2) := by
  unfold PyVamacf.shape at h
  repeat (split at h; · (rename_i e; cases h; simp [e]))
  cases h
theorem rows_one {r y : List Int} {xs : List (List Int)} (h : PyFlat.rows 1 r = some (xs, y)) : ∃ l, PyFlat.row r = some (l, y) ∧ xs = [l] := by
  unfold PyFlat.rows at h
  split at h
  · cases h
  · rename_i x s e
    unfold PyFlat.rows at h
    cases h
    exact ⟨x, e, rfl⟩
theorem rows_two {r y : List Int} {xs : List (List Int)} (h : PyFlat.rows 2 r = some (xs, y)) : ∃ l m s, PyFlat.row r = some (l, s) ∧ PyFlat.row s = some (m, y) ∧ xs = [l, m] := by
  unfold PyFlat.rows at h
  split at h
  · cases h
  · rename_i x s e
    split at h
    · cases h
    · rename_i xs' t e'
      cases h
      obtain ⟨m, h1, h2⟩ := rows_one e'
      subst h2
      exact ⟨x, m, s, e, h1, rfl⟩
theorem parse_call {x y : List Int} {c : List (List Int)} (h : PyFlat.call PyVamacf.shape x = some (c, y)) : ∃ k, parseC x = some (k, y) ∧ VamacfNeutral.callOf (PyVamacf.whole c) = some k := by
  unfold PyFlat.call at h
  split at h
  · cases h
  · rename_i p r
    split at h
    · cases h
    · rename_i n k es
      split at h
      · cases h
      · rename_i hl
        split at h
        · cases h
        · rename_i xs t er
          cases h
          rcases shape_some es with ⟨rfl, rfl, rfl⟩ | ⟨rfl, rfl, rfl⟩ | ⟨rfl, rfl, rfl⟩ | ⟨rfl, rfl, rfl⟩ | ⟨rfl, rfl, rfl⟩ | ⟨rfl, rfl, rfl⟩ | ⟨rfl, rfl, rfl⟩ | ⟨rfl, rfl, rfl⟩ | ⟨rfl, rfl, rfl⟩ | ⟨rfl, rfl, rfl⟩
          · obtain ⟨l, h1, rfl⟩ := rows_one er
            have h1' : PyFlat.row r = some (l, y) := h1
            exact ⟨.program l, by show (PyFlat.row r).map _ = _; rw [h1']; rfl, rfl⟩
          · cases er
            exact ⟨.told, rfl, rfl⟩
          · cases er
            exact ⟨.touches, rfl, rfl⟩
          · cases er
            exact ⟨.ends, rfl, rfl⟩
          · obtain ⟨l, h1, rfl⟩ := rows_one er
            cases r with
            | nil => exact absurd (Nat.lt_succ_self 0) hl
            | cons q s =>
              have h1' : PyFlat.row s = some (l, y) := h1
              exact ⟨.allowed q l, by show (PyFlat.row s).map _ = _; rw [h1']; rfl, rfl⟩
          · obtain ⟨l, h1, rfl⟩ := rows_one er
            have h1' : PyFlat.row r = some (l, y) := h1
            exact ⟨.run l, by show (PyFlat.row r).map _ = _; rw [h1']; rfl, rfl⟩
          · obtain ⟨l, h1, rfl⟩ := rows_one er
            have h1' : PyFlat.row r = some (l, y) := h1
            exact ⟨.changed l, by show (PyFlat.row r).map _ = _; rw [h1']; rfl, rfl⟩
          · obtain ⟨l, h1, rfl⟩ := rows_one er
            have h1' : PyFlat.row r = some (l, y) := h1
            exact ⟨.join l, by show (PyFlat.row r).map _ = _; rw [h1']; rfl, rfl⟩
          · obtain ⟨l, h1, rfl⟩ := rows_one er
            have h1' : PyFlat.row r = some (l, y) := h1
            exact ⟨.clean l, by show (PyFlat.row r).map _ = _; rw [h1']; rfl, rfl⟩
          · obtain ⟨l, m, s, h1, h2, rfl⟩ := rows_two er
            have h1' : PyFlat.row r = some (l, s) := h1
            exact ⟨.same l m, by show (PyFlat.row r).bind _ = _; rw [h1']; show (PyFlat.row s).map _ = _; rw [h2]; rfl, rfl⟩
def callsC : Nat → List Int → Option (List Call)
  | _, [] => some []
  | 0, _ :: _ => none
  | f + 1, p :: r => match parseC (p :: r) with
    | none => none
    | some (k, t) => (callsC f t).map (k :: ·)
def playC : State → List Call → List (List Int)
  | _, [] => []
  | s, k :: r => (Vamacf.step s k).2 :: playC (Vamacf.step s k).1 r
theorem calls_parse : ∀ (f : Nat) (x : List Int) (cs : List (List (List Int))), PyFlat.calls PyVamacf.shape f x = some cs → ∃ ks, callsC f x = some ks ∧ ∀ s, PyFlat.played VamacfNeutral.step s (cs.map PyVamacf.whole) = playC s ks
  | f, [], cs, h => by
    have e : cs = [] := by cases f <;> (unfold PyFlat.calls at h; cases h; rfl)
    subst e
    exact ⟨[], by cases f <;> rfl, fun s => rfl⟩
  | 0, p :: r, cs, h => by
    unfold PyFlat.calls at h
    cases h
  | f + 1, p :: r, cs, h => by
    unfold PyFlat.calls at h
    split at h
    · cases h
    · rename_i c t e
      split at h
      · cases h
      · rename_i cs' e'
        cases h
        obtain ⟨k, h1, h2⟩ := parse_call e
        obtain ⟨ks, h3, h4⟩ := calls_parse f t cs' e'
        refine ⟨k :: ks, ?_, fun s => ?_⟩
        · show (match parseC (p :: r) with | none => none | some (k, t) => (callsC f t).map (k :: ·)) = _
          rw [h1]
          show (callsC f t).map _ = _
          rw [h3]
          rfl
        · show (VamacfNeutral.step s (PyVamacf.whole c)).2 :: PyFlat.played VamacfNeutral.step (VamacfNeutral.step s (PyVamacf.whole c)).1 (cs'.map PyVamacf.whole) = _
          have e2 : VamacfNeutral.step s (PyVamacf.whole c) = Vamacf.step s k := by
            unfold VamacfNeutral.step
            rw [h2]
          rw [e2, h4]
          rfl
theorem asked_calls {l : List Int} (h : PyVamacf.answers_asked l = true) : ∃ ks, callsC l.length l = some ks ∧ PyVamacf.answers l = PyFlat.told (playC Vamacf.start ks) ∧ (PyVamacf.answers l).length ≤ 10000000 := by
  unfold PyVamacf.answers_asked at h
  split at h
  · cases h
  · rename_i raw e
    obtain ⟨ks, h1, h2⟩ := calls_parse _ _ _ e
    simp only [Bool.and_eq_true] at h
    refine ⟨ks, h1, ?_, of_decide_eq_true h.2⟩
    unfold PyVamacf.answers PyVamacf.calls
    rw [e]
    show PyFlat.told (PyFlat.played VamacfNeutral.step VamacfNeutral.start (raw.map PyVamacf.whole)) = _
    rw [h2]
    rfl
/-- a list with its length ahead -/
theorem row_some {x l y : List Int} (h : PyFlat.row x = some (l, y)) : ∃ n r, x = n :: r ∧ 0 ≤ n ∧ n.toNat ≤ r.length ∧ l = r.take n.toNat ∧ y = r.drop n.toNat := by
  unfold PyFlat.row at h
  split at h
  · cases h
  · rename_i n r
    split at h
    · rename_i c
      cases h
      exact ⟨n, r, rfl, c.1, c.2, rfl, rfl⟩
    · cases h
theorem told_append (a b : List (List Int)) : PyFlat.told (a ++ b) = PyFlat.told a ++ PyFlat.told b := by
  unfold PyFlat.told
  rw [List.flatMap_append]
end My
/-! Tables: read as the program reads them; as numbers. -/
namespace My
open VamacBase
theorem readTimes_len {A : Type} {a : Reader A} : ∀ {n : Nat} {x y : List Int} {l : List A}, readTimes a n x = some (l, y) → l.length = n
  | 0, x, y, l, h => by
    unfold readTimes at h
    cases h
    rfl
  | n + 1, x, y, l, h => by
    unfold readTimes at h
    rw [bind_some_iff] at h
    obtain ⟨u, h1, h2⟩ := h
    rw [map_some_iff] at h2
    obtain ⟨v, h3, h4⟩ := h2
    cases h4
    show v.1.length + 1 = n + 1
    rw [readTimes_len (l := v.1) (y := v.2) h3]
theorem readTimes_all {A : Type} {a : Reader A} {p : A → Prop} (hp : ∀ x u y, a x = some (u, y) → p u) : ∀ {n : Nat} {x y : List Int} {l : List A}, readTimes a n x = some (l, y) → ∀ u ∈ l, p u
  | 0, x, y, l, h => by
    unfold readTimes at h
    cases h
    intro u hu
    cases hu
  | n + 1, x, y, l, h => by
    unfold readTimes at h
    rw [bind_some_iff] at h
    obtain ⟨u, h1, h2⟩ := h
    rw [map_some_iff] at h2
    obtain ⟨v, h3, h4⟩ := h2
    cases h4
    intro w hw
    rcases List.mem_cons.mp hw with rfl | hw
    · exact hp _ _ _ h1
    · exact readTimes_all hp (l := v.1) (y := v.2) h3 w hw
/-- three values -/
abbrev rowM3 : Reader (List Int) := readTimes readValue 3
/-- a table, as the program reads it: the cursor up to how many rows there are -/
def tableM : Reader Table := fun x => (readNat 0 8 x).bind fun n => (readTimes rowM3 n.1 n.2).bind fun rs => (readNat 0 n.1 rs.2).bind fun c => (readValue c.2).map fun v => (⟨rs.1, c.1, v.1⟩, v.2)
theorem row_ok {x y : List Int} {l : List Int} (h : rowM3 x = some (l, y)) : (l.length == FIELDS && l.all okValue) = true := by
  have h1 : l.length = 3 := readTimes_len h
  rw [Bool.and_eq_true]
  refine ⟨by rw [h1]; rfl, List.all_eq_true.mpr fun u hu => readTimes_all (p := fun u => okValue u = true) (fun x u y e => (readValue_some e).2) h u hu⟩
theorem readTable_eq (x : List Int) : readTable x = tableM x := by
  unfold readTable tableM readPair readListed
  show (Option.bind ((Option.bind (readNat 0 8 x) fun n => readTimes rowM3 n.1 n.2).bind _) _) = _
  cases e1 : readNat 0 8 x with
  | none => rfl
  | some n =>
    obtain ⟨n, y1⟩ := n
    show (Option.bind ((readTimes rowM3 n y1).bind _) _) = (readTimes rowM3 n y1).bind _
    cases e2 : readTimes rowM3 n y1 with
    | none => rfl
    | some rs =>
      obtain ⟨rs, y2⟩ := rs
      have hl : rs.length = n := readTimes_len e2
      have hr : rs.all (fun r => r.length == FIELDS && r.all okValue) = true := List.all_eq_true.mpr fun r hr => readTimes_all (p := fun r => (r.length == FIELDS && r.all okValue) = true) (fun x u y e => row_ok e) e2 r hr
      obtain ⟨_, _, hn⟩ := readNat_some e1
      show (Option.bind (Option.map _ (Option.bind (readNat 0 8 y2) fun u => (readValue u.2).map _)) _) = (readNat 0 n y2).bind fun c => (readValue c.2).map _
      cases y2 with
      | nil => rfl
      | cons z y3 =>
        unfold readNat
        dsimp only
        by_cases c8 : int 0 ≤ z ∧ z ≤ int 8
        · rw [if_pos c8]
          show (Option.bind (Option.map _ ((readValue y3).map _)) _) = _
          cases e4 : readValue y3 with
          | none =>
            by_cases cn : int 0 ≤ z ∧ z ≤ int n
            · rw [if_pos cn]
              show none = (readValue y3).map _
              rw [e4]
              rfl
            · rw [if_neg cn]
              rfl
          | some v =>
            obtain ⟨v, y4⟩ := v
            obtain ⟨_, hv⟩ := readValue_some e4
            show (if okTable ⟨rs, z.toNat, v⟩ = true then some ((⟨rs, z.toNat, v⟩ : Table), y4) else none) = _
            unfold int at c8
            have ok : okTable ⟨rs, z.toNat, v⟩ = decide (z.toNat ≤ n) := by
              unfold okTable
              show (decide (rs.length ≤ ROWS) && (rs.all _ && (decide (z.toNat ≤ rs.length) && okValue v))) = _
              rw [hr, hv, hl]
              unfold ROWS
              rw [decide_eq_true hn]
              simp
            rw [ok]
            by_cases cn : int 0 ≤ z ∧ z ≤ int n
            · rw [if_pos cn]
              unfold int at cn
              rw [if_pos (by rw [decide_eq_true_eq]; omega)]
              show _ = (readValue y3).map _
              rw [e4]
              rfl
            · rw [if_neg cn]
              unfold int at cn
              rw [if_neg (by rw [decide_eq_true_eq]; omega)]
              rfl
        · rw [if_neg c8]
          have cn : ¬ (int 0 ≤ z ∧ z ≤ int n) := fun q => c8 ⟨q.1, Int.le_trans q.2 (by unfold int; omega)⟩
          rw [if_neg cn]
          rfl
theorem readTable_ok {x y : List Int} {t : Table} (h : readTable x = some (t, y)) : okTable t = true := by
  unfold readTable at h
  rw [bind_some_iff] at h
  obtain ⟨u, _, h2⟩ := h
  dsimp only at h2
  split at h2
  · rename_i ok
    cases h2
    exact ok
  · cases h2
/-! ### what a table within its limits is -/
theorem okTable_parts {t : Table} (h : okTable t = true) : t.rows.length ≤ 8 ∧ (∀ r ∈ t.rows, r.length = 3 ∧ ∀ v ∈ r, okValue v = true) ∧ t.at_ ≤ t.rows.length ∧ okValue t.clip = true := by
  unfold okTable at h
  simp only [Bool.and_eq_true, decide_eq_true_eq, List.all_eq_true] at h
  obtain ⟨h1, h2, h3, h4⟩ := h
  refine ⟨h1, fun r hr => ?_, h3, h4⟩
  obtain ⟨q1, q2⟩ := h2 r hr
  exact ⟨by simpa [FIELDS] using q1, q2⟩
theorem okTable_mk {t : Table} (h1 : t.rows.length ≤ 8) (h2 : ∀ r ∈ t.rows, r.length = 3 ∧ ∀ v ∈ r, okValue v = true) (h3 : t.at_ ≤ t.rows.length) (h4 : okValue t.clip = true) : okTable t = true := by
  unfold okTable
  simp only [Bool.and_eq_true, decide_eq_true_eq, List.all_eq_true]
  exact ⟨h1, fun r hr => ⟨by rw [(h2 r hr).1]; rfl, (h2 r hr).2⟩, h3, h4⟩
/-! ### a table as numbers tells the table -/
theorem flatten_len {l : List (List Int)} (h : ∀ r ∈ l, r.length = 3) : l.flatten.length = 3 * l.length := by
  induction l with
  | nil => rfl
  | cons r l ih =>
    rw [List.flatten_cons, List.length_append, h r List.mem_cons_self, ih fun x hx => h x (List.mem_cons_of_mem _ hx), List.length_cons]
    omega
theorem flatten_inj : ∀ {l m : List (List Int)}, (∀ r ∈ l, r.length = 3) → (∀ r ∈ m, r.length = 3) → l.length = m.length → l.flatten = m.flatten → l = m
  | [], [], _, _, _, _ => rfl
  | [], _ :: _, _, _, e, _ => by cases e
  | _ :: _, [], _, _, e, _ => by cases e
  | r :: l, s :: m, h1, h2, e, f => by
    rw [List.flatten_cons, List.flatten_cons] at f
    have := List.append_inj f (by rw [h1 r List.mem_cons_self, h2 s List.mem_cons_self])
    rw [this.1, flatten_inj (fun x hx => h1 x (List.mem_cons_of_mem _ hx)) (fun x hx => h2 x (List.mem_cons_of_mem _ hx)) (Nat.succ.inj e) this.2]
theorem flatTable_inj {a b : Table} (ha : okTable a = true) (hb : okTable b = true) (h : flatTable a = flatTable b) : a = b := by
  obtain ⟨_, a2, _, _⟩ := okTable_parts ha
  obtain ⟨_, b2, _, _⟩ := okTable_parts hb
  obtain ⟨ra, ia, ca⟩ := a
  obtain ⟨rb, ib, cb⟩ := b
  unfold flatTable at h
  obtain ⟨h1, h2⟩ := List.cons.inj h
  have hl : ra.length = rb.length := by unfold int at h1; exact Int.ofNat.inj h1
  have f1 := flatten_len fun r hr => (a2 r hr).1
  have f2 := flatten_len fun r hr => (b2 r hr).1
  dsimp only at f1 f2 h2
  obtain ⟨h3, h4⟩ := List.append_inj h2 (by rw [f1, f2, hl])
  have hr := flatten_inj (fun r hr => (a2 r hr).1) (fun r hr => (b2 r hr).1) hl h3
  unfold int at h4
  simp only [List.cons.injEq, and_true] at h4
  obtain ⟨h5, h6⟩ := h4
  dsimp only at hr
  rw [hr, h6, Int.ofNat.inj h5]
theorem flatTable_len {t : Table} (h : okTable t = true) : (flatTable t).length ≤ 27 := by
  obtain ⟨h1, h2, _, _⟩ := okTable_parts h
  unfold flatTable
  rw [List.length_cons, List.length_append, flatten_len fun r hr => (h2 r hr).1]
  show 3 * _ + 2 + 1 ≤ 27
  omega
/-! ### a deed done: its code, the table then -/
def codeOf (t : Table) : Got Table → Int × Table
  | .ok t' => (0, t')
  | .error f => (faultNumber f, t)
/-- the field of a deed is one -/
def okFld : Deed → Bool
  | .write f _ => okField f
  | .add f _ => okField f
  | .find f _ => okField f
  | .copy f => okField f
  | .paste f => okField f
  | _ => true
theorem okFld_of {d : Deed} (h : okDeed d = true) : okFld d = true := by
  cases d <;> simp only [okDeed, Bool.and_eq_true] at h <;> first | exact h.1 | exact h | rfl
theorem okFld_with (v : Int) (d : Deed) : okFld (withNumber v d) = okFld d := by cases d <;> rfl
theorem kind_with (v : Int) (d : Deed) : kindOf (withNumber v d) = kindOf d := by cases d <;> rfl
theorem field_with (v : Int) (d : Deed) : fieldOf (withNumber v d) = fieldOf d := by cases d <;> rfl
theorem isEnd_true {t : Table} (h : t.rows.length ≤ t.at_) : isEnd t = true := decide_eq_true h
theorem isEnd_false {t : Table} (h : t.at_ < t.rows.length) : isEnd t = false := decide_eq_false (Nat.not_le.mpr h)
theorem here_some {t : Table} {f : Nat} {r : Row} (h : t.rows[t.at_]? = some r) (hf : f < r.length) : here t f = some r[f] := by
  unfold here
  rw [h]
  exact List.getElem?_eq_getElem hf
theorem setHere_some {t : Table} {f : Nat} {v : Int} {r : Row} (h : t.rows[t.at_]? = some r) : setHere t f v = { t with rows := t.rows.set t.at_ (r.set f v) } := by
  unfold setHere
  rw [h]
theorem okValue_iff {v : Int} : okValue v = true ↔ -999 ≤ v ∧ v ≤ 999 := by
  unfold okValue VALUE
  rw [Bool.and_eq_true, decide_eq_true_eq, decide_eq_true_eq]
  omega
theorem ok_set {t : Table} {r : Row} {f : Nat} {v : Int} (h : okTable t = true) (hr : t.rows[t.at_]? = some r) (hv : okValue v = true) : okTable { t with rows := t.rows.set t.at_ (r.set f v) } = true := by
  obtain ⟨h1, h2, h3, h4⟩ := okTable_parts h
  refine okTable_mk (by rw [List.length_set]; exact h1) (fun s hs => ?_) (by rw [List.length_set]; exact h3) h4
  rcases List.mem_or_eq_of_mem_set hs with hs | rfl
  · exact h2 s hs
  · obtain ⟨q1, q2⟩ := h2 r (List.mem_of_getElem? hr)
    refine ⟨by rw [List.length_set]; exact q1, fun w hw => ?_⟩
    rcases List.mem_or_eq_of_mem_set hw with hw | rfl
    · exact q2 w hw
    · exact hv
theorem ok_written {t t' : Table} {f : Nat} {v : Int} (h : okTable t = true) (e : written t f v = .ok t') : okTable t' = true := by
  unfold written at e
  split at e
  · cases e
  · rename_i c
    split at e
    · rename_i hv
      cases e
      have hlt : t.at_ < t.rows.length := by
        unfold isEnd at c
        rw [decide_eq_true_eq] at c
        omega
      rw [setHere_some (List.getElem?_eq_getElem hlt)]
      exact ok_set h (List.getElem?_eq_getElem hlt) hv
    · cases e
theorem ok_doneBy {t t' : Table} (d : Deed) (h : okTable t = true) (e : doneBy t d = .ok t') : okTable t' = true := by
  obtain ⟨h1, h2, h3, h4⟩ := okTable_parts h
  cases d with
  | down =>
    simp only [doneBy] at e
    split at e
    · cases e
    · rename_i c
      cases e
      unfold isEnd at c
      rw [decide_eq_true_eq] at c
      exact okTable_mk h1 h2 (by show t.at_ + 1 ≤ t.rows.length; omega) h4
  | up =>
    simp only [doneBy] at e
    split at e
    · cases e
    · cases e
      exact okTable_mk h1 h2 (by show t.at_ - 1 ≤ t.rows.length; omega) h4
  | top =>
    simp only [doneBy] at e
    cases e
    exact okTable_mk h1 h2 (Nat.zero_le _) h4
  | write f v => exact ok_written h e
  | add f v => exact ok_written h e
  | paste f => exact ok_written h e
  | copy f =>
    simp only [doneBy] at e
    split at e
    · cases e
    · rename_i v hv
      cases e
      refine okTable_mk h1 h2 h3 ?_
      unfold here at hv
      rw [bind_some_iff] at hv
      obtain ⟨r, hr, hv⟩ := hv
      exact (h2 r (List.mem_of_getElem? hr)).2 v (List.mem_of_getElem? hv)
  | delete =>
    simp only [doneBy] at e
    split at e
    · cases e
    · rename_i c
      cases e
      unfold isEnd at c
      rw [decide_eq_true_eq] at c
      have hl := List.length_eraseIdx_of_lt (l := t.rows) (i := t.at_) (by omega)
      refine okTable_mk (by show (t.rows.eraseIdx t.at_).length ≤ 8; omega) (fun r hr => h2 r (List.mem_of_mem_eraseIdx hr)) (by show t.at_ ≤ (t.rows.eraseIdx t.at_).length; omega) h4
  | double =>
    simp only [doneBy] at e
    split at e
    · cases e
    · rename_i c
      split at e
      · cases e
      · rename_i c8
        cases e
        unfold ROWS at c8
        unfold isEnd at c
        rw [decide_eq_true_eq] at c
        have hl : (t.rows.take (t.at_ + 1) ++ t.rows.drop t.at_).length = t.rows.length + 1 := by
          rw [List.length_append, List.length_take, List.length_drop]
          omega
        refine okTable_mk (by show (t.rows.take (t.at_ + 1) ++ t.rows.drop t.at_).length ≤ 8; omega) (fun r hr => ?_) (by show t.at_ ≤ (t.rows.take (t.at_ + 1) ++ t.rows.drop t.at_).length; omega) h4
        rcases List.mem_append.mp hr with hr | hr
        · exact h2 r (List.mem_of_mem_take hr)
        · exact h2 r (List.mem_of_mem_drop hr)
  | find f v =>
    simp only [doneBy] at e
    split at e
    · cases e
    · rename_i i hi
      cases e
      have := List.mem_range.mp (List.mem_of_find?_eq_some hi)
      exact okTable_mk h1 h2 (Nat.le_of_lt this) h4
theorem ok_codeOf {t : Table} (d : Deed) (h : okTable t = true) : okTable (codeOf t (doneBy t d)).2 = true := by
  cases e : doneBy t d with
  | ok t' => exact ok_doneBy d h e
  | error f => exact h
/-- find, by the first place further down -/
def hits (t : Table) (f : Nat) (v : Int) (i : Nat) : Bool := decide (t.at_ < i) && ((t.rows[i]?).any fun r => r[f]? == some v)
theorem find_hit {t : Table} {f : Nat} {v : Int} {i : Nat} (hi : i < t.rows.length) (h : hits t f v i = true) (n : ∀ j, j < i → hits t f v j = false) : doneBy t (.find f v) = .ok { t with at_ := i } := by
  have e : (List.range t.rows.length).find? (hits t f v) = some i := by
    rw [List.find?_eq_some_iff_append]
    refine ⟨h, List.range i, List.range' (i + 1) (t.rows.length - (i + 1)), ?_, fun j hj => by rw [n j (List.mem_range.mp hj)]; rfl⟩
    rw [List.range_eq_range', List.range_eq_range']
    have : i :: List.range' (i + 1) (t.rows.length - (i + 1)) = List.range' i (t.rows.length - i) := by
      rw [show t.rows.length - i = (t.rows.length - (i + 1)) + 1 by omega, List.range'_succ]
    rw [this]
    have h2 := List.range'_append (s := 0) (m := i) (n := t.rows.length - i) (step := 1)
    rw [Nat.one_mul, Nat.zero_add, show i + (t.rows.length - i) = t.rows.length by omega] at h2
    exact h2.symm
  show (match (List.range t.rows.length).find? (hits t f v) with | none => _ | some i => _) = _
  rw [e]
theorem find_miss {t : Table} {f : Nat} {v : Int} (n : ∀ j, j < t.rows.length → hits t f v j = false) : doneBy t (.find f v) = .error .missing := by
  have e : (List.range t.rows.length).find? (hits t f v) = none := by
    rw [List.find?_eq_none]
    intro j hj
    rw [n j (List.mem_range.mp hj)]
    decide
  show (match (List.range t.rows.length).find? (hits t f v) with | none => _ | some i => _) = _
  rw [e]
theorem hits_low {t : Table} {f : Nat} {v : Int} {j : Nat} (h : j ≤ t.at_) : hits t f v j = false := by
  unfold hits
  rw [decide_eq_false (by omega)]
  rfl
theorem hits_at {t : Table} {f : Nat} {v : Int} {j : Nat} {r : Row} (h : t.at_ < j) (hr : t.rows[j]? = some r) (hf : f < r.length) : hits t f v j = decide (r[f] = v) := by
  unfold hits
  rw [decide_eq_true h, hr]
  show (r[f]? == some v) = _
  rw [List.getElem?_eq_getElem hf]
  by_cases c : r[f] = v
  · rw [c]; simp
  · rw [decide_eq_false c]
    simpa using c
end My
/-! Runs: piece by piece, as the program does them. -/
namespace My
open VamacBase
/-- one piece done in the round i -/
def runPc (x : Pc) (i : Nat) (r : Run) : Run := match x.1 with
  | .deed d s => doDeed r (withNumber (numberOf d + s * (i : Int)) d)
  | .times n => rounds (runFrom x.2) n 0 r
  | .toEnd => toEndRounds (runFrom x.2) DEEDS 0 r
  | .when f v => if r.bad.isNone && here r.table f == some v then runFrom x.2 i r else r
theorem runFrom_rowL : ∀ (p : Prog) (i : Nat) (r : Run), runFrom p i r = (rowL p).foldl (fun r x => runPc x i r) r
  | .done, i, r => rfl
  | .deed d s q, i, r => runFrom_rowL q i _
  | .times n b q, i, r => runFrom_rowL q i _
  | .toEnd b q, i, r => runFrom_rowL q i _
  | .when f v b q, i, r => runFrom_rowL q i _
/-! ### a run that went wrong stays as it is -/
theorem doDeed_bad {r : Run} {d : Deed} (h : r.bad.isSome = true) : doDeed r d = r := by
  unfold doDeed
  rw [if_pos h]
theorem rounds_bad {body : Nat → Run → Run} {r : Run} (h : ∀ i, body i r = r) : ∀ n i, rounds body n i r = r
  | 0, _ => rfl
  | n + 1, i => by
    show rounds body n (i + 1) (body i r) = r
    rw [h, rounds_bad h n]
theorem toEnd_bad {body : Nat → Run → Run} {r : Run} (h : r.bad.isSome = true) : ∀ n i, toEndRounds body n i r = r
  | 0, _ => by
    unfold toEndRounds
    rw [h]
    rfl
  | n + 1, _ => by
    unfold toEndRounds
    rw [h]
    rfl
theorem runFrom_bad : ∀ (p : Prog) (i : Nat) (r : Run), r.bad.isSome = true → runFrom p i r = r
  | .done, _, _, _ => rfl
  | .deed d s q, i, r, h => by
    show runFrom q i (doDeed r _) = r
    rw [doDeed_bad h, runFrom_bad q i r h]
  | .times n b q, i, r, h => by
    show runFrom q i (rounds (runFrom b) n 0 r) = r
    rw [rounds_bad (fun j => runFrom_bad b j r h), runFrom_bad q i r h]
  | .toEnd b q, i, r, h => by
    show runFrom q i (toEndRounds (runFrom b) DEEDS 0 r) = r
    rw [toEnd_bad h, runFrom_bad q i r h]
  | .when f v b q, i, r, h => by
    show runFrom q i (if r.bad.isNone && here r.table f == some v then runFrom b i r else r) = r
    have : r.bad.isNone = false := by
      cases e : r.bad with
      | none => rw [e] at h; cases h
      | some _ => rfl
    rw [this]
    exact runFrom_bad q i r h
theorem runPc_bad (x : Pc) (i : Nat) (r : Run) (h : r.bad.isSome = true) : runPc x i r = r := by
  obtain ⟨hd, b⟩ := x
  cases hd with
  | deed d s => exact doDeed_bad h
  | times n => exact rounds_bad (fun j => runFrom_bad b j r h) n 0
  | toEnd => exact toEnd_bad h DEEDS 0
  | when f v =>
    show (if r.bad.isNone && here r.table f == some v then runFrom b i r else r) = r
    have : r.bad.isNone = false := by
      cases e : r.bad with
      | none => rw [e] at h; cases h
      | some _ => rfl
    rw [this]
    rfl
theorem foldl_bad (i : Nat) : ∀ (l : List Pc) (r : Run), r.bad.isSome = true → l.foldl (fun r x => runPc x i r) r = r
  | [], _, _ => rfl
  | x :: l, r, h => by
    rw [List.foldl_cons, runPc_bad x i r h, foldl_bad i l r h]
/-- so many pieces done, the rest not looked at, as the run went wrong -/
theorem row_stop {p : Prog} {i k : Nat} {r r' : Run} (h : ((rowL p).take k).foldl (fun r x => runPc x i r) r = r') (hb : r'.bad.isSome = true) : runFrom p i r = r' := by
  rw [runFrom_rowL, ← List.take_append_drop k (rowL p), List.foldl_append, h, foldl_bad i _ _ hb]
theorem row_step {p : Prog} {i k : Nat} {x : Pc} {r : Run} (h : (rowL p)[k]? = some x) : ((rowL p).take (k + 1)).foldl (fun r x => runPc x i r) r = runPc x i (((rowL p).take k).foldl (fun r x => runPc x i r) r) := by
  rw [List.take_add_one, h, List.foldl_append]
  rfl
theorem row_all {p : Prog} {i : Nat} {r : Run} : ((rowL p).take (rowL p).length).foldl (fun r x => runPc x i r) r = runFrom p i r := by
  rw [List.take_length, runFrom_rowL]
/-! ### rounds -/
/-- so many rounds from the i-th on, of which the first is done -/
theorem rounds_all {body : Nat → Run → Run} {r r' : Run} {n k : Nat} (h : rounds body k 0 r = r') (hk : k ≤ n) (hb : ∀ i, body i r' = r') : rounds body n 0 r = r' := by
  have add : ∀ (a b i : Nat) (r : Run), rounds body (a + b) i r = rounds body b (i + a) (rounds body a i r) := by
    intro a
    induction a with
    | zero => intro b i r; rw [Nat.zero_add]; rfl
    | succ a ih =>
      intro b i r
      rw [show a + 1 + b = (a + b) + 1 by omega]
      show rounds body (a + b) (i + 1) (body i r) = rounds body b (i + (a + 1)) (rounds body a (i + 1) (body i r))
      rw [ih, show i + 1 + a = i + (a + 1) by omega]
  rw [show n = k + (n - k) by omega, add, h]
  exact rounds_bad hb _ _
theorem rounds_succ {body : Nat → Run → Run} : ∀ (k i : Nat) (r : Run), rounds body (k + 1) i r = body (i + k) (rounds body k i r)
  | 0, i, r => rfl
  | k + 1, i, r => by
    show rounds body (k + 1) (i + 1) (body i r) = body (i + (k + 1)) (rounds body k (i + 1) (body i r))
    rw [rounds_succ k (i + 1) (body i r), show i + 1 + k = i + (k + 1) by omega]
/-- a loop to the end, so many rounds of which are done: what is left of it -/
theorem toEnd_zero {body : Nat → Run → Run} {i : Nat} {r : Run} (h : r.bad = none) : toEndRounds body 0 i r = if isEnd r.table then r else { r with bad := some .long } := by
  unfold toEndRounds
  rw [h]
  rfl
theorem toEnd_end {body : Nat → Run → Run} {n i : Nat} {r : Run} (h : isEnd r.table = true) : toEndRounds body n i r = r := by
  cases n <;> (unfold toEndRounds; rw [h, Bool.or_true]; rfl)
theorem toEnd_succ {body : Nat → Run → Run} {n i : Nat} {r : Run} (h : r.bad = none) (he : isEnd r.table = false) : toEndRounds body (n + 1) i r = toEndRounds body n (i + 1) (body i r) := by
  show (if r.bad.isSome || isEnd r.table then r else _) = _
  rw [h, he]
  rfl
/-! ### what stays true of a run -/
structure OkRun (r : Run) : Prop where
  t : okTable r.table = true
  n : r.trace.length ≤ 60
theorem ok_doDeed {r : Run} {d : Deed} (h : OkRun r) : OkRun (doDeed r d) := by
  unfold doDeed
  split
  · exact h
  · split
    · exact ⟨h.t, h.n⟩
    · rename_i c
      unfold DEEDS at c
      split
      · exact ⟨h.t, h.n⟩
      · rename_i t' e
        refine ⟨ok_doneBy d h.t e, ?_⟩
        show (r.trace ++ [d]).length ≤ 60
        rw [List.length_append]
        show _ + 1 ≤ 60
        omega
/-- the codes of what goes wrong are not 0 -/
theorem badNumber_zero {b : Option Bad} : badNumber b = 0 ↔ b = none := by
  cases b with
  | none => exact ⟨fun _ => rfl, fun _ => rfl⟩
  | some b =>
    refine ⟨fun h => ?_, fun h => by cases h⟩
    cases b with
    | long => cases h
    | fault f => cases f <;> cases h
/-- a deed done in a run that is well: by its code -/
theorem doDeed_go {r : Run} {d : Deed} (h : r.bad = none) (hn : r.trace.length < 60) :
    (doDeed r d).table = (codeOf r.table (doneBy r.table d)).2 ∧ badNumber (doDeed r d).bad = (codeOf r.table (doneBy r.table d)).1 ∧ (doDeed r d).trace.length = (if (codeOf r.table (doneBy r.table d)).1 = 0 then r.trace.length + 1 else r.trace.length) := by
  unfold doDeed
  rw [h]
  rw [if_neg (by decide), if_neg (by unfold DEEDS; omega)]
  cases e : doneBy r.table d with
  | ok t' =>
    refine ⟨rfl, rfl, ?_⟩
    show (r.trace ++ [d]).length = if (0 : Int) = 0 then r.trace.length + 1 else _
    rw [if_pos rfl, List.length_append]
    rfl
  | error f =>
    refine ⟨rfl, rfl, ?_⟩
    show r.trace.length = if faultNumber f = 0 then _ else _
    rw [if_neg (by cases f <;> decide)]
theorem doDeed_long {r : Run} {d : Deed} (h : r.bad = none) (hn : r.trace.length = 60) : doDeed r d = { r with bad := some .long } := by
  unfold doDeed
  rw [h]
  rw [if_neg (by decide), if_pos (by unfold DEEDS; omega)]
/-! ### recordings as programs -/
theorem rowL_plain : ∀ l : List Deed, rowL (plain l) = l.map fun d => ((.deed d 0, .done) : Pc)
  | [] => rfl
  | d :: l => congrArg (_ :: ·) (rowL_plain l)
theorem depth_plain : ∀ l : List Deed, (plain l).depth = 0
  | [] => rfl
  | d :: l => depth_plain l
/-! ### what a run asks of a program: its fields, its rounds -/
def okR : Prog → Bool
  | .done => true
  | .deed d _ r => okFld d && okR r
  | .times n b r => decide (n ≤ 9) && (okR b && okR r)
  | .toEnd b r => okR b && okR r
  | .when f _ b r => okField f && (okR b && okR r)
def okRc (x : Pc) : Bool := match x.1 with
  | .deed d _ => okFld d
  | .times n => decide (n ≤ 9)
  | .toEnd => true
  | .when f _ => okField f
theorem okR_rowL : ∀ p : Prog, okR p = true → ∀ x ∈ rowL p, okRc x = true ∧ okR x.2 = true
  | .done, _, x, h => by cases h
  | .deed d s r, o, x, h => by
    simp only [okR, Bool.and_eq_true] at o
    rcases List.mem_cons.mp h with rfl | h
    · exact ⟨o.1, rfl⟩
    · exact okR_rowL r o.2 x h
  | .times n b r, o, x, h => by
    simp only [okR, Bool.and_eq_true] at o
    rcases List.mem_cons.mp h with rfl | h
    · exact ⟨o.1, o.2.1⟩
    · exact okR_rowL r o.2.2 x h
  | .toEnd b r, o, x, h => by
    simp only [okR, Bool.and_eq_true] at o
    rcases List.mem_cons.mp h with rfl | h
    · exact ⟨rfl, o.1⟩
    · exact okR_rowL r o.2 x h
  | .when f v b r, o, x, h => by
    simp only [okR, Bool.and_eq_true] at o
    rcases List.mem_cons.mp h with rfl | h
    · exact ⟨o.1, o.2.1⟩
    · exact okR_rowL r o.2.2 x h
theorem okR_of : ∀ p : Prog, okPieces p = true → okR p = true
  | .done, _ => rfl
  | .deed d s r, o => by
    simp only [okPieces, Bool.and_eq_true] at o
    simp only [okR, okFld_of o.1, okR_of r o.2.2.2, Bool.and_self]
  | .times n b r, o => by
    simp only [okPieces, Bool.and_eq_true] at o
    simp only [okR, okR_of b o.2.2.1, okR_of r o.2.2.2, Bool.and_self, Bool.and_true]
    exact o.2.1
  | .toEnd b r, o => by
    simp only [okPieces, Bool.and_eq_true] at o
    simp only [okR, okR_of b o.1, okR_of r o.2, Bool.and_self]
  | .when f v b r, o => by
    simp only [okPieces, Bool.and_eq_true] at o
    simp only [okR, o.1, okR_of b o.2.2.1, okR_of r o.2.2.2, Bool.and_self]
theorem okR_plain : ∀ l : List Deed, (∀ d ∈ l, okFld d = true) → okR (plain l) = true
  | [], _ => rfl
  | d :: l, h => by
    show (okFld d && okR (plain l)) = true
    rw [h d List.mem_cons_self, okR_plain l fun x hx => h x (List.mem_cons_of_mem _ hx)]
    rfl
end My
/-! Slips: by the deeds' numbers; the first pair; a recording cleaned. -/
namespace My
open VamacBase Vamacf
def pairK (a b : Deed) : Int × Int := (kindOf a, kindOf b)
theorem slip_gone {a b : Deed} (h : pairK a b ∈ ([(0, 1), (1, 0), (8, 7)] : List (Int × Int))) : slip a b = some [] := by
  cases a <;> cases b <;> first | rfl | (simp [pairK, kindOf] at h; done)
theorem slip_second {a b : Deed} (h : pairK a b ∈ ([(0, 2), (1, 2), (9, 2), (2, 2), (5, 5)] : List (Int × Int))) : slip a b = some [b] := by
  cases a <;> cases b <;> first | rfl | (simp [pairK, kindOf] at h; done)
/-- of one field -/
def slipF (a b : Deed) : Option (List Deed) :=
  if kindOf b ∈ ([3, 6] : List Int) then some [b] else if kindOf a = 6 then none else if kindOf a = 4 ∧ numberOf a + numberOf b = 0 then some [] else some [deedOf (kindOf a) (fieldOf a) (numberOf a + numberOf b)]
theorem slip_field {a b : Deed} (ha : kindOf a ∈ ([3, 4, 6] : List Int)) (hb : kindOf b ∈ ([3, 4, 6] : List Int)) (hf : fieldOf a = fieldOf b) : slip a b = slipF a b := by
  cases a <;> cases b <;> first
    | (simp [kindOf] at ha; done)
    | (simp [kindOf] at hb; done)
    | (simp only [fieldOf] at hf; subst hf; simp [slip, slipF, kindOf, numberOf, fieldOf, deedOf]; done)
    | (simp only [fieldOf] at hf; subst hf; simp only [slip, slipF, kindOf, numberOf, fieldOf, deedOf]; simp; split <;> rfl)
theorem slip_none {a b : Deed} (h1 : ¬ pairK a b ∈ ([(0, 1), (1, 0), (8, 7)] : List (Int × Int))) (h2 : ¬ pairK a b ∈ ([(0, 2), (1, 2), (9, 2), (2, 2), (5, 5)] : List (Int × Int)))
    (h3 : ¬ (kindOf a ∈ ([3, 4, 6] : List Int) ∧ kindOf b ∈ ([3, 4, 6] : List Int) ∧ fieldOf a = fieldOf b)) : slip a b = none := by
  cases a <;> cases b <;> first
    | rfl
    | (simp [pairK, kindOf] at h1; done)
    | (simp [pairK, kindOf] at h2; done)
    | (simp only [slip]; rw [if_neg]; intro z; exact h3 ⟨by simp [kindOf], by simp [kindOf], z⟩)
/-! ### the first two that become fewer -/
theorem cleaner_none : ∀ (l : List Deed), (∀ i a b, l[i]? = some a → l[i + 1]? = some b → slip a b = none) → cleaner l = none
  | [], _ => rfl
  | [_], _ => rfl
  | a :: b :: l, h => by
    show (match slip a b with | some x => some (x ++ l) | none => (cleaner (b :: l)).map fun y => a :: y) = none
    rw [h 0 a b rfl rfl]
    show (cleaner (b :: l)).map _ = none
    rw [cleaner_none (b :: l) fun i x y e1 e2 => h (i + 1) x y e1 e2]
    rfl
theorem cleaner_at : ∀ (l : List Deed) (i : Nat) (a b : Deed) (x : List Deed), l[i]? = some a → l[i + 1]? = some b → slip a b = some x → (∀ j u v, j < i → l[j]? = some u → l[j + 1]? = some v → slip u v = none) → cleaner l = some (l.take i ++ x ++ l.drop (i + 2))
  | [], i, a, b, x, h, _, _, _ => by simp at h
  | [_], i, a, b, x, _, h, _, _ => by simp at h
  | u :: v :: l, 0, a, b, x, h1, h2, h3, _ => by
    cases h1
    cases h2
    show (match slip u v with | some x => some (x ++ l) | none => (cleaner (v :: l)).map fun y => u :: y) = _
    rw [h3]
    rfl
  | u :: v :: l, i + 1, a, b, x, h1, h2, h3, h4 => by
    show (match slip u v with | some x => some (x ++ l) | none => (cleaner (v :: l)).map fun y => u :: y) = _
    rw [h4 0 u v (Nat.succ_pos i) rfl rfl]
    show (cleaner (v :: l)).map _ = _
    rw [cleaner_at (v :: l) i a b x (by simpa using h1) (by simpa using h2) h3 fun j p q hj e1 e2 => h4 (j + 1) p q (Nat.succ_lt_succ hj) e1 e2]
    rfl
theorem slip_len {a b : Deed} {x : List Deed} (h : slip a b = some x) : x.length ≤ 1 := by
  by_cases h1 : pairK a b ∈ ([(0, 1), (1, 0), (8, 7)] : List (Int × Int))
  · rw [slip_gone h1] at h
    cases h
    exact Nat.zero_le _
  · by_cases h2 : pairK a b ∈ ([(0, 2), (1, 2), (9, 2), (2, 2), (5, 5)] : List (Int × Int))
    · rw [slip_second h2] at h
      cases h
      exact Nat.le_refl _
    · by_cases h3 : kindOf a ∈ ([3, 4, 6] : List Int) ∧ kindOf b ∈ ([3, 4, 6] : List Int) ∧ fieldOf a = fieldOf b
      · rw [slip_field h3.1 h3.2.1 h3.2.2] at h
        unfold slipF at h
        split at h
        · cases h
          exact Nat.le_refl _
        · split at h
          · cases h
          · split at h
            · cases h
              exact Nat.zero_le _
            · cases h
              exact Nat.le_refl _
      · rw [slip_none h1 h2 h3] at h
        cases h
theorem cleaner_len : ∀ (l m : List Deed), cleaner l = some m → m.length < l.length
  | [], m, h => by cases h
  | [_], m, h => by cases h
  | a :: b :: l, m, h => by
    have h' : (match slip a b with | some x => some (x ++ l) | none => (cleaner (b :: l)).map fun y => a :: y) = some m := h
    cases e : slip a b with
    | some x =>
      rw [e] at h'
      cases h'
      have := slip_len e
      rw [List.length_append, List.length_cons, List.length_cons]
      omega
    | none =>
      rw [e] at h'
      have h2 : (cleaner (b :: l)).map (fun y => a :: y) = some m := h'
      rw [map_some_iff] at h2
      obtain ⟨y, h3, rfl⟩ := h2
      have := cleaner_len (b :: l) y h3
      simp only [List.length_cons] at this ⊢
      omega
/-- fuel beyond the deeds is not used -/
theorem clean_two : ∀ (n k : Nat) (l : List Deed), l.length ≤ n → l.length ≤ k → Vamacf.clean n l = Vamacf.clean k l
  | 0, k, [], _, _ => by cases k <;> rfl
  | 0, k, a :: l, h, _ => by simp at h
  | n + 1, k, [], _, _ => by cases k <;> rfl
  | n + 1, 0, a :: l, _, h => by simp at h
  | n + 1, k + 1, a :: l, h, h' => by
    show (match cleaner (a :: l) with | none => a :: l | some m => Vamacf.clean n m) = (match cleaner (a :: l) with | none => a :: l | some m => Vamacf.clean k m)
    cases e : cleaner (a :: l) with
    | none => rfl
    | some m =>
      have hm := cleaner_len _ _ e
      simp only [List.length_cons] at hm h h'
      exact clean_two n k m (by omega) (by omega)
theorem clean_fuel (n : Nat) (l : List Deed) (h : l.length ≤ n) : Vamacf.clean n l = Vamacf.clean l.length l := clean_two n l.length l h (Nat.le_refl _)
theorem clean_step {l m : List Deed} (h : cleaner l = some m) : Vamacf.clean l.length l = Vamacf.clean m.length m := by
  cases l with
  | nil => cases h
  | cons a l =>
    show (match cleaner (a :: l) with | none => a :: l | some m => Vamacf.clean l.length m) = _
    rw [h]
    have := cleaner_len _ _ h
    rw [List.length_cons] at this
    exact clean_fuel _ _ (by omega)
theorem clean_stop {l : List Deed} (h : cleaner l = none) : Vamacf.clean l.length l = l := by
  cases l with
  | nil => rfl
  | cons a l =>
    show (match cleaner (a :: l) with | none => a :: l | some m => Vamacf.clean l.length m) = _
    rw [h]
theorem clean_len : ∀ (n : Nat) (l : List Deed), (Vamacf.clean n l).length ≤ l.length
  | 0, l => Nat.le_refl _
  | n + 1, l => by
    show (match cleaner l with | none => l | some m => Vamacf.clean n m).length ≤ _
    cases e : cleaner l with
    | none => exact Nat.le_refl _
    | some m =>
      have := cleaner_len l m e
      have := clean_len n m
      show (Vamacf.clean n m).length ≤ _
      omega
/-- fields stay fields -/
theorem slip_fld {a b : Deed} {x : List Deed} (h : slip a b = some x) (ha : okFld a = true) (hb : okFld b = true) : ∀ d ∈ x, okFld d = true := by
  cases a <;> cases b <;> simp only [slip] at h <;> (first
    | (cases h; done)
    | (injection h with h; subst h; intro d hd; simp at hd; done)
    | (injection h with h; subst h; intro d hd; rw [List.mem_singleton.mp hd]; first | exact hb | exact ha)
    | (split at h
       · (first
          | (injection h with h; subst h; intro d hd; rw [List.mem_singleton.mp hd]; first | exact hb | exact ha)
          | (injection h with h; subst h; intro d hd; split at hd
             · simp at hd
             · rw [List.mem_singleton.mp hd]; exact ha))
       · cases h))
theorem cleaner_fld : ∀ (l m : List Deed), cleaner l = some m → (∀ d ∈ l, okFld d = true) → ∀ d ∈ m, okFld d = true
  | [], m, h, _ => by cases h
  | [_], m, h, _ => by cases h
  | a :: b :: l, m, h, k => by
    have h' : (match slip a b with | some x => some (x ++ l) | none => (cleaner (b :: l)).map fun y => a :: y) = some m := h
    cases e : slip a b with
    | some x =>
      rw [e] at h'
      cases h'
      intro d hd
      rcases List.mem_append.mp hd with hd | hd
      · exact slip_fld e (k a List.mem_cons_self) (k b (List.mem_cons_of_mem _ List.mem_cons_self)) d hd
      · exact k d (List.mem_cons_of_mem _ (List.mem_cons_of_mem _ hd))
    | none =>
      rw [e] at h'
      have h2 : (cleaner (b :: l)).map (fun y => a :: y) = some m := h'
      rw [map_some_iff] at h2
      obtain ⟨y, h3, rfl⟩ := h2
      intro d hd
      rcases List.mem_cons.mp hd with rfl | hd
      · exact k _ List.mem_cons_self
      · exact cleaner_fld (b :: l) y h3 (fun x hx => k x (List.mem_cons_of_mem _ hx)) d hd
theorem clean_fld : ∀ (n : Nat) (l : List Deed), (∀ d ∈ l, okFld d = true) → ∀ d ∈ Vamacf.clean n l, okFld d = true
  | 0, l, h => h
  | n + 1, l, h => by
    show ∀ d ∈ (match cleaner l with | none => l | some m => Vamacf.clean n m), okFld d = true
    cases e : cleaner l with
    | none => exact h
    | some m => exact clean_fld n m (cleaner_fld l m e h)
/-! ### recordings read -/
theorem readDeeds_fld {x y : List Int} {n : Nat} {l : List Deed} (h : readTimes readDeed n x = some (l, y)) : ∀ d ∈ l, okFld d = true := readTimes_all (p := fun d => okFld d = true) (fun x u y e => okFld_of (readDeed_some e).2) h
theorem readDeeds_parts {x : List Int} {l : List Deed} (h : readDeeds x = some l) : l.length ≤ 20 ∧ ∀ d ∈ l, okFld d = true := by
  unfold readDeeds whole at h
  split at h
  · rename_i u e
    cases h
    unfold readListed at e
    rw [bind_some_iff] at e
    obtain ⟨⟨k, z⟩, e1, e2⟩ := e
    obtain ⟨_, _, h3⟩ := readNat_some e1
    rw [readTimes_len e2]
    exact ⟨h3, readDeeds_fld e2⟩
  · cases h
/-! ### numbers of deeds -/
theorem flatDeed_len (d : Deed) : (flatDeed d).length ≤ 3 := by cases d <;> simp [flatDeed]
theorem flatDeed_eq (d : Deed) : flatDeed d = kindOf d :: ((if kindOf d ∈ ([3, 4, 5, 6, 9] : List Int) then [((fieldOf d : Nat) : Int)] else []) ++ (if kindOf d ∈ ([3, 4, 9] : List Int) then [numberOf d] else [])) := by
  cases d <;> simp [flatDeed, kindOf, fieldOf, numberOf, VamacBase.int]
theorem flat_len (l : List Deed) : (l.flatMap flatDeed).length ≤ 3 * l.length := by
  induction l with
  | nil => exact Nat.le_refl _
  | cons d l ih =>
    rw [List.flatMap_cons, List.length_append, List.length_cons]
    have := flatDeed_len d
    omega
end My
/-! Programs joined: read back from their numbers; surely ending, by the first loose loop; places that changed. -/
namespace My
open VamacBase Vamacf
theorem surely_loose : ∀ (p : Prog) (n : Nat), surely p = (loose n p).isNone
  | .done, _ => rfl
  | .deed d s r, n => surely_loose r (n + 1)
  | .times m b r, n => by
    show (surely b && surely r) = (match loose (n + 1) b with | some k => some k | none => loose (n + 1 + b.size) r).isNone
    rw [surely_loose b (n + 1), surely_loose r (n + 1 + b.size)]
    cases loose (n + 1) b <;> rfl
  | .toEnd b r, n => by
    show (nearer b && (surely b && surely r)) = (if nearer b then (match loose (n + 1) b with | some k => some k | none => loose (n + 1 + b.size) r) else some n).isNone
    rw [surely_loose b (n + 1), surely_loose r (n + 1 + b.size)]
    cases nearer b with
    | false => rfl
    | true =>
      rw [if_pos rfl]
      cases loose (n + 1) b <;> rfl
  | .when f v b r, n => by
    show (surely b && surely r) = (match loose (n + 1) b with | some k => some k | none => loose (n + 1 + b.size) r).isNone
    rw [surely_loose b (n + 1), surely_loose r (n + 1 + b.size)]
    cases loose (n + 1) b <;> rfl
/-! ### one program behind another -/
theorem row_andThen : ∀ p q : Prog, (p.andThen q).row = p.row + q.row
  | .done, q => by show q.row = 0 + q.row; omega
  | .deed d s r, q => by show (r.andThen q).row + 1 = r.row + 1 + q.row; rw [row_andThen r q]; omega
  | .times m b r, q => by show (r.andThen q).row + 1 = r.row + 1 + q.row; rw [row_andThen r q]; omega
  | .toEnd b r, q => by show (r.andThen q).row + 1 = r.row + 1 + q.row; rw [row_andThen r q]; omega
  | .when f v b r, q => by show (r.andThen q).row + 1 = r.row + 1 + q.row; rw [row_andThen r q]; omega
theorem flat_andThen : ∀ p q : Prog, flatPieces (p.andThen q) = flatPieces p ++ flatPieces q
  | .done, q => rfl
  | .deed d s r, q => by simp only [Prog.andThen, flatPieces, flat_andThen r q, List.cons_append, List.append_assoc]
  | .times m b r, q => by simp only [Prog.andThen, flatPieces, flat_andThen r q, List.cons_append, List.append_assoc]
  | .toEnd b r, q => by simp only [Prog.andThen, flatPieces, flat_andThen r q, List.cons_append, List.append_assoc]
  | .when f v b r, q => by simp only [Prog.andThen, flatPieces, flat_andThen r q, List.cons_append, List.append_assoc]
theorem okPieces_andThen : ∀ p q : Prog, okPieces p = true → okPieces q = true → okPieces (p.andThen q) = true
  | .done, q, _, h => h
  | .deed d s r, q, h, k => by
    simp only [okPieces, Bool.and_eq_true] at h
    simp only [Prog.andThen, okPieces, h.1, h.2.1, h.2.2.1, okPieces_andThen r q h.2.2.2 k, Bool.and_self]
  | .times m b r, q, h, k => by
    simp only [okPieces, Bool.and_eq_true] at h
    simp only [Prog.andThen, okPieces, h.1, h.2.1, h.2.2.1, okPieces_andThen r q h.2.2.2 k, Bool.and_self]
  | .toEnd b r, q, h, k => by
    simp only [okPieces, Bool.and_eq_true] at h
    simp only [Prog.andThen, okPieces, h.1, okPieces_andThen r q h.2 k, Bool.and_self]
  | .when f v b r, q, h, k => by
    simp only [okPieces, Bool.and_eq_true] at h
    simp only [Prog.andThen, okPieces, h.1, h.2.1, h.2.2.1, okPieces_andThen r q h.2.2.2 k, Bool.and_self]
/-- no inner row of more than 16 pieces -/
def narrow : Prog → Bool
  | .done => true
  | .deed _ _ r => narrow r
  | .times _ b r => decide (b.row ≤ 16) && (narrow b && narrow r)
  | .toEnd b r => decide (b.row ≤ 16) && (narrow b && narrow r)
  | .when _ _ b r => decide (b.row ≤ 16) && (narrow b && narrow r)
theorem narrow_andThen : ∀ p q : Prog, narrow p = true → narrow q = true → narrow (p.andThen q) = true
  | .done, q, _, h => h
  | .deed d s r, q, h, k => narrow_andThen r q h k
  | .times m b r, q, h, k => by
    simp only [narrow, Bool.and_eq_true] at h
    simp only [Prog.andThen, narrow, h.1, h.2.1, narrow_andThen r q h.2.2 k, Bool.and_self]
  | .toEnd b r, q, h, k => by
    simp only [narrow, Bool.and_eq_true] at h
    simp only [Prog.andThen, narrow, h.1, h.2.1, narrow_andThen r q h.2.2 k, Bool.and_self]
  | .when f v b r, q, h, k => by
    simp only [narrow, Bool.and_eq_true] at h
    simp only [Prog.andThen, narrow, h.1, h.2.1, narrow_andThen r q h.2.2 k, Bool.and_self]
theorem row_size : ∀ p : Prog, p.row ≤ p.size
  | .done => Nat.le_refl _
  | .deed d s r => by have := row_size r; simp only [Prog.row, Prog.size]; omega
  | .times m b r => by have := row_size r; simp only [Prog.row, Prog.size]; omega
  | .toEnd b r => by have := row_size r; simp only [Prog.row, Prog.size]; omega
  | .when f v b r => by have := row_size r; simp only [Prog.row, Prog.size]; omega
theorem narrow_of : ∀ p : Prog, p.size ≤ 17 → narrow p = true
  | .done, _ => rfl
  | .deed d s r, h => narrow_of r (by simp only [Prog.size] at h; omega)
  | .times m b r, h => by
    simp only [Prog.size] at h
    have := row_size b
    simp only [narrow, narrow_of b (by omega), narrow_of r (by omega), decide_eq_true (show b.row ≤ 16 by omega), Bool.and_self]
  | .toEnd b r, h => by
    simp only [Prog.size] at h
    have := row_size b
    simp only [narrow, narrow_of b (by omega), narrow_of r (by omega), decide_eq_true (show b.row ≤ 16 by omega), Bool.and_self]
  | .when f v b r, h => by
    simp only [Prog.size] at h
    have := row_size b
    simp only [narrow, narrow_of b (by omega), narrow_of r (by omega), decide_eq_true (show b.row ≤ 16 by omega), Bool.and_self]
/-! ### read back -/
theorem readNat_back {lo hi n : Nat} {y : List Int} (h1 : lo ≤ n) (h2 : n ≤ hi) : readNat lo hi (VamacBase.int n :: y) = some (n, y) := by
  unfold readNat VamacBase.int
  dsimp only
  rw [if_pos ⟨by omega, by omega⟩, Int.toNat_natCast]
theorem readValue_back {v : Int} {y : List Int} (h : okValue v = true) : readValue (v :: y) = some (v, y) := by
  unfold readValue
  dsimp only
  rw [if_pos h]
theorem readField_back {f : Nat} {y : List Int} (h : okField f = true) : readField (VamacBase.int f :: y) = some (f, y) := by
  have : f < 3 := of_decide_eq_true h
  exact readNat_back (Nat.zero_le _) (by unfold FIELDS; omega)
theorem readPair_back {f : Nat} {v : Int} {y : List Int} (h1 : okField f = true) (h2 : okValue v = true) : readPair readField readValue (VamacBase.int f :: v :: y) = some ((f, v), y) := by
  unfold readPair
  rw [readField_back h1]
  show Option.map _ (readValue (v :: y)) = _
  rw [readValue_back h2]
  rfl
theorem readDeed_back {d : Deed} {y : List Int} (h : okDeed d = true) : readDeed (flatDeed d ++ y) = some (d, y) := by
  cases d with
  | down => rfl
  | up => rfl
  | top => rfl
  | delete => rfl
  | double => rfl
  | write f v =>
    simp only [okDeed, Bool.and_eq_true] at h
    show Option.map _ (readPair readField readValue (VamacBase.int f :: v :: y)) = _
    rw [readPair_back h.1 h.2]
    rfl
  | add f v =>
    simp only [okDeed, Bool.and_eq_true] at h
    show Option.map _ (readPair readField readValue (VamacBase.int f :: v :: y)) = _
    rw [readPair_back h.1 h.2]
    rfl
  | find f v =>
    simp only [okDeed, Bool.and_eq_true] at h
    show Option.map _ (readPair readField readValue (VamacBase.int f :: v :: y)) = _
    rw [readPair_back h.1 h.2]
    rfl
  | copy f =>
    show Option.map _ (readField (VamacBase.int f :: y)) = _
    rw [readField_back h]
    rfl
  | paste f =>
    show Option.map _ (readField (VamacBase.int f :: y)) = _
    rw [readField_back h]
    rfl
theorem step_back {d : Deed} {s : Int} {y : List Int} (h1 : okValue s = true) (h2 : (hasNumber d || s == 0) = true) : (if hasNumber d then readValue ((if hasNumber d then [s] else []) ++ y) else some (0, (if hasNumber d then [s] else []) ++ y)) = some (s, y) := by
  cases c : hasNumber d with
  | true => exact readValue_back h1
  | false =>
    rw [c] at h2
    have : s = 0 := by simpa using h2
    subst this
    rfl
theorem readPieces_back : ∀ (p : Prog) (f : Nat) (y : List Int), okPieces p = true → narrow p = true → (flatPieces p).length + 1 ≤ f → readPieces f p.row (flatPieces p ++ y) = some (p, y)
  | .done, 0, y, _, _, h => by simp at h
  | .done, f + 1, y, _, _, _ => rfl
  | .deed d s r, 0, y, _, _, h => by simp at h
  | .deed d s r, f + 1, y, h, k, l => by
    simp only [okPieces, Bool.and_eq_true] at h
    simp only [flatPieces, List.length_cons, List.length_append] at l
    have e : flatPieces (.deed d s r) ++ y = 0 :: (flatDeed d ++ ((if hasNumber d then [s] else []) ++ (flatPieces r ++ y))) := by simp only [flatPieces, List.cons_append, List.append_assoc]
    rw [e]
    show (readDeed _).bind _ = _
    rw [readDeed_back h.1]
    show (Option.bind (if hasNumber d then readValue ((if hasNumber d then [s] else []) ++ (flatPieces r ++ y)) else some (0, (if hasNumber d then [s] else []) ++ (flatPieces r ++ y))) _) = _
    rw [step_back h.2.1 h.2.2.1]
    show Option.map _ (readPieces f (r.row + 1 - 1) (flatPieces r ++ y)) = _
    rw [Nat.add_sub_cancel, readPieces_back r f y h.2.2.2 k (by omega)]
    rfl
  | .times n b r, 0, y, _, _, h => by simp at h
  | .times n b r, f + 1, y, h, k, l => by
    simp only [okPieces, Bool.and_eq_true, decide_eq_true_eq] at h
    simp only [narrow, Bool.and_eq_true, decide_eq_true_eq] at k
    simp only [flatPieces, List.length_cons, List.length_append] at l
    have e : flatPieces (.times n b r) ++ y = 1 :: VamacBase.int n :: VamacBase.int b.row :: (flatPieces b ++ (flatPieces r ++ y)) := by simp only [flatPieces, List.cons_append, List.append_assoc]
    rw [e]
    show (readNat 1 TIMES _).bind _ = _
    rw [readNat_back h.1 h.2.1]
    show (Option.bind ((readNat 0 PIECES (VamacBase.int b.row :: (flatPieces b ++ (flatPieces r ++ y)))).bind _) _) = _
    rw [readNat_back (hi := PIECES) (Nat.zero_le _) k.1]
    show (Option.bind (readPieces f b.row (flatPieces b ++ (flatPieces r ++ y))) _) = _
    rw [readPieces_back b f _ h.2.2.1 k.2.1 (by omega)]
    show Option.map _ (readPieces f (r.row + 1 - 1) (flatPieces r ++ y)) = _
    rw [Nat.add_sub_cancel, readPieces_back r f y h.2.2.2 k.2.2 (by omega)]
    rfl
  | .toEnd b r, 0, y, _, _, h => by simp at h
  | .toEnd b r, f + 1, y, h, k, l => by
    simp only [okPieces, Bool.and_eq_true] at h
    simp only [narrow, Bool.and_eq_true, decide_eq_true_eq] at k
    simp only [flatPieces, List.length_cons, List.length_append] at l
    have e : flatPieces (.toEnd b r) ++ y = 2 :: VamacBase.int b.row :: (flatPieces b ++ (flatPieces r ++ y)) := by simp only [flatPieces, List.cons_append, List.append_assoc]
    rw [e]
    show (Option.bind ((readNat 0 PIECES (VamacBase.int b.row :: (flatPieces b ++ (flatPieces r ++ y)))).bind _) _) = _
    rw [readNat_back (hi := PIECES) (Nat.zero_le _) k.1]
    show (Option.bind (readPieces f b.row (flatPieces b ++ (flatPieces r ++ y))) _) = _
    rw [readPieces_back b f _ h.1 k.2.1 (by omega)]
    show Option.map _ (readPieces f (r.row + 1 - 1) (flatPieces r ++ y)) = _
    rw [Nat.add_sub_cancel, readPieces_back r f y h.2 k.2.2 (by omega)]
    rfl
  | .when g v b r, 0, y, _, _, h => by simp at h
  | .when g v b r, f + 1, y, h, k, l => by
    simp only [okPieces, Bool.and_eq_true] at h
    simp only [narrow, Bool.and_eq_true, decide_eq_true_eq] at k
    simp only [flatPieces, List.length_cons, List.length_append] at l
    have e : flatPieces (.when g v b r) ++ y = 3 :: VamacBase.int g :: v :: VamacBase.int b.row :: (flatPieces b ++ (flatPieces r ++ y)) := by simp only [flatPieces, List.cons_append, List.append_assoc]
    rw [e]
    show (readPair readField readValue _).bind _ = _
    rw [readPair_back h.1 h.2.1]
    show (Option.bind ((readNat 0 PIECES (VamacBase.int b.row :: (flatPieces b ++ (flatPieces r ++ y)))).bind _) _) = _
    rw [readNat_back (hi := PIECES) (Nat.zero_le _) k.1]
    show (Option.bind (readPieces f b.row (flatPieces b ++ (flatPieces r ++ y))) _) = _
    rw [readPieces_back b f _ h.2.2.1 k.2.1 (by omega)]
    show Option.map _ (readPieces f (r.row + 1 - 1) (flatPieces r ++ y)) = _
    rw [Nat.add_sub_cancel, readPieces_back r f y h.2.2.2 k.2.2 (by omega)]
    rfl
theorem readProg_back {r : Prog} (h : okPieces r = true) (k : narrow r = true) : whole readProg (flatProg r) = if okProg r then some r else none := by
  by_cases c : r.row ≤ 16
  · have e : readProg (flatProg r) = if okProg r then some (r, []) else none := by
      show (readNat 0 PIECES (VamacBase.int r.row :: flatPieces r)).bind _ = _
      rw [readNat_back (hi := PIECES) (Nat.zero_le _) c]
      show (Option.bind (readPieces ((flatProg r).length + 1) r.row (flatPieces r)) _) = _
      have := readPieces_back r ((flatProg r).length + 1) [] h k (by unfold flatProg; rw [List.length_cons]; omega)
      rw [List.append_nil] at this
      rw [this]
      rfl
    unfold whole
    rw [e]
    cases okProg r <;> rfl
  · have n : okProg r = false := by
      unfold okProg PIECES
      have := row_size r
      rw [decide_eq_false (show ¬ r.size ≤ 16 by omega)]
      simp
    have e : readProg (flatProg r) = none := by
      show (readNat 0 PIECES (VamacBase.int r.row :: flatPieces r)).bind _ = _
      have : readNat 0 PIECES (VamacBase.int r.row :: flatPieces r) = none := by
        unfold readNat VamacBase.int PIECES
        dsimp only
        rw [if_neg (by omega)]
      rw [this]
      rfl
    unfold whole
    rw [e, n]
    rfl
theorem join_read {p q : Prog} (hp : okProg p = true) (hq : okProg q = true) : whole readProg (((p.row : Int) + (q.row : Int)) :: (flatPieces p ++ flatPieces q)) = if okProg (p.andThen q) then some (p.andThen q) else none := by
  unfold okProg PIECES at hp hq
  simp only [Bool.and_eq_true, decide_eq_true_eq] at hp hq
  rw [← readProg_back (okPieces_andThen p q hp.1 hq.1) (narrow_andThen p q (narrow_of p (by omega)) (narrow_of q (by omega)))]
  congr 1
  unfold flatProg VamacBase.int
  rw [flat_andThen, row_andThen]
  congr 1
theorem flatPieces_len : ∀ p : Prog, (flatPieces p).length ≤ 5 * p.size
  | .done => Nat.le_refl _
  | .deed d s r => by
    have := flatPieces_len r
    have := flatDeed_len d
    simp only [flatPieces, List.length_cons, List.length_append, Prog.size]
    split
    · simp only [List.length_cons, List.length_nil]; omega
    · simp only [List.length_nil]; omega
  | .times n b r => by
    have := flatPieces_len r
    have := flatPieces_len b
    simp only [flatPieces, List.length_cons, List.length_append, Prog.size]
    omega
  | .toEnd b r => by
    have := flatPieces_len r
    have := flatPieces_len b
    simp only [flatPieces, List.length_cons, List.length_append, Prog.size]
    omega
  | .when f v b r => by
    have := flatPieces_len r
    have := flatPieces_len b
    simp only [flatPieces, List.length_cons, List.length_append, Prog.size]
    omega
/-! ### places that changed -/
def chF (a b : Table) (i f : Nat) : Bool := ((a.rows[i]?).bind fun r => r[f]?) != ((b.rows[i]?).bind fun r => r[f]?)
def chRow (a b : Table) (i k : Nat) : List (Nat × Nat) := ((List.range k).filter (chF a b i)).map fun f => (i, f)
def chTo (a b : Table) (k : Nat) : List (Nat × Nat) := (List.range k).flatMap fun i => chRow a b i 3
theorem changedIn_eq (a b : Table) : changedIn a b = chTo a b a.rows.length := rfl
theorem chTo_succ (a b : Table) (k : Nat) : chTo a b (k + 1) = chTo a b k ++ chRow a b k 3 := by
  unfold chTo
  rw [List.range_succ, List.flatMap_append]
  show _ ++ (chRow a b k 3 ++ []) = _
  rw [List.append_nil]
theorem chRow_yes {a b : Table} {i k : Nat} (h : chF a b i k = true) : chRow a b i (k + 1) = chRow a b i k ++ [(i, k)] := by
  unfold chRow
  rw [List.range_succ, List.filter_append, List.map_append, List.filter_cons, if_pos h]
  rfl
theorem chRow_no {a b : Table} {i k : Nat} (h : chF a b i k = false) : chRow a b i (k + 1) = chRow a b i k := by
  unfold chRow
  rw [List.range_succ, List.filter_append, List.map_append, List.filter_cons, if_neg (by rw [h]; decide)]
  show _ ++ [] = _
  rw [List.append_nil]
theorem chF_at {a b : Table} {i f : Nat} {r s : List Int} (h1 : a.rows[i]? = some r) (h2 : b.rows[i]? = some s) (hr : f < r.length) (hs : f < s.length) : chF a b i f = !decide (s[f] = r[f]) := by
  unfold chF
  rw [h1, h2]
  show (r[f]? != s[f]?) = _
  rw [List.getElem?_eq_getElem hr, List.getElem?_eq_getElem hs]
  by_cases c : s[f] = r[f]
  · rw [c, decide_eq_true rfl]
    simp
  · rw [decide_eq_false c]
    simpa using fun z => c z.symm
theorem chRow_len (a b : Table) (i k : Nat) : (chRow a b i k).length ≤ k := by
  unfold chRow
  rw [List.length_map]
  have := List.length_filter_le (chF a b i) (List.range k)
  rw [List.length_range] at this
  exact this
theorem chTo_len (a b : Table) : ∀ k, (chTo a b k).length ≤ 3 * k
  | 0 => Nat.le_refl _
  | k + 1 => by
    rw [chTo_succ, List.length_append]
    have := chTo_len a b k
    have := chRow_len a b k 3
    omega
end My
set_option Elab.async false
set_option maxRecDepth 100000
set_option maxHeartbeats 4000000
namespace G
open PySem PySem.Spec PyProof.Rows L2
def topS (i : Nat) : Stmt := PySem.Challenge.pw_programends_s01_answers.main.body.getD i (.Pass ⟨0, 0, 0, 0⟩)
abbrev s_Deed_init : Stmt := inClass (topS 13) 0
abbrev s_Deed_has_field : Stmt := inClass (topS 13) 1
abbrev s_Deed_has_value : Stmt := inClass (topS 13) 2
abbrev s_Deed_writes_field : Stmt := inClass (topS 13) 3
abbrev s_Deed_reads_field : Stmt := inClass (topS 13) 4
abbrev s_Deed_changes_rows : Stmt := inClass (topS 13) 5
abbrev s_read_field : Stmt := topS 14
abbrev s_read_value : Stmt := topS 15
abbrev s_read_deed : Stmt := topS 16
abbrev s_deed_numbers : Stmt := topS 17
abbrev s_Reader_init : Stmt := inClass (topS 20) 0
abbrev s_Reader_at_end : Stmt := inClass (topS 20) 1
abbrev s_Reader_take : Stmt := inClass (topS 20) 2
abbrev s_Reader_take_within : Stmt := inClass (topS 20) 3
abbrev s_Reader_take_list : Stmt := inClass (topS 20) 4
abbrev s_Reader_finish : Stmt := inClass (topS 20) 5
abbrev s_Loop_init : Stmt := inClass (topS 29) 0
abbrev s_LoopToEnd_init : Stmt := inClass (topS 30) 0
abbrev s_Part_init : Stmt := inClass (topS 31) 0
abbrev s_Program_init : Stmt := inClass (topS 32) 0
abbrev s_read_program : Stmt := topS 33
abbrev s_numbers_joined : Stmt := topS 34
abbrev s_read_row : Stmt := topS 35
abbrev s_read_piece : Stmt := topS 36
abbrev s_read_head : Stmt := topS 37
abbrev s_read_stepped_deed : Stmt := topS 38
abbrev s_depth_of : Stmt := topS 39
abbrev s_rest_behind_row : Stmt := topS 43
abbrev s_rest_behind_piece : Stmt := topS 44
abbrev s_rest_behind_deed : Stmt := topS 45
abbrev s_comes_nearer : Stmt := topS 46
abbrev s_first_endless : Stmt := topS 47
abbrev s_most_deeds : Stmt := topS 48
abbrev s_most_deeds_of_piece : Stmt := topS 49
abbrev s_is_accepted : Stmt := topS 50
abbrev s_Table_init : Stmt := inClass (topS 53) 0
abbrev s_Table_has_row_here : Stmt := inClass (topS 53) 1
abbrev s_Table_copied : Stmt := inClass (topS 53) 2
abbrev s_Table_as_numbers : Stmt := inClass (topS 53) 3
abbrev s_read_table : Stmt := topS 54
abbrev s_places_changed : Stmt := topS 55
abbrev s_do_deed : Stmt := topS 63
abbrev s_go_up : Stmt := topS 64
abbrev s_find_below : Stmt := topS 65
abbrev s_do_with_field : Stmt := topS 66
abbrev s_put_value : Stmt := topS 67
abbrev s_do_with_row : Stmt := topS 68
abbrev s_Run_init : Stmt := inClass (topS 73) 0
abbrev s_Run_do_row : Stmt := inClass (topS 73) 1
abbrev s_Run_do_piece : Stmt := inClass (topS 73) 2
abbrev s_Run_do_counted : Stmt := inClass (topS 73) 3
abbrev s_Run_do_rounds : Stmt := inClass (topS 73) 4
abbrev s_Run_do_to_end : Stmt := inClass (topS 73) 5
abbrev s_Run_is_called_for : Stmt := inClass (topS 73) 6
abbrev s_run_row : Stmt := topS 74
abbrev s_read_recording : Stmt := topS 77
abbrev s_recording_numbers : Stmt := topS 78
abbrev s_cleaned : Stmt := topS 79
abbrev s_without_first_slip : Stmt := topS 80
abbrev s_become : Stmt := topS 81
abbrev s_become_of_one_field : Stmt := topS 82
abbrev s_deed_with : Stmt := topS 83
abbrev s_fields_written : Stmt := topS 85
abbrev s_fields_read : Stmt := topS 86
abbrev s_piece_reads : Stmt := topS 87
abbrev s_rising : Stmt := topS 88
abbrev s_rows_may_change : Stmt := topS 89
abbrev s_reads_old_clipboard : Stmt := topS 90
abbrev s_surely_copies : Stmt := topS 91
abbrev s_read_fields : Stmt := topS 92
abbrev s_is_against : Stmt := topS 93
abbrev s_Desk_init : Stmt := inClass (topS 95) 0
abbrev s_Desk_put_program : Stmt := inClass (topS 95) 1
abbrev s_Desk_told : Stmt := inClass (topS 95) 2
abbrev s_Desk_touches : Stmt := inClass (topS 95) 3
abbrev s_Desk_ends : Stmt := inClass (topS 95) 4
abbrev s_Desk_allowed : Stmt := inClass (topS 95) 5
abbrev s_Desk_run_on : Stmt := inClass (topS 95) 6
abbrev s_Desk_changed_on : Stmt := inClass (topS 95) 7
abbrev s_Desk_join_program : Stmt := inClass (topS 95) 8
abbrev s_Desk_clean : Stmt := inClass (topS 95) 9
abbrev s_Desk_same : Stmt := inClass (topS 95) 10
abbrev s_answers : Stmt := topS 107
abbrev s_answer_call : Stmt := topS 108
theorem sc_Deed_init : FnScope ["self", "kind"] ["self", "kind"] (defScope s_Deed_init) := ⟨rfl, rfl, rfl, by decide +kernel, rfl, by decide +kernel, by decide +kernel⟩
theorem sc_Deed_has_field : FnScope ["self"] ["self"] (defScope s_Deed_has_field) := ⟨rfl, rfl, rfl, by decide +kernel, rfl, by decide +kernel, by decide +kernel⟩
theorem sc_Deed_has_value : FnScope ["self"] ["self"] (defScope s_Deed_has_value) := ⟨rfl, rfl, rfl, by decide +kernel, rfl, by decide +kernel, by decide +kernel⟩
theorem sc_Deed_writes_field : FnScope ["self"] ["self"] (defScope s_Deed_writes_field) := ⟨rfl, rfl, rfl, by decide +kernel, rfl, by decide +kernel, by decide +kernel⟩
theorem sc_Deed_reads_field : FnScope ["self"] ["self"] (defScope s_Deed_reads_field) := ⟨rfl, rfl, rfl, by decide +kernel, rfl, by decide +kernel, by decide +kernel⟩
theorem sc_Deed_changes_rows : FnScope ["self"] ["self"] (defScope s_Deed_changes_rows) := ⟨rfl, rfl, rfl, by decide +kernel, rfl, by decide +kernel, by decide +kernel⟩
theorem sc_read_field : FnScope ["reader"] ["reader"] (defScope s_read_field) := ⟨rfl, rfl, rfl, by decide +kernel, rfl, by decide +kernel, by decide +kernel⟩
theorem sc_read_value : FnScope ["reader"] ["reader"] (defScope s_read_value) := ⟨rfl, rfl, rfl, by decide +kernel, rfl, by decide +kernel, by decide +kernel⟩
theorem sc_read_deed : FnScope ["reader", "deed"] ["reader"] (defScope s_read_deed) := ⟨rfl, rfl, rfl, by decide +kernel, rfl, by decide +kernel, by decide +kernel⟩
theorem sc_deed_numbers : FnScope ["deed", "numbers"] ["deed"] (defScope s_deed_numbers) := ⟨rfl, rfl, rfl, by decide +kernel, rfl, by decide +kernel, by decide +kernel⟩
theorem sc_Reader_init : FnScope ["self", "numbers"] ["self", "numbers"] (defScope s_Reader_init) := ⟨rfl, rfl, rfl, by decide +kernel, rfl, by decide +kernel, by decide +kernel⟩
theorem sc_Reader_at_end : FnScope ["self"] ["self"] (defScope s_Reader_at_end) := ⟨rfl, rfl, rfl, by decide +kernel, rfl, by decide +kernel, by decide +kernel⟩
theorem sc_Reader_take : FnScope ["self", "number"] ["self"] (defScope s_Reader_take) := ⟨rfl, rfl, rfl, by decide +kernel, rfl, by decide +kernel, by decide +kernel⟩
theorem sc_Reader_take_within : FnScope ["self", "low", "high", "number"] ["self", "low", "high"] (defScope s_Reader_take_within) := ⟨rfl, rfl, rfl, by decide +kernel, rfl, by decide +kernel, by decide +kernel⟩
theorem sc_Reader_take_list : FnScope ["self", "count", "numbers", "place"] ["self"] (defScope s_Reader_take_list) := ⟨rfl, rfl, rfl, by decide +kernel, rfl, by decide +kernel, by decide +kernel⟩
theorem sc_Reader_finish : FnScope ["self"] ["self"] (defScope s_Reader_finish) := ⟨rfl, rfl, rfl, by decide +kernel, rfl, by decide +kernel, by decide +kernel⟩
theorem sc_Loop_init : FnScope ["self", "rounds"] ["self", "rounds"] (defScope s_Loop_init) := ⟨rfl, rfl, rfl, by decide +kernel, rfl, by decide +kernel, by decide +kernel⟩
theorem sc_LoopToEnd_init : FnScope ["self"] ["self"] (defScope s_LoopToEnd_init) := ⟨rfl, rfl, rfl, by decide +kernel, rfl, by decide +kernel, by decide +kernel⟩
theorem sc_Part_init : FnScope ["self", "field", "value"] ["self", "field", "value"] (defScope s_Part_init) := ⟨rfl, rfl, rfl, by decide +kernel, rfl, by decide +kernel, by decide +kernel⟩
theorem sc_Program_init : FnScope ["self", "numbers", "row", "pieces"] ["self", "numbers", "row", "pieces"] (defScope s_Program_init) := ⟨rfl, rfl, rfl, by decide +kernel, rfl, by decide +kernel, by decide +kernel⟩
theorem sc_read_program : FnScope ["numbers", "reader", "pieces", "row"] ["numbers"] (defScope s_read_program) := ⟨rfl, rfl, rfl, by decide +kernel, rfl, by decide +kernel, by decide +kernel⟩
theorem sc_numbers_joined : FnScope ["first", "second", "count"] ["first", "second"] (defScope s_numbers_joined) := ⟨rfl, rfl, rfl, by decide +kernel, rfl, by decide +kernel, by decide +kernel⟩
theorem sc_read_row : FnScope ["reader", "pieces", "depth", "count", "row", "place"] ["reader", "pieces", "depth"] (defScope s_read_row) := ⟨rfl, rfl, rfl, by decide +kernel, rfl, by decide +kernel, by decide +kernel⟩
theorem sc_read_piece : FnScope ["reader", "pieces", "depth", "piece"] ["reader", "pieces", "depth"] (defScope s_read_piece) := ⟨rfl, rfl, rfl, by decide +kernel, rfl, by decide +kernel, by decide +kernel⟩
theorem sc_read_head : FnScope ["reader", "kind", "field", "value"] ["reader"] (defScope s_read_head) := ⟨rfl, rfl, rfl, by decide +kernel, rfl, by decide +kernel, by decide +kernel⟩
theorem sc_read_stepped_deed : FnScope ["reader", "deed"] ["reader"] (defScope s_read_stepped_deed) := ⟨rfl, rfl, rfl, by decide +kernel, rfl, by decide +kernel, by decide +kernel⟩
theorem sc_depth_of : FnScope ["row", "deepest", "piece"] ["row"] (defScope s_depth_of) := ⟨rfl, rfl, rfl, by decide +kernel, rfl, by decide +kernel, by decide +kernel⟩
theorem sc_rest_behind_row : FnScope ["row", "total", "piece", "greater"] ["row"] (defScope s_rest_behind_row) := ⟨rfl, rfl, rfl, by decide +kernel, rfl, by decide +kernel, by decide +kernel⟩
theorem sc_rest_behind_piece : FnScope ["piece", "greater"] ["piece"] (defScope s_rest_behind_piece) := ⟨rfl, rfl, rfl, by decide +kernel, rfl, by decide +kernel, by decide +kernel⟩
theorem sc_rest_behind_deed : FnScope ["deed"] ["deed"] (defScope s_rest_behind_deed) := ⟨rfl, rfl, rfl, by decide +kernel, rfl, by decide +kernel, by decide +kernel⟩
theorem sc_comes_nearer : FnScope ["loop", "greater"] ["loop"] (defScope s_comes_nearer) := ⟨rfl, rfl, rfl, by decide +kernel, rfl, by decide +kernel, by decide +kernel⟩
theorem sc_first_endless : FnScope ["pieces", "number", "piece"] ["pieces"] (defScope s_first_endless) := ⟨rfl, rfl, rfl, by decide +kernel, rfl, by decide +kernel, by decide +kernel⟩
theorem sc_most_deeds : FnScope ["row", "piece"] ["row"] (defScope s_most_deeds) := ⟨rfl, rfl, rfl, by decide +kernel, rfl, by decide +kernel, by decide +kernel⟩
theorem sc_most_deeds_of_piece : FnScope ["piece", "once"] ["piece"] (defScope s_most_deeds_of_piece) := ⟨rfl, rfl, rfl, by decide +kernel, rfl, by decide +kernel, by decide +kernel⟩
theorem sc_is_accepted : FnScope ["program"] ["program"] (defScope s_is_accepted) := ⟨rfl, rfl, rfl, by decide +kernel, rfl, by decide +kernel, by decide +kernel⟩
theorem sc_Table_init : FnScope ["self", "rows", "cursor", "clipboard"] ["self", "rows", "cursor", "clipboard"] (defScope s_Table_init) := ⟨rfl, rfl, rfl, by decide +kernel, rfl, by decide +kernel, by decide +kernel⟩
theorem sc_Table_has_row_here : FnScope ["self"] ["self"] (defScope s_Table_has_row_here) := ⟨rfl, rfl, rfl, by decide +kernel, rfl, by decide +kernel, by decide +kernel⟩
theorem sc_Table_copied : FnScope ["self", "row"] ["self"] (defScope s_Table_copied) := ⟨rfl, rfl, rfl, by decide +kernel, rfl, by decide +kernel, by decide +kernel⟩
theorem sc_Table_as_numbers : FnScope ["self", "numbers", "row"] ["self"] (defScope s_Table_as_numbers) := ⟨rfl, rfl, rfl, by decide +kernel, rfl, by decide +kernel, by decide +kernel⟩
theorem sc_read_table : FnScope ["numbers", "reader", "count", "rows", "place", "cursor", "clipboard", "field"] ["numbers"] (defScope s_read_table) := ⟨rfl, rfl, rfl, by decide +kernel, rfl, by decide +kernel, by decide +kernel⟩
theorem sc_places_changed : FnScope ["before", "behind", "places", "place", "row", "field", "value"] ["before", "behind"] (defScope s_places_changed) := ⟨rfl, rfl, rfl, by decide +kernel, rfl, by decide +kernel, by decide +kernel⟩
theorem sc_do_deed : FnScope ["table", "deed", "value"] ["table", "deed", "value"] (defScope s_do_deed) := ⟨rfl, rfl, rfl, by decide +kernel, rfl, by decide +kernel, by decide +kernel⟩
theorem sc_go_up : FnScope ["table"] ["table"] (defScope s_go_up) := ⟨rfl, rfl, rfl, by decide +kernel, rfl, by decide +kernel, by decide +kernel⟩
theorem sc_find_below : FnScope ["table", "field", "value", "place"] ["table", "field", "value"] (defScope s_find_below) := ⟨rfl, rfl, rfl, by decide +kernel, rfl, by decide +kernel, by decide +kernel⟩
theorem sc_do_with_field : FnScope ["table", "deed", "value", "here"] ["table", "deed", "value"] (defScope s_do_with_field) := ⟨rfl, rfl, rfl, by decide +kernel, rfl, by decide +kernel, by decide +kernel⟩
theorem sc_put_value : FnScope ["row", "field", "value"] ["row", "field", "value"] (defScope s_put_value) := ⟨rfl, rfl, rfl, by decide +kernel, rfl, by decide +kernel, by decide +kernel⟩
theorem sc_do_with_row : FnScope ["table", "deed"] ["table", "deed"] (defScope s_do_with_row) := ⟨rfl, rfl, rfl, by decide +kernel, rfl, by decide +kernel, by decide +kernel⟩
theorem sc_Run_init : FnScope ["self", "table"] ["self", "table"] (defScope s_Run_init) := ⟨rfl, rfl, rfl, by decide +kernel, rfl, by decide +kernel, by decide +kernel⟩
theorem sc_Run_do_row : FnScope ["self", "row", "number", "piece", "ended"] ["self", "row", "number"] (defScope s_Run_do_row) := ⟨rfl, rfl, rfl, by decide +kernel, rfl, by decide +kernel, by decide +kernel⟩
theorem sc_Run_do_piece : FnScope ["self", "piece", "number"] ["self", "piece", "number"] (defScope s_Run_do_piece) := ⟨rfl, rfl, rfl, by decide +kernel, rfl, by decide +kernel, by decide +kernel⟩
theorem sc_Run_do_counted : FnScope ["self", "deed", "number", "ended"] ["self", "deed", "number"] (defScope s_Run_do_counted) := ⟨rfl, rfl, rfl, by decide +kernel, rfl, by decide +kernel, by decide +kernel⟩
theorem sc_Run_do_rounds : FnScope ["self", "loop", "number", "ended"] ["self", "loop"] (defScope s_Run_do_rounds) := ⟨rfl, rfl, rfl, by decide +kernel, rfl, by decide +kernel, by decide +kernel⟩
theorem sc_Run_do_to_end : FnScope ["self", "loop", "number", "ended"] ["self", "loop"] (defScope s_Run_do_to_end) := ⟨rfl, rfl, rfl, by decide +kernel, rfl, by decide +kernel, by decide +kernel⟩
theorem sc_Run_is_called_for : FnScope ["self", "part", "table"] ["self", "part"] (defScope s_Run_is_called_for) := ⟨rfl, rfl, rfl, by decide +kernel, rfl, by decide +kernel, by decide +kernel⟩
theorem sc_run_row : FnScope ["row", "table", "run"] ["row", "table"] (defScope s_run_row) := ⟨rfl, rfl, rfl, by decide +kernel, rfl, by decide +kernel, by decide +kernel⟩
theorem sc_read_recording : FnScope ["numbers", "reader", "count", "deeds", "place"] ["numbers"] (defScope s_read_recording) := ⟨rfl, rfl, rfl, by decide +kernel, rfl, by decide +kernel, by decide +kernel⟩
theorem sc_recording_numbers : FnScope ["deeds", "numbers", "deed"] ["deeds"] (defScope s_recording_numbers) := ⟨rfl, rfl, rfl, by decide +kernel, rfl, by decide +kernel, by decide +kernel⟩
theorem sc_cleaned : FnScope ["deeds", "shorter"] ["deeds"] (defScope s_cleaned) := ⟨rfl, rfl, rfl, by decide +kernel, rfl, by decide +kernel, by decide +kernel⟩
theorem sc_without_first_slip : FnScope ["deeds", "place", "fewer"] ["deeds"] (defScope s_without_first_slip) := ⟨rfl, rfl, rfl, by decide +kernel, rfl, by decide +kernel, by decide +kernel⟩
theorem sc_become : FnScope ["first", "second", "pair"] ["first", "second"] (defScope s_become) := ⟨rfl, rfl, rfl, by decide +kernel, rfl, by decide +kernel, by decide +kernel⟩
theorem sc_become_of_one_field : FnScope ["first", "second", "together"] ["first", "second"] (defScope s_become_of_one_field) := ⟨rfl, rfl, rfl, by decide +kernel, rfl, by decide +kernel, by decide +kernel⟩
theorem sc_deed_with : FnScope ["kind", "field", "value", "deed"] ["kind", "field", "value"] (defScope s_deed_with) := ⟨rfl, rfl, rfl, by decide +kernel, rfl, by decide +kernel, by decide +kernel⟩
theorem sc_fields_written : FnScope ["pieces", "piece"] ["pieces"] (defScope s_fields_written) := ⟨rfl, rfl, rfl, by decide +kernel, rfl, by decide +kernel, by decide +kernel⟩
theorem sc_fields_read : FnScope ["pieces", "piece"] ["pieces"] (defScope s_fields_read) := ⟨rfl, rfl, rfl, by decide +kernel, rfl, by decide +kernel, by decide +kernel⟩
theorem sc_piece_reads : FnScope ["piece"] ["piece"] (defScope s_piece_reads) := ⟨rfl, rfl, rfl, by decide +kernel, rfl, by decide +kernel, by decide +kernel⟩
theorem sc_rising : FnScope ["fields", "field"] ["fields"] (defScope s_rising) := ⟨rfl, rfl, rfl, by decide +kernel, rfl, by decide +kernel, by decide +kernel⟩
theorem sc_rows_may_change : FnScope ["pieces", "piece"] ["pieces"] (defScope s_rows_may_change) := ⟨rfl, rfl, rfl, by decide +kernel, rfl, by decide +kernel, by decide +kernel⟩
theorem sc_reads_old_clipboard : FnScope ["row", "copied", "piece"] ["row", "copied"] (defScope s_reads_old_clipboard) := ⟨rfl, rfl, rfl, by decide +kernel, rfl, by decide +kernel, by decide +kernel⟩
theorem sc_surely_copies : FnScope ["piece", "inner"] ["piece"] (defScope s_surely_copies) := ⟨rfl, rfl, rfl, by decide +kernel, rfl, by decide +kernel, by decide +kernel⟩
theorem sc_read_fields : FnScope ["numbers", "reader", "count", "fields", "place"] ["numbers"] (defScope s_read_fields) := ⟨rfl, rfl, rfl, by decide +kernel, rfl, by decide +kernel, by decide +kernel⟩
theorem sc_is_against : FnScope ["piece", "rows", "fields"] ["piece", "rows", "fields"] (defScope s_is_against) := ⟨rfl, rfl, rfl, by decide +kernel, rfl, by decide +kernel, by decide +kernel⟩
theorem sc_Desk_init : FnScope ["self"] ["self"] (defScope s_Desk_init) := ⟨rfl, rfl, rfl, by decide +kernel, rfl, by decide +kernel, by decide +kernel⟩
theorem sc_Desk_put_program : FnScope ["self", "numbers", "program"] ["self", "numbers"] (defScope s_Desk_put_program) := ⟨rfl, rfl, rfl, by decide +kernel, rfl, by decide +kernel, by decide +kernel⟩
theorem sc_Desk_told : FnScope ["self"] ["self"] (defScope s_Desk_told) := ⟨rfl, rfl, rfl, by decide +kernel, rfl, by decide +kernel, by decide +kernel⟩
theorem sc_Desk_touches : FnScope ["self", "program", "written", "read", "rows", "clipboard"] ["self"] (defScope s_Desk_touches) := ⟨rfl, rfl, rfl, by decide +kernel, rfl, by decide +kernel, by decide +kernel⟩
theorem sc_Desk_ends : FnScope ["self", "endless"] ["self"] (defScope s_Desk_ends) := ⟨rfl, rfl, rfl, by decide +kernel, rfl, by decide +kernel, by decide +kernel⟩
theorem sc_Desk_allowed : FnScope ["self", "rows", "numbers", "fields", "number", "piece"] ["self", "rows", "numbers"] (defScope s_Desk_allowed) := ⟨rfl, rfl, rfl, by decide +kernel, rfl, by decide +kernel, by decide +kernel⟩
theorem sc_Desk_run_on : FnScope ["self", "numbers", "table", "run"] ["self", "numbers"] (defScope s_Desk_run_on) := ⟨rfl, rfl, rfl, by decide +kernel, rfl, by decide +kernel, by decide +kernel⟩
theorem sc_Desk_changed_on : FnScope ["self", "numbers", "before", "behind", "places", "answer", "place", "field"] ["self", "numbers"] (defScope s_Desk_changed_on) := ⟨rfl, rfl, rfl, by decide +kernel, rfl, by decide +kernel, by decide +kernel⟩
theorem sc_Desk_join_program : FnScope ["self", "numbers", "added", "joined"] ["self", "numbers"] (defScope s_Desk_join_program) := ⟨rfl, rfl, rfl, by decide +kernel, rfl, by decide +kernel, by decide +kernel⟩
theorem sc_Desk_clean : FnScope ["self", "numbers", "deeds", "fewer"] ["self", "numbers"] (defScope s_Desk_clean) := ⟨rfl, rfl, rfl, by decide +kernel, rfl, by decide +kernel, by decide +kernel⟩
theorem sc_Desk_same : FnScope ["self", "recorded", "numbers", "deeds", "table", "first", "second", "alike"] ["self", "recorded", "numbers"] (defScope s_Desk_same) := ⟨rfl, rfl, rfl, by decide +kernel, rfl, by decide +kernel, by decide +kernel⟩
theorem sc_answers : FnScope ["calls", "desk", "line", "given", "answer"] ["calls"] (defScope s_answers) := ⟨rfl, rfl, rfl, by decide +kernel, rfl, by decide +kernel, by decide +kernel⟩
theorem sc_answer_call : FnScope ["desk", "line", "call", "rows", "recorded"] ["desk", "line"] (defScope s_answer_call) := ⟨rfl, rfl, rfl, by decide +kernel, rfl, by decide +kernel, by decide +kernel⟩
/-- a def of the top; a method; an __init__; an own class; an own error; a constant -/
structure Dg (K : PySem.W.Frag) (mg : Str → Option Value) (x : Str) (st : Stmt) (ps : List Str) where
  f : Addr
  d : FuncData
  F : Fun K x x st f d
  b : Binds K d ps []
  g : mg x = some (.ref f)
structure Dm (K : PySem.W.Frag) (C : Addr) (x qual : Str) (st : Stmt) (ps : List Str) where
  f : Addr
  d : FuncData
  F : Fun K x qual st f d
  b : Binds K d ps []
  m : Meth K C x f
structure Di (K : PySem.W.Frag) (C : Addr) (qual : Str) (st : Stmt) (ps : List Str) where
  f : Addr
  d : FuncData
  F : Fun K "__init__" qual st f d
  b : Binds K d ps []
  m : Mk K C f
structure Ow (K : PySem.W.Frag) (mg : Str → Option Value) (x : Str) where
  C : Addr
  cl : Cls K C
  g : mg x = some (.ref C)
  ha : PySem.W.findIn K (.ref C) "__class__" = some (some (.builtin "object.__class__"))
  hm : PySem.W.mroIn K C (.type "object") = some true
structure Xc (K : PySem.W.Frag) (mg : Str → Option Value) (x : Str) where
  C : Addr
  g : mg x = some (.ref C)
  x : PySem.W.excIn K C [.type "Exception", .type "BaseException", .type "object"] "Exception.__new__" = true
  k : PySem.W.keepIn K (.ref C) = true
  b : PySem.W.subIn K (.ref C) (.type "BaseException") = some true
  t : PySem.W.typeIn K (.ref C) = some (.type "type")
  e : PySem.W.exmOne K (.ref C) (.ref C) = some true
def Cst (mg : Str → Option Value) (x : Str) (i : Int) : Prop := ∃ t, mg x = some (.int i t)
structure T (K : PySem.W.Frag) (mg : Str → Option Value) where
  k_Deed : Ow K mg "Deed"
  n_Deed_kind : NoAttr K k_Deed.C "kind"
  n_Deed_field : NoAttr K k_Deed.C "field"
  n_Deed_value : NoAttr K k_Deed.C "value"
  n_Deed_step : NoAttr K k_Deed.C "step"
  k_Reader : Ow K mg "Reader"
  n_Reader_numbers : NoAttr K k_Reader.C "numbers"
  n_Reader_place : NoAttr K k_Reader.C "place"
  k_Loop : Ow K mg "Loop"
  n_Loop_rounds : NoAttr K k_Loop.C "rounds"
  n_Loop_row : NoAttr K k_Loop.C "row"
  k_LoopToEnd : Ow K mg "LoopToEnd"
  n_LoopToEnd_row : NoAttr K k_LoopToEnd.C "row"
  k_Part : Ow K mg "Part"
  n_Part_field : NoAttr K k_Part.C "field"
  n_Part_value : NoAttr K k_Part.C "value"
  n_Part_row : NoAttr K k_Part.C "row"
  k_Program : Ow K mg "Program"
  n_Program_numbers : NoAttr K k_Program.C "numbers"
  n_Program_row : NoAttr K k_Program.C "row"
  n_Program_pieces : NoAttr K k_Program.C "pieces"
  k_Table : Ow K mg "Table"
  n_Table_rows : NoAttr K k_Table.C "rows"
  n_Table_cursor : NoAttr K k_Table.C "cursor"
  n_Table_clipboard : NoAttr K k_Table.C "clipboard"
  k_Run : Ow K mg "Run"
  n_Run_table : NoAttr K k_Run.C "table"
  n_Run_done : NoAttr K k_Run.C "done"
  n_Run_ended : NoAttr K k_Run.C "ended"
  k_Desk : Ow K mg "Desk"
  n_Desk_program : NoAttr K k_Desk.C "program"
  x_NotWhole : Xc K mg "NotWhole"
  d_Deed_init : Di K k_Deed.C "Deed.__init__" s_Deed_init ["self", "kind"]
  d_Deed_has_field : Dm K k_Deed.C "has_field" "Deed.has_field" s_Deed_has_field ["self"]
  d_Deed_has_value : Dm K k_Deed.C "has_value" "Deed.has_value" s_Deed_has_value ["self"]
  d_Deed_writes_field : Dm K k_Deed.C "writes_field" "Deed.writes_field" s_Deed_writes_field ["self"]
  d_Deed_reads_field : Dm K k_Deed.C "reads_field" "Deed.reads_field" s_Deed_reads_field ["self"]
  d_Deed_changes_rows : Dm K k_Deed.C "changes_rows" "Deed.changes_rows" s_Deed_changes_rows ["self"]
  d_read_field : Dg K mg "read_field" s_read_field ["reader"]
  d_read_value : Dg K mg "read_value" s_read_value ["reader"]
  d_read_deed : Dg K mg "read_deed" s_read_deed ["reader"]
  d_deed_numbers : Dg K mg "deed_numbers" s_deed_numbers ["deed"]
  d_Reader_init : Di K k_Reader.C "Reader.__init__" s_Reader_init ["self", "numbers"]
  d_Reader_at_end : Dm K k_Reader.C "at_end" "Reader.at_end" s_Reader_at_end ["self"]
  d_Reader_take : Dm K k_Reader.C "take" "Reader.take" s_Reader_take ["self"]
  d_Reader_take_within : Dm K k_Reader.C "take_within" "Reader.take_within" s_Reader_take_within ["self", "low", "high"]
  d_Reader_take_list : Dm K k_Reader.C "take_list" "Reader.take_list" s_Reader_take_list ["self"]
  d_Reader_finish : Dm K k_Reader.C "finish" "Reader.finish" s_Reader_finish ["self"]
  d_Loop_init : Di K k_Loop.C "Loop.__init__" s_Loop_init ["self", "rounds"]
  d_LoopToEnd_init : Di K k_LoopToEnd.C "LoopToEnd.__init__" s_LoopToEnd_init ["self"]
  d_Part_init : Di K k_Part.C "Part.__init__" s_Part_init ["self", "field", "value"]
  d_Program_init : Di K k_Program.C "Program.__init__" s_Program_init ["self", "numbers", "row", "pieces"]
  d_read_program : Dg K mg "read_program" s_read_program ["numbers"]
  d_numbers_joined : Dg K mg "numbers_joined" s_numbers_joined ["first", "second"]
  d_read_row : Dg K mg "read_row" s_read_row ["reader", "pieces", "depth"]
  d_read_piece : Dg K mg "read_piece" s_read_piece ["reader", "pieces", "depth"]
  d_read_head : Dg K mg "read_head" s_read_head ["reader"]
  d_read_stepped_deed : Dg K mg "read_stepped_deed" s_read_stepped_deed ["reader"]
  d_depth_of : Dg K mg "depth_of" s_depth_of ["row"]
  d_rest_behind_row : Dg K mg "rest_behind_row" s_rest_behind_row ["row"]
  d_rest_behind_piece : Dg K mg "rest_behind_piece" s_rest_behind_piece ["piece"]
  d_rest_behind_deed : Dg K mg "rest_behind_deed" s_rest_behind_deed ["deed"]
  d_comes_nearer : Dg K mg "comes_nearer" s_comes_nearer ["loop"]
  d_first_endless : Dg K mg "first_endless" s_first_endless ["pieces"]
  d_most_deeds : Dg K mg "most_deeds" s_most_deeds ["row"]
  d_most_deeds_of_piece : Dg K mg "most_deeds_of_piece" s_most_deeds_of_piece ["piece"]
  d_is_accepted : Dg K mg "is_accepted" s_is_accepted ["program"]
  d_Table_init : Di K k_Table.C "Table.__init__" s_Table_init ["self", "rows", "cursor", "clipboard"]
  d_Table_has_row_here : Dm K k_Table.C "has_row_here" "Table.has_row_here" s_Table_has_row_here ["self"]
  d_Table_copied : Dm K k_Table.C "copied" "Table.copied" s_Table_copied ["self"]
  d_Table_as_numbers : Dm K k_Table.C "as_numbers" "Table.as_numbers" s_Table_as_numbers ["self"]
  d_read_table : Dg K mg "read_table" s_read_table ["numbers"]
  d_places_changed : Dg K mg "places_changed" s_places_changed ["before", "behind"]
  d_do_deed : Dg K mg "do_deed" s_do_deed ["table", "deed", "value"]
  d_go_up : Dg K mg "go_up" s_go_up ["table"]
  d_find_below : Dg K mg "find_below" s_find_below ["table", "field", "value"]
  d_do_with_field : Dg K mg "do_with_field" s_do_with_field ["table", "deed", "value"]
  d_put_value : Dg K mg "put_value" s_put_value ["row", "field", "value"]
  d_do_with_row : Dg K mg "do_with_row" s_do_with_row ["table", "deed"]
  d_Run_init : Di K k_Run.C "Run.__init__" s_Run_init ["self", "table"]
  d_Run_do_row : Dm K k_Run.C "do_row" "Run.do_row" s_Run_do_row ["self", "row", "number"]
  d_Run_do_piece : Dm K k_Run.C "do_piece" "Run.do_piece" s_Run_do_piece ["self", "piece", "number"]
  d_Run_do_counted : Dm K k_Run.C "do_counted" "Run.do_counted" s_Run_do_counted ["self", "deed", "number"]
  d_Run_do_rounds : Dm K k_Run.C "do_rounds" "Run.do_rounds" s_Run_do_rounds ["self", "loop"]
  d_Run_do_to_end : Dm K k_Run.C "do_to_end" "Run.do_to_end" s_Run_do_to_end ["self", "loop"]
  d_Run_is_called_for : Dm K k_Run.C "is_called_for" "Run.is_called_for" s_Run_is_called_for ["self", "part"]
  d_run_row : Dg K mg "run_row" s_run_row ["row", "table"]
  d_read_recording : Dg K mg "read_recording" s_read_recording ["numbers"]
  d_recording_numbers : Dg K mg "recording_numbers" s_recording_numbers ["deeds"]
  d_cleaned : Dg K mg "cleaned" s_cleaned ["deeds"]
  d_without_first_slip : Dg K mg "without_first_slip" s_without_first_slip ["deeds"]
  d_become : Dg K mg "become" s_become ["first", "second"]
  d_become_of_one_field : Dg K mg "become_of_one_field" s_become_of_one_field ["first", "second"]
  d_deed_with : Dg K mg "deed_with" s_deed_with ["kind", "field", "value"]
  d_fields_written : Dg K mg "fields_written" s_fields_written ["pieces"]
  d_fields_read : Dg K mg "fields_read" s_fields_read ["pieces"]
  d_piece_reads : Dg K mg "piece_reads" s_piece_reads ["piece"]
  d_rising : Dg K mg "rising" s_rising ["fields"]
  d_rows_may_change : Dg K mg "rows_may_change" s_rows_may_change ["pieces"]
  d_reads_old_clipboard : Dg K mg "reads_old_clipboard" s_reads_old_clipboard ["row", "copied"]
  d_surely_copies : Dg K mg "surely_copies" s_surely_copies ["piece"]
  d_read_fields : Dg K mg "read_fields" s_read_fields ["numbers"]
  d_is_against : Dg K mg "is_against" s_is_against ["piece", "rows", "fields"]
  d_Desk_init : Di K k_Desk.C "Desk.__init__" s_Desk_init ["self"]
  d_Desk_put_program : Dm K k_Desk.C "put_program" "Desk.put_program" s_Desk_put_program ["self", "numbers"]
  d_Desk_told : Dm K k_Desk.C "told" "Desk.told" s_Desk_told ["self"]
  d_Desk_touches : Dm K k_Desk.C "touches" "Desk.touches" s_Desk_touches ["self"]
  d_Desk_ends : Dm K k_Desk.C "ends" "Desk.ends" s_Desk_ends ["self"]
  d_Desk_allowed : Dm K k_Desk.C "allowed" "Desk.allowed" s_Desk_allowed ["self", "rows", "numbers"]
  d_Desk_run_on : Dm K k_Desk.C "run_on" "Desk.run_on" s_Desk_run_on ["self", "numbers"]
  d_Desk_changed_on : Dm K k_Desk.C "changed_on" "Desk.changed_on" s_Desk_changed_on ["self", "numbers"]
  d_Desk_join_program : Dm K k_Desk.C "join_program" "Desk.join_program" s_Desk_join_program ["self", "numbers"]
  d_Desk_clean : Dm K k_Desk.C "clean" "Desk.clean" s_Desk_clean ["self", "numbers"]
  d_Desk_same : Dm K k_Desk.C "same" "Desk.same" s_Desk_same ["self", "recorded", "numbers"]
  d_answers : Dg K mg "answers" s_answers ["calls"]
  d_answer_call : Dg K mg "answer_call" s_answer_call ["desk", "line"]
  c_DOWN : Cst mg "DOWN" (0)
  c_UP : Cst mg "UP" (1)
  c_TOP : Cst mg "TOP" (2)
  c_WRITE : Cst mg "WRITE" (3)
  c_ADD : Cst mg "ADD" (4)
  c_COPY : Cst mg "COPY" (5)
  c_PASTE : Cst mg "PASTE" (6)
  c_DELETE : Cst mg "DELETE" (7)
  c_DOUBLE : Cst mg "DOUBLE" (8)
  c_FIND : Cst mg "FIND" (9)
  c_FIELDS : Cst mg "FIELDS" (3)
  c_FARTHEST_VALUE : Cst mg "FARTHEST_VALUE" (999)
  c_DEED : Cst mg "DEED" (0)
  c_LOOP : Cst mg "LOOP" (1)
  c_LOOP_TO_END : Cst mg "LOOP_TO_END" (2)
  c_PART : Cst mg "PART" (3)
  c_MOST_ROUNDS : Cst mg "MOST_ROUNDS" (9)
  c_MOST_PIECES : Cst mg "MOST_PIECES" (16)
  c_MOST_DEPTH : Cst mg "MOST_DEPTH" (3)
  c_ROUNDS_TO_END : Cst mg "ROUNDS_TO_END" (8)
  c_MOST_ACCEPTED : Cst mg "MOST_ACCEPTED" (60)
  c_MOST_ROWS : Cst mg "MOST_ROWS" (8)
  c_WELL : Cst mg "WELL" (0)
  c_NO_ROW_HERE : Cst mg "NO_ROW_HERE" (1)
  c_AT_FIRST_ROW : Cst mg "AT_FIRST_ROW" (2)
  c_VALUE_BEYOND : Cst mg "VALUE_BEYOND" (3)
  c_NO_ROOM : Cst mg "NO_ROOM" (4)
  c_NONE_FOUND : Cst mg "NONE_FOUND" (5)
  c_TOO_LONG : Cst mg "TOO_LONG" (6)
  c_MOST_DEEDS_DONE : Cst mg "MOST_DEEDS_DONE" (60)
  c_MOST_ROUNDS_TO_END : Cst mg "MOST_ROUNDS_TO_END" (60)
  c_MOST_RECORDED : Cst mg "MOST_RECORDED" (20)
  c_PROGRAM : Cst mg "PROGRAM" (0)
  c_TOLD : Cst mg "TOLD" (1)
  c_TOUCHES : Cst mg "TOUCHES" (2)
  c_ENDS : Cst mg "ENDS" (3)
  c_ALLOWED : Cst mg "ALLOWED" (4)
  c_RUN : Cst mg "RUN" (5)
  c_CHANGED : Cst mg "CHANGED" (6)
  c_JOIN : Cst mg "JOIN" (7)
  c_CLEAN : Cst mg "CLEAN" (8)
  c_SAME : Cst mg "SAME" (9)
  z_ValueError : mg "ValueError" = none
  z_any : mg "any" = none
  z_enumerate : mg "enumerate" = none
  z_isinstance : mg "isinstance" = none
  z_len : mg "len" = none
  z_list : mg "list" = none
  z_max : mg "max" = none
  z_range : mg "range" = none
  z_sum : mg "sum" = none
  hn : PySem.W.specialIn K (.builtin "object.__class__") "__get__" = some (some (.builtin "getset_descriptor.__get__"))
  htk : PySem.W.takesIn K (.builtin "object.__class__") = some true
  i_Deed_Deed : PySem.W.kitOne K (.ref k_Deed.C) (.ref k_Deed.C) = some true
  i_Loop_Deed : PySem.W.kitOne K (.ref k_Loop.C) (.ref k_Deed.C) = some false
  i_LoopToEnd_Deed : PySem.W.kitOne K (.ref k_LoopToEnd.C) (.ref k_Deed.C) = some false
  i_Part_Deed : PySem.W.kitOne K (.ref k_Part.C) (.ref k_Deed.C) = some false
  i_Deed_LoopToEnd : PySem.W.kitOne K (.ref k_Deed.C) (.ref k_LoopToEnd.C) = some false
  i_Loop_LoopToEnd : PySem.W.kitOne K (.ref k_Loop.C) (.ref k_LoopToEnd.C) = some false
  i_LoopToEnd_LoopToEnd : PySem.W.kitOne K (.ref k_LoopToEnd.C) (.ref k_LoopToEnd.C) = some true
  i_Part_LoopToEnd : PySem.W.kitOne K (.ref k_Part.C) (.ref k_LoopToEnd.C) = some false
  i_Deed_Loop : PySem.W.kitOne K (.ref k_Deed.C) (.ref k_Loop.C) = some false
  i_Loop_Loop : PySem.W.kitOne K (.ref k_Loop.C) (.ref k_Loop.C) = some true
  i_LoopToEnd_Loop : PySem.W.kitOne K (.ref k_LoopToEnd.C) (.ref k_Loop.C) = some false
  i_Part_Loop : PySem.W.kitOne K (.ref k_Part.C) (.ref k_Loop.C) = some false
  i_Deed_Part : PySem.W.kitOne K (.ref k_Deed.C) (.ref k_Part.C) = some false
  i_Loop_Part : PySem.W.kitOne K (.ref k_Loop.C) (.ref k_Part.C) = some false
  i_LoopToEnd_Part : PySem.W.kitOne K (.ref k_LoopToEnd.C) (.ref k_Part.C) = some false
  i_Part_Part : PySem.W.kitOne K (.ref k_Part.C) (.ref k_Part.C) = some true
theorem lk_here {k : Str} {v : V} {r : List (Str × V)} : List.lookup k ((k, v) :: r) = some v := by
  have e : (k == k) = true := beq_self_eq_true k
  simp only [List.lookup, e]
theorem lk_past {k g : Str} {v : V} {r : List (Str × V)} (h : (k == g) = false) : List.lookup k ((g, v) :: r) = List.lookup k r := by
  simp only [List.lookup, h]
theorem put_here {f : Str} {v x : V} {r : List (Str × V)} : putF f v ((f, x) :: r) = (f, v) :: r := if_pos rfl
theorem put_past {f g : Str} {v x : V} {r : List (Str × V)} (h : ¬ g = f) : putF f v ((g, x) :: r) = (g, x) :: putF f v r := if_neg h
theorem put_nil {f : Str} {v : V} : putF f v [] = [(f, v)] := rfl
def fs_Deed (v0 v1 v2 v3 : V) : List (Str × V) := [("kind", v0), ("field", v1), ("value", v2), ("step", v3)]
theorem l_Deed_kind {v0 v1 v2 v3 : V} : (fs_Deed v0 v1 v2 v3).lookup ("kind" : Str) = some v0 := lk_here
theorem p_Deed_kind {v0 v1 v2 v3 : V} {z : V} : putF "kind" z (fs_Deed v0 v1 v2 v3) = fs_Deed z v1 v2 v3 := put_here
theorem l_Deed_field {v0 v1 v2 v3 : V} : (fs_Deed v0 v1 v2 v3).lookup ("field" : Str) = some v1 := (lk_past (by decide +kernel)).trans (lk_here)
theorem p_Deed_field {v0 v1 v2 v3 : V} {z : V} : putF "field" z (fs_Deed v0 v1 v2 v3) = fs_Deed v0 z v2 v3 := (put_past (by decide +kernel)).trans (congrArg _ (put_here))
theorem l_Deed_value {v0 v1 v2 v3 : V} : (fs_Deed v0 v1 v2 v3).lookup ("value" : Str) = some v2 := (lk_past (by decide +kernel)).trans ((lk_past (by decide +kernel)).trans (lk_here))
theorem p_Deed_value {v0 v1 v2 v3 : V} {z : V} : putF "value" z (fs_Deed v0 v1 v2 v3) = fs_Deed v0 v1 z v3 := (put_past (by decide +kernel)).trans (congrArg _ ((put_past (by decide +kernel)).trans (congrArg _ (put_here))))
theorem l_Deed_step {v0 v1 v2 v3 : V} : (fs_Deed v0 v1 v2 v3).lookup ("step" : Str) = some v3 := (lk_past (by decide +kernel)).trans ((lk_past (by decide +kernel)).trans ((lk_past (by decide +kernel)).trans (lk_here)))
theorem p_Deed_step {v0 v1 v2 v3 : V} {z : V} : putF "step" z (fs_Deed v0 v1 v2 v3) = fs_Deed v0 v1 v2 z := (put_past (by decide +kernel)).trans (congrArg _ ((put_past (by decide +kernel)).trans (congrArg _ ((put_past (by decide +kernel)).trans (congrArg _ (put_here))))))
theorem m_Deed_has_field {v0 v1 v2 v3 : V} : (fs_Deed v0 v1 v2 v3).lookup ("has_field" : Str) = none := (lk_past (by decide +kernel)).trans ((lk_past (by decide +kernel)).trans ((lk_past (by decide +kernel)).trans ((lk_past (by decide +kernel)).trans (rfl))))
theorem m_Deed_has_value {v0 v1 v2 v3 : V} : (fs_Deed v0 v1 v2 v3).lookup ("has_value" : Str) = none := (lk_past (by decide +kernel)).trans ((lk_past (by decide +kernel)).trans ((lk_past (by decide +kernel)).trans ((lk_past (by decide +kernel)).trans (rfl))))
theorem m_Deed_writes_field {v0 v1 v2 v3 : V} : (fs_Deed v0 v1 v2 v3).lookup ("writes_field" : Str) = none := (lk_past (by decide +kernel)).trans ((lk_past (by decide +kernel)).trans ((lk_past (by decide +kernel)).trans ((lk_past (by decide +kernel)).trans (rfl))))
theorem m_Deed_reads_field {v0 v1 v2 v3 : V} : (fs_Deed v0 v1 v2 v3).lookup ("reads_field" : Str) = none := (lk_past (by decide +kernel)).trans ((lk_past (by decide +kernel)).trans ((lk_past (by decide +kernel)).trans ((lk_past (by decide +kernel)).trans (rfl))))
theorem m_Deed_changes_rows {v0 v1 v2 v3 : V} : (fs_Deed v0 v1 v2 v3).lookup ("changes_rows" : Str) = none := (lk_past (by decide +kernel)).trans ((lk_past (by decide +kernel)).trans ((lk_past (by decide +kernel)).trans ((lk_past (by decide +kernel)).trans (rfl))))
theorem w_Deed {v0 v1 v2 v3 : V} : putF "step" v3 (putF "value" v2 (putF "field" v1 (putF "kind" v0 ([])))) = fs_Deed v0 v1 v2 v3 := by
  unfold fs_Deed
  repeat (first | rw [put_nil] | rw [put_past (by decide +kernel)])
def fs_Reader (v0 v1 : V) : List (Str × V) := [("numbers", v0), ("place", v1)]
theorem l_Reader_numbers {v0 v1 : V} : (fs_Reader v0 v1).lookup ("numbers" : Str) = some v0 := lk_here
theorem p_Reader_numbers {v0 v1 : V} {z : V} : putF "numbers" z (fs_Reader v0 v1) = fs_Reader z v1 := put_here
theorem l_Reader_place {v0 v1 : V} : (fs_Reader v0 v1).lookup ("place" : Str) = some v1 := (lk_past (by decide +kernel)).trans (lk_here)
theorem p_Reader_place {v0 v1 : V} {z : V} : putF "place" z (fs_Reader v0 v1) = fs_Reader v0 z := (put_past (by decide +kernel)).trans (congrArg _ (put_here))
theorem m_Reader_at_end {v0 v1 : V} : (fs_Reader v0 v1).lookup ("at_end" : Str) = none := (lk_past (by decide +kernel)).trans ((lk_past (by decide +kernel)).trans (rfl))
theorem m_Reader_take {v0 v1 : V} : (fs_Reader v0 v1).lookup ("take" : Str) = none := (lk_past (by decide +kernel)).trans ((lk_past (by decide +kernel)).trans (rfl))
theorem m_Reader_take_within {v0 v1 : V} : (fs_Reader v0 v1).lookup ("take_within" : Str) = none := (lk_past (by decide +kernel)).trans ((lk_past (by decide +kernel)).trans (rfl))
theorem m_Reader_take_list {v0 v1 : V} : (fs_Reader v0 v1).lookup ("take_list" : Str) = none := (lk_past (by decide +kernel)).trans ((lk_past (by decide +kernel)).trans (rfl))
theorem m_Reader_finish {v0 v1 : V} : (fs_Reader v0 v1).lookup ("finish" : Str) = none := (lk_past (by decide +kernel)).trans ((lk_past (by decide +kernel)).trans (rfl))
theorem w_Reader {v0 v1 : V} : putF "place" v1 (putF "numbers" v0 ([])) = fs_Reader v0 v1 := by
  unfold fs_Reader
  repeat (first | rw [put_nil] | rw [put_past (by decide +kernel)])
def fs_Loop (v0 v1 : V) : List (Str × V) := [("rounds", v0), ("row", v1)]
theorem l_Loop_rounds {v0 v1 : V} : (fs_Loop v0 v1).lookup ("rounds" : Str) = some v0 := lk_here
theorem p_Loop_rounds {v0 v1 : V} {z : V} : putF "rounds" z (fs_Loop v0 v1) = fs_Loop z v1 := put_here
theorem l_Loop_row {v0 v1 : V} : (fs_Loop v0 v1).lookup ("row" : Str) = some v1 := (lk_past (by decide +kernel)).trans (lk_here)
theorem p_Loop_row {v0 v1 : V} {z : V} : putF "row" z (fs_Loop v0 v1) = fs_Loop v0 z := (put_past (by decide +kernel)).trans (congrArg _ (put_here))
theorem w_Loop {v0 v1 : V} : putF "row" v1 (putF "rounds" v0 ([])) = fs_Loop v0 v1 := by
  unfold fs_Loop
  repeat (first | rw [put_nil] | rw [put_past (by decide +kernel)])
def fs_LoopToEnd (v0 : V) : List (Str × V) := [("row", v0)]
theorem l_LoopToEnd_row {v0 : V} : (fs_LoopToEnd v0).lookup ("row" : Str) = some v0 := lk_here
theorem p_LoopToEnd_row {v0 : V} {z : V} : putF "row" z (fs_LoopToEnd v0) = fs_LoopToEnd z := put_here
theorem w_LoopToEnd {v0 : V} : putF "row" v0 ([]) = fs_LoopToEnd v0 := by
  unfold fs_LoopToEnd
  repeat (first | rw [put_nil] | rw [put_past (by decide +kernel)])
def fs_Part (v0 v1 v2 : V) : List (Str × V) := [("field", v0), ("value", v1), ("row", v2)]
theorem l_Part_field {v0 v1 v2 : V} : (fs_Part v0 v1 v2).lookup ("field" : Str) = some v0 := lk_here
theorem p_Part_field {v0 v1 v2 : V} {z : V} : putF "field" z (fs_Part v0 v1 v2) = fs_Part z v1 v2 := put_here
theorem l_Part_value {v0 v1 v2 : V} : (fs_Part v0 v1 v2).lookup ("value" : Str) = some v1 := (lk_past (by decide +kernel)).trans (lk_here)
theorem p_Part_value {v0 v1 v2 : V} {z : V} : putF "value" z (fs_Part v0 v1 v2) = fs_Part v0 z v2 := (put_past (by decide +kernel)).trans (congrArg _ (put_here))
theorem l_Part_row {v0 v1 v2 : V} : (fs_Part v0 v1 v2).lookup ("row" : Str) = some v2 := (lk_past (by decide +kernel)).trans ((lk_past (by decide +kernel)).trans (lk_here))
theorem p_Part_row {v0 v1 v2 : V} {z : V} : putF "row" z (fs_Part v0 v1 v2) = fs_Part v0 v1 z := (put_past (by decide +kernel)).trans (congrArg _ ((put_past (by decide +kernel)).trans (congrArg _ (put_here))))
theorem w_Part {v0 v1 v2 : V} : putF "row" v2 (putF "value" v1 (putF "field" v0 ([]))) = fs_Part v0 v1 v2 := by
  unfold fs_Part
  repeat (first | rw [put_nil] | rw [put_past (by decide +kernel)])
def fs_Program (v0 v1 v2 : V) : List (Str × V) := [("numbers", v0), ("row", v1), ("pieces", v2)]
theorem l_Program_numbers {v0 v1 v2 : V} : (fs_Program v0 v1 v2).lookup ("numbers" : Str) = some v0 := lk_here
theorem p_Program_numbers {v0 v1 v2 : V} {z : V} : putF "numbers" z (fs_Program v0 v1 v2) = fs_Program z v1 v2 := put_here
theorem l_Program_row {v0 v1 v2 : V} : (fs_Program v0 v1 v2).lookup ("row" : Str) = some v1 := (lk_past (by decide +kernel)).trans (lk_here)
theorem p_Program_row {v0 v1 v2 : V} {z : V} : putF "row" z (fs_Program v0 v1 v2) = fs_Program v0 z v2 := (put_past (by decide +kernel)).trans (congrArg _ (put_here))
theorem l_Program_pieces {v0 v1 v2 : V} : (fs_Program v0 v1 v2).lookup ("pieces" : Str) = some v2 := (lk_past (by decide +kernel)).trans ((lk_past (by decide +kernel)).trans (lk_here))
theorem p_Program_pieces {v0 v1 v2 : V} {z : V} : putF "pieces" z (fs_Program v0 v1 v2) = fs_Program v0 v1 z := (put_past (by decide +kernel)).trans (congrArg _ ((put_past (by decide +kernel)).trans (congrArg _ (put_here))))
theorem w_Program {v0 v1 v2 : V} : putF "pieces" v2 (putF "row" v1 (putF "numbers" v0 ([]))) = fs_Program v0 v1 v2 := by
  unfold fs_Program
  repeat (first | rw [put_nil] | rw [put_past (by decide +kernel)])
def fs_Table (v0 v1 v2 : V) : List (Str × V) := [("rows", v0), ("cursor", v1), ("clipboard", v2)]
theorem l_Table_rows {v0 v1 v2 : V} : (fs_Table v0 v1 v2).lookup ("rows" : Str) = some v0 := lk_here
theorem p_Table_rows {v0 v1 v2 : V} {z : V} : putF "rows" z (fs_Table v0 v1 v2) = fs_Table z v1 v2 := put_here
theorem l_Table_cursor {v0 v1 v2 : V} : (fs_Table v0 v1 v2).lookup ("cursor" : Str) = some v1 := (lk_past (by decide +kernel)).trans (lk_here)
theorem p_Table_cursor {v0 v1 v2 : V} {z : V} : putF "cursor" z (fs_Table v0 v1 v2) = fs_Table v0 z v2 := (put_past (by decide +kernel)).trans (congrArg _ (put_here))
theorem l_Table_clipboard {v0 v1 v2 : V} : (fs_Table v0 v1 v2).lookup ("clipboard" : Str) = some v2 := (lk_past (by decide +kernel)).trans ((lk_past (by decide +kernel)).trans (lk_here))
theorem p_Table_clipboard {v0 v1 v2 : V} {z : V} : putF "clipboard" z (fs_Table v0 v1 v2) = fs_Table v0 v1 z := (put_past (by decide +kernel)).trans (congrArg _ ((put_past (by decide +kernel)).trans (congrArg _ (put_here))))
theorem m_Table_has_row_here {v0 v1 v2 : V} : (fs_Table v0 v1 v2).lookup ("has_row_here" : Str) = none := (lk_past (by decide +kernel)).trans ((lk_past (by decide +kernel)).trans ((lk_past (by decide +kernel)).trans (rfl)))
theorem m_Table_copied {v0 v1 v2 : V} : (fs_Table v0 v1 v2).lookup ("copied" : Str) = none := (lk_past (by decide +kernel)).trans ((lk_past (by decide +kernel)).trans ((lk_past (by decide +kernel)).trans (rfl)))
theorem m_Table_as_numbers {v0 v1 v2 : V} : (fs_Table v0 v1 v2).lookup ("as_numbers" : Str) = none := (lk_past (by decide +kernel)).trans ((lk_past (by decide +kernel)).trans ((lk_past (by decide +kernel)).trans (rfl)))
theorem w_Table {v0 v1 v2 : V} : putF "clipboard" v2 (putF "cursor" v1 (putF "rows" v0 ([]))) = fs_Table v0 v1 v2 := by
  unfold fs_Table
  repeat (first | rw [put_nil] | rw [put_past (by decide +kernel)])
def fs_Run (v0 v1 v2 : V) : List (Str × V) := [("table", v0), ("done", v1), ("ended", v2)]
theorem l_Run_table {v0 v1 v2 : V} : (fs_Run v0 v1 v2).lookup ("table" : Str) = some v0 := lk_here
theorem p_Run_table {v0 v1 v2 : V} {z : V} : putF "table" z (fs_Run v0 v1 v2) = fs_Run z v1 v2 := put_here
theorem l_Run_done {v0 v1 v2 : V} : (fs_Run v0 v1 v2).lookup ("done" : Str) = some v1 := (lk_past (by decide +kernel)).trans (lk_here)
theorem p_Run_done {v0 v1 v2 : V} {z : V} : putF "done" z (fs_Run v0 v1 v2) = fs_Run v0 z v2 := (put_past (by decide +kernel)).trans (congrArg _ (put_here))
theorem l_Run_ended {v0 v1 v2 : V} : (fs_Run v0 v1 v2).lookup ("ended" : Str) = some v2 := (lk_past (by decide +kernel)).trans ((lk_past (by decide +kernel)).trans (lk_here))
theorem p_Run_ended {v0 v1 v2 : V} {z : V} : putF "ended" z (fs_Run v0 v1 v2) = fs_Run v0 v1 z := (put_past (by decide +kernel)).trans (congrArg _ ((put_past (by decide +kernel)).trans (congrArg _ (put_here))))
theorem m_Run_do_row {v0 v1 v2 : V} : (fs_Run v0 v1 v2).lookup ("do_row" : Str) = none := (lk_past (by decide +kernel)).trans ((lk_past (by decide +kernel)).trans ((lk_past (by decide +kernel)).trans (rfl)))
theorem m_Run_do_piece {v0 v1 v2 : V} : (fs_Run v0 v1 v2).lookup ("do_piece" : Str) = none := (lk_past (by decide +kernel)).trans ((lk_past (by decide +kernel)).trans ((lk_past (by decide +kernel)).trans (rfl)))
theorem m_Run_do_counted {v0 v1 v2 : V} : (fs_Run v0 v1 v2).lookup ("do_counted" : Str) = none := (lk_past (by decide +kernel)).trans ((lk_past (by decide +kernel)).trans ((lk_past (by decide +kernel)).trans (rfl)))
theorem m_Run_do_rounds {v0 v1 v2 : V} : (fs_Run v0 v1 v2).lookup ("do_rounds" : Str) = none := (lk_past (by decide +kernel)).trans ((lk_past (by decide +kernel)).trans ((lk_past (by decide +kernel)).trans (rfl)))
theorem m_Run_do_to_end {v0 v1 v2 : V} : (fs_Run v0 v1 v2).lookup ("do_to_end" : Str) = none := (lk_past (by decide +kernel)).trans ((lk_past (by decide +kernel)).trans ((lk_past (by decide +kernel)).trans (rfl)))
theorem m_Run_is_called_for {v0 v1 v2 : V} : (fs_Run v0 v1 v2).lookup ("is_called_for" : Str) = none := (lk_past (by decide +kernel)).trans ((lk_past (by decide +kernel)).trans ((lk_past (by decide +kernel)).trans (rfl)))
theorem w_Run {v0 v1 v2 : V} : putF "ended" v2 (putF "done" v1 (putF "table" v0 ([]))) = fs_Run v0 v1 v2 := by
  unfold fs_Run
  repeat (first | rw [put_nil] | rw [put_past (by decide +kernel)])
def fs_Desk (v0 : V) : List (Str × V) := [("program", v0)]
theorem l_Desk_program {v0 : V} : (fs_Desk v0).lookup ("program" : Str) = some v0 := lk_here
theorem p_Desk_program {v0 : V} {z : V} : putF "program" z (fs_Desk v0) = fs_Desk z := put_here
theorem m_Desk_put_program {v0 : V} : (fs_Desk v0).lookup ("put_program" : Str) = none := (lk_past (by decide +kernel)).trans (rfl)
theorem m_Desk_told {v0 : V} : (fs_Desk v0).lookup ("told" : Str) = none := (lk_past (by decide +kernel)).trans (rfl)
theorem m_Desk_touches {v0 : V} : (fs_Desk v0).lookup ("touches" : Str) = none := (lk_past (by decide +kernel)).trans (rfl)
theorem m_Desk_ends {v0 : V} : (fs_Desk v0).lookup ("ends" : Str) = none := (lk_past (by decide +kernel)).trans (rfl)
theorem m_Desk_allowed {v0 : V} : (fs_Desk v0).lookup ("allowed" : Str) = none := (lk_past (by decide +kernel)).trans (rfl)
theorem m_Desk_run_on {v0 : V} : (fs_Desk v0).lookup ("run_on" : Str) = none := (lk_past (by decide +kernel)).trans (rfl)
theorem m_Desk_changed_on {v0 : V} : (fs_Desk v0).lookup ("changed_on" : Str) = none := (lk_past (by decide +kernel)).trans (rfl)
theorem m_Desk_join_program {v0 : V} : (fs_Desk v0).lookup ("join_program" : Str) = none := (lk_past (by decide +kernel)).trans (rfl)
theorem m_Desk_clean {v0 : V} : (fs_Desk v0).lookup ("clean" : Str) = none := (lk_past (by decide +kernel)).trans (rfl)
theorem m_Desk_same {v0 : V} : (fs_Desk v0).lookup ("same" : Str) = none := (lk_past (by decide +kernel)).trans (rfl)
theorem w_Desk {v0 : V} : putF "program" v0 ([]) = fs_Desk v0 := by
  unfold fs_Desk
  repeat (first | rw [put_nil] | rw [put_past (by decide +kernel)])
end G
/-! Short rules over the structures of facts, and how a reader lies in the heap. -/
namespace G
open PySem PySem.Spec PyProof.Rows L2
section
variable {X : Cx} {CX : CXT} {k : Nat} {x m qual : Str} {st : Stmt} {ps : List Str} {sp : Sp} {C : Addr} {p pos apos : Pos} {e o : Expr} {es : List Expr} {ta : TE} {t : TA} {W : WX}
theorem pe_cst {i : Int} (hg : Gl X x) (h : Cst X.mg x i) (hd : (x == ("__debug__" : Str)) = false := by decide) : PE X (.Name x pos) (tC (.int i)) := by
  obtain ⟨t, e⟩ := h
  exact pe_glob hg e ⟨t, rfl⟩ hd
theorem pe_cls {C : Addr} (hg : Gl X x) (h : X.mg x = some (.ref C)) (hd : (x == ("__debug__" : Str)) = false := by decide) : PE X (.Name x pos) (tC (.ref C)) := pe_glob (v := .ref C) hg h rfl hd
/-- f(e, ..) of a def that raises nothing | of one that may raise | of one that may, but doesn't here -/
theorem pcall (D : Dg X.K X.mg x st ps) (F : FnOk X.prog X.w X.K X.mg X.base CX0 k D.f D.d ps sp) (hr : Room k X.A) (hg : Gl X x) (ha : PA X (e :: es) t) (hdb : (x == ("__debug__" : Str)) = false := by decide)
    (he : starEach (e :: es) X.env = (false, eval e X.env) :: starEach es X.env := by rfl) (hpl : (backTo pos (starEach es X.env)).any (·.1) = false := by rfl) : PE X (.Call (.Name x p) (e :: es) [] pos) (tCall sp [] E0 t) :=
  pe_call F hr hg D.g D.F.kp D.b .nil pass0 ha hdb he hpl
theorem pcallL (D : Dg X.K X.mg x st ps) (F : FnOk X.prog X.w X.K X.mg X.base (L2.CX X.prog X.w) k D.f D.d ps sp) (hr : Room k X.A) (hg : Gl X x) (ha : PA X (e :: es) t) (hdb : (x == ("__debug__" : Str)) = false := by decide)
    (he : starEach (e :: es) X.env = (false, eval e X.env) :: starEach es X.env := by rfl) (hpl : (backTo pos (starEach es X.env)).any (·.1) = false := by rfl) : PE X (.Call (.Name x p) (e :: es) [] pos) (tCall sp [] E0 t) :=
  pe_call F hr hg D.g D.F.kp D.b .nil passL ha hdb he hpl
theorem pcallS (D : Dg X.K X.mg x st ps) (F : FnOk X.prog X.w X.K X.mg X.base (L2.CX X.prog X.w) k D.f D.d ps sp) (hr : Room k X.A) (hg : Gl X x) (tk : Takes X W) (ha : PA X (e :: es) t) (hdb : (x == ("__debug__" : Str)) = false := by decide)
    (he : starEach (e :: es) X.env = (false, eval e X.env) :: starEach es X.env := by rfl) (hpl : (backTo pos (starEach es X.env)).any (·.1) = false := by rfl) : PE X (.Call (.Name x p) (e :: es) [] pos) (tCallS sp (WE W) t) :=
  pe_callS F hr hg D.g D.F.kp D.b (fun σ => passAt tk σ) ha hdb he hpl
/-- o.m(e, ..), o.m() -/
theorem pmeth {pl : Sem Bool} (he : PE X o ta) (c : Cls X.K C) (D : Dm X.K C m qual st ps) (F : FnOk X.prog X.w X.K X.mg X.base CX0 k D.f D.d ps sp) (hr : Room k X.A) (ha : PA X (e :: es) t)
    (hst : starEach (e :: es) X.env = (false, eval e X.env) :: starEach es X.env := by rfl) (hpl : (backTo pos (starEach es X.env)).any (·.1) = false := by rfl)
    (ht : eval (.Call (.Attribute o m apos) (e :: es) [] pos) X.env = (do
      let ov ← eval o X.env
      standAt apos.atName
      let (f, first) ← holding [ov] (getMethod ov m pl)
      callWith pos f first (backTo pos (starEach (e :: es) X.env)) (backToKw pos (keywordEach [] X.env))) := by rfl) :
    PE X (.Call (.Attribute o m apos) (e :: es) [] pos) (tMeth C m sp [] E0 ta t) := pe_meth he c D.m F hr D.b .nil pass0 ha hst hpl ht
theorem pmethL {pl : Sem Bool} (he : PE X o ta) (c : Cls X.K C) (D : Dm X.K C m qual st ps) (F : FnOk X.prog X.w X.K X.mg X.base (L2.CX X.prog X.w) k D.f D.d ps sp) (hr : Room k X.A) (ha : PA X (e :: es) t)
    (hst : starEach (e :: es) X.env = (false, eval e X.env) :: starEach es X.env := by rfl) (hpl : (backTo pos (starEach es X.env)).any (·.1) = false := by rfl)
    (ht : eval (.Call (.Attribute o m apos) (e :: es) [] pos) X.env = (do
      let ov ← eval o X.env
      standAt apos.atName
      let (f, first) ← holding [ov] (getMethod ov m pl)
      callWith pos f first (backTo pos (starEach (e :: es) X.env)) (backToKw pos (keywordEach [] X.env))) := by rfl) :
    PE X (.Call (.Attribute o m apos) (e :: es) [] pos) (tMeth C m sp [] E0 ta t) := pe_meth he c D.m F hr D.b .nil passL ha hst hpl ht
theorem pmeth0 {pl : Sem Bool} (he : PE X o ta) (c : Cls X.K C) (D : Dm X.K C m qual st ps) (F : FnOk X.prog X.w X.K X.mg X.base CX0 k D.f D.d ps sp) (hr : Room k X.A)
    (ht : eval (.Call (.Attribute o m apos) [] [] pos) X.env = (do
      let ov ← eval o X.env
      standAt apos.atName
      let (f, first) ← holding [ov] (getMethod ov m pl)
      callWith pos f first (backTo pos (starEach [] X.env)) (backToKw pos (keywordEach [] X.env))) := by rfl) :
    PE X (.Call (.Attribute o m apos) [] [] pos) (tMeth C m sp [] E0 ta tNil) := pe_meth0 he c D.m F hr D.b .nil pass0 ht
theorem pmethL0 {pl : Sem Bool} (he : PE X o ta) (c : Cls X.K C) (D : Dm X.K C m qual st ps) (F : FnOk X.prog X.w X.K X.mg X.base (L2.CX X.prog X.w) k D.f D.d ps sp) (hr : Room k X.A)
    (ht : eval (.Call (.Attribute o m apos) [] [] pos) X.env = (do
      let ov ← eval o X.env
      standAt apos.atName
      let (f, first) ← holding [ov] (getMethod ov m pl)
      callWith pos f first (backTo pos (starEach [] X.env)) (backToKw pos (keywordEach [] X.env))) := by rfl) :
    PE X (.Call (.Attribute o m apos) [] [] pos) (tMeth C m sp [] E0 ta tNil) := pe_meth0 he c D.m F hr D.b .nil passL ht
/-- .. that may raise: what it raises is wished for at the slots as they stand -/
def tMethS (C : Addr) (m : Str) (sp : Sp) (E : L2.St → XK) (ta : TE) (t : TA) : TE := fun σ H Q => ta σ H fun x H1 => ∃ a dx fs, x = .ref a ∧ H1 a = some (.ins C dx fs) ∧ fs.lookup m = none ∧ t σ H1 fun vs H2 => sp (x :: vs) H2 Q (E σ)
theorem pmethS {pl : Sem Bool} (he : PE X o ta) (c : Cls X.K C) (D : Dm X.K C m qual st ps) (F : FnOk X.prog X.w X.K X.mg X.base (L2.CX X.prog X.w) k D.f D.d ps sp) (hr : Room k X.A) (tk : Takes X W) (ha : PA X (e :: es) t)
    (hst : starEach (e :: es) X.env = (false, eval e X.env) :: starEach es X.env := by rfl) (hpl : (backTo pos (starEach es X.env)).any (·.1) = false := by rfl)
    (ht : eval (.Call (.Attribute o m apos) (e :: es) [] pos) X.env = (do
      let ov ← eval o X.env
      standAt apos.atName
      let (f, first) ← holding [ov] (getMethod ov m pl)
      callWith pos f first (backTo pos (starEach (e :: es) X.env)) (backToKw pos (keywordEach [] X.env))) := by rfl) :
    PE X (.Call (.Attribute o m apos) (e :: es) [] pos) (tMethS C m sp (WE W) ta t) := by
  refine ⟨fun pins s σ H Q I h => ?_⟩
  refine PySem.W.methodCall_KW (pl := pl) (thn (he.run pins s σ H _ I h) fun u s1 ⟨y, H1, I1, rx, a, dx, fs, ex, ea, l, q⟩ => ?_) ht
  subst ex
  obtain rfl : u = Value.ref a := rx
  refine getmeth_ok I1 ea c D.m l ?_
  refine PySem.W.callWith_K (first := [.ref a]) (h₀ := X.base) I.ok.mod.kin D.m.kp (thn (ha.run pos pins s1 σ H1 _ I1 q) fun us s2 ⟨vs, H2, I2, r, q2⟩ => ⟨I2.kIn, ?_⟩) hst hpl
  exact run_fnS (us := .ref a :: us) (vs := .ref a :: vs) F hr D.b (passAt tk σ) I2 (.cons rfl r) q2
theorem pmethS0 {pl : Sem Bool} (he : PE X o ta) (c : Cls X.K C) (D : Dm X.K C m qual st ps) (F : FnOk X.prog X.w X.K X.mg X.base (L2.CX X.prog X.w) k D.f D.d ps sp) (hr : Room k X.A) (tk : Takes X W)
    (ht : eval (.Call (.Attribute o m apos) [] [] pos) X.env = (do
      let ov ← eval o X.env
      standAt apos.atName
      let (f, first) ← holding [ov] (getMethod ov m pl)
      callWith pos f first (backTo pos (starEach [] X.env)) (backToKw pos (keywordEach [] X.env))) := by rfl) :
    PE X (.Call (.Attribute o m apos) [] [] pos) (tMethS C m sp (WE W) ta tNil) := by
  refine ⟨fun pins s σ H Q I h => ?_⟩
  refine PySem.W.methodCall_KW (pl := pl) (thn (he.run pins s σ H _ I h) fun u s1 ⟨y, H1, I1, rx, a, dx, fs, ex, ea, l, q⟩ => ?_) ht
  subst ex
  obtain rfl : u = Value.ref a := rx
  refine getmeth_ok I1 ea c D.m l ?_
  exact PySem.W.callWith_K0 (first := [.ref a]) I1.kIn D.m.kp (run_fnS (us := [.ref a]) (vs := [.ref a]) F hr D.b (passAt tk σ) I1 (.cons rfl .nil) q)
/-- C(e, ..), C() -/
theorem pmake (D : Di X.K C qual st ps) (gC : X.mg x = some (.ref C)) (F : FnOk X.prog X.w X.K X.mg X.base CX0 k D.f D.d ps sp) (hr : Room (k + 1) X.A) (hg : Gl X x) (ha : PA X (e :: es) t) (hdb : (x == ("__debug__" : Str)) = false := by decide)
    (he : starEach (e :: es) X.env = (false, eval e X.env) :: starEach es X.env := by rfl) (hpl : (backTo pos (starEach es X.env)).any (·.1) = false := by rfl) : PE X (.Call (.Name x p) (e :: es) [] pos) (tMake C sp [] E0 t) :=
  pe_make D.m F hr hg gC D.b .nil pass0 ha hdb he hpl
theorem pmake0 (D : Di X.K C qual st ps) (gC : X.mg x = some (.ref C)) (F : FnOk X.prog X.w X.K X.mg X.base CX0 k D.f D.d ps sp) (hr : Room (k + 1) X.A) (hg : Gl X x) (hdb : (x == ("__debug__" : Str)) = false := by decide) :
    PE X (.Call (.Name x p) [] [] pos) (tMake C sp [] E0 tNil) := pe_make0 D.m F hr hg gC D.b .nil pass0 hdb
/-- raise X() of an own class over Exception without __init__ -/
theorem praise (D : Xc X.K X.mg x) (hg : Gl X x) (hdb : (x == ("__debug__" : Str)) = false := by decide) : PMk X (.Call (.Name x p) [] [] pos) (fun _ H Q => Q (.ref D.C) none H) := by
  intro pins s σ H Q I h
  refine wpAny_Call_Name_kw (ld_glob I hg D.g ?_ hdb)
  refine PySem.W.callWith_K0 I.kIn D.k ?_
  obtain ⟨bm, N, nm, qn, bs, hdct, sn, sub, ab, col, dd, k0, k1, k2, k3, k5, mN, hC, hN, hni, T⟩ := exc_obj I.kIn D.x
  refine wpAny_call_exc_subT PySem.F.excBase_Exception T hC hN hni (fun h' e hm => ?_) (by show 0 ≤ sizeLine; rw [sizeLine_eq]; omega)
  exact mk_of I hm (raises_own D.b D.t) h (I.hok.gone hm.new)
end
theorem iteTrue {c : Bool} {A B : Prop} (hc : c = true) (h : A) : if c = true then A else B := by
  rw [if_pos hc]
  exact h
theorem iteFalse {c : Bool} {A B : Prop} (hc : c = false) (h : B) : if c = true then A else B := by
  rw [hc, if_neg Bool.false_ne_true]
  exact h
end G
/-! Deeds and readers. -/
namespace G
open PySem PySem.Spec PyProof.Rows L2 Evl
/-! a def that gives a value and changes nothing that stood -/
def spV (n : Nat) (R : List V → Hp → V → Prop) : Sp := fun vs H Q _ => vs.length = n ∧ ∃ z, R vs H z ∧ ∀ H', Ex H H' → Q z H'
section
variable {K : PySem.W.Frag} {mg : Str → Option Value}
theorem ev_fld {ta : TE} {σ : L2.St} {H : Hp} {a C dx : Addr} {f : Str} {fs : List (Str × V)} {v : V} (h : Ev ta σ H (.ref a)) (o : H a = some (.ins C dx fs)) (c : Cls K C) (n : NoAttr K C f) (l : fs.lookup f = some v) : Ev (tFld K ta f) σ H v :=
  fun H1 e Q q => h H1 e _ fun H2 e2 => ⟨a, C, dx, fs, v, rfl, e2 a _ (e a _ o), c, n, l, q H2 e2⟩
theorem ev_meth {sp : Sp} {ta : TE} {t : TA} {σ : L2.St} {H : Hp} {a C dx : Addr} {m : Str} {fs : List (Str × V)} {vs : List V} {z : V} {E : XK} (h : Ev ta σ H (.ref a)) (o : H a = some (.ins C dx fs)) (l : fs.lookup m = none)
    (ha : EvA t σ H vs) (hs : SpV sp (.ref a :: (vs ++ [])) H z) : Ev (tMeth C m sp [] E ta t) σ H z :=
  fun H1 e Q q => h H1 e _ fun H2 e2 => ⟨a, dx, fs, rfl, e2 a _ (e a _ o), l, ha H2 (e.trans e2) _ fun H3 e3 => hs H3 ((e.trans e2).trans e3) Q (fun H4 e4 => q H4 ((e2.trans e3).trans e4)) E⟩
theorem et_or2 {t u : TT} {σ : L2.St} {H : Hp} {a b : Bool} (h1 : EvT t σ H a) (h2 : EvT u σ H b) : EvT (tOr t u) σ H (a || b) := et_or h1 fun _ => h2
theorem et_and2 {t u : TT} {σ : L2.St} {H : Hp} {a b : Bool} (h1 : EvT t σ H a) (h2 : EvT u σ H b) : EvT (tAnd t u) σ H (a && b) := et_and h1 fun _ => h2
theorem ev_and2 {ta tb : TE} {σ : L2.St} {H : Hp} {a b : Bool} (h1 : Ev ta σ H (.bl a)) (h2 : Ev tb σ H (.bl b)) : Ev (tAndV ta tb) σ H (.bl (a && b)) := ev_andV h1 fun _ => h2
theorem ev_or2 {ta tb : TE} {σ : L2.St} {H : Hp} {a b : Bool} (h1 : Ev ta σ H (.bl a)) (h2 : Ev tb σ H (.bl b)) : Ev (tOrV ta tb) σ H (.bl (a || b)) := ev_orV h1 fun _ => h2
/-- calls that may change things, their arguments plain -/
theorem q_asgS {sp : Sp} {E : L2.St → XK} {ta : TA} {i : Nat} {tz : TS} {D : Ends} {σ : L2.St} {H : Hp} {vs : List V} (ha : EvA ta σ H vs) (k : ∀ H1, Ex H H1 → sp vs H1 (fun v H2 => tz D (σ.set i (some v)) H2) (E σ)) :
    tSeq (tAsg (tCallS sp E ta) (gName i)) tz D σ H := ha H (Ex.refl H) _ fun H1 e1 => k H1 e1
theorem q_asgM {C a dx : Addr} {m : Str} {fs : List (Str × V)} {sp : Sp} {E : L2.St → XK} {to : TE} {ta : TA} {i : Nat} {tz : TS} {D : Ends} {σ : L2.St} {H : Hp} {vs : List V} (ho : Ev to σ H (.ref a)) (o : H a = some (.ins C dx fs)) (l : fs.lookup m = none)
    (ha : EvA ta σ H vs) (k : ∀ H1, Ex H H1 → sp (.ref a :: vs) H1 (fun v H2 => tz D (σ.set i (some v)) H2) (E σ)) : tSeq (tAsg (tMethS C m sp E to ta) (gName i)) tz D σ H :=
  ho H (Ex.refl H) _ fun H1 e1 => ⟨a, dx, fs, rfl, e1 a _ o, l, ha H1 e1 _ fun H2 e2 => k H2 (e1.trans e2)⟩
theorem s_retS {sp : Sp} {E : L2.St → XK} {ta : TA} {D : Ends} {σ : L2.St} {H : Hp} {vs : List V} (ha : EvA ta σ H vs) (k : ∀ H1, Ex H H1 → sp vs H1 D.rt (E σ)) : tRet (tCallS sp E ta) D σ H := ha H (Ex.refl H) _ fun H1 e1 => k H1 e1
theorem s_retM {C a dx : Addr} {m : Str} {fs : List (Str × V)} {sp : Sp} {E : L2.St → XK} {to : TE} {ta : TA} {D : Ends} {σ : L2.St} {H : Hp} {vs : List V} (ho : Ev to σ H (.ref a)) (o : H a = some (.ins C dx fs)) (l : fs.lookup m = none)
    (ha : EvA ta σ H vs) (k : ∀ H1, Ex H H1 → sp (.ref a :: vs) H1 D.rt (E σ)) : tRet (tMethS C m sp E to ta) D σ H :=
  ho H (Ex.refl H) _ fun H1 e1 => ⟨a, dx, fs, rfl, e1 a _ o, l, ha H1 e1 _ fun H2 e2 => k H2 (e1.trans e2)⟩
theorem s_dropM {C a dx : Addr} {m : Str} {fs : List (Str × V)} {sp : Sp} {E : L2.St → XK} {to : TE} {ta : TA} {D : Ends} {σ : L2.St} {H : Hp} {vs : List V} (ho : Ev to σ H (.ref a)) (o : H a = some (.ins C dx fs)) (l : fs.lookup m = none)
    (ha : EvA ta σ H vs) (k : ∀ H1, Ex H H1 → sp (.ref a :: vs) H1 (fun _ H2 => D.nx σ H2) (E σ)) : tDrop (tMethS C m sp E to ta) D σ H :=
  ho H (Ex.refl H) _ fun H1 e1 => ⟨a, dx, fs, rfl, e1 a _ o, l, ha H1 e1 _ fun H2 e2 => k H2 (e1.trans e2)⟩
theorem q_dropM {C a dx : Addr} {m : Str} {fs : List (Str × V)} {sp : Sp} {E : L2.St → XK} {to : TE} {ta : TA} {tz : TS} {D : Ends} {σ : L2.St} {H : Hp} {vs : List V} (ho : Ev to σ H (.ref a)) (o : H a = some (.ins C dx fs)) (l : fs.lookup m = none)
    (ha : EvA ta σ H vs) (k : ∀ H1, Ex H H1 → sp (.ref a :: vs) H1 (fun _ H2 => tz D σ H2) (E σ)) : tSeq (tDrop (tMethS C m sp E to ta)) tz D σ H := s_dropM (D := { D with nx := tz D }) ho o l ha k
theorem spV_use {n : Nat} {R : List V → Hp → V → Prop} {vs : List V} {H : Hp} {z : V} (hl : vs.length = n) (h : ∀ H1, Ex H H1 → R vs H1 z) : SpV (spV n R) vs H z := fun H1 e Q q E => ⟨hl, z, h H1 e, q⟩
/-- a deed's object, by the number of its kind and the values of its fields -/
def DeedO (t : T K mg) (H : Hp) (a : Addr) (k : Int) (f v s : V) : Prop := ∃ dx, H a = some (.ins t.k_Deed.C dx (fs_Deed (.int k) f v s))
theorem DeedO.ex {t : T K mg} {H H' : Hp} {a : Addr} {k : Int} {f v s : V} (h : DeedO t H a k f v s) (e : Ex H H') : DeedO t H' a k f v s := h.imp fun dx h => e _ _ h
def RKin (t : T K mg) (l : List Int) : List V → Hp → V → Prop := fun vs H z => ∃ a k f v s, vs = [.ref a] ∧ DeedO t H a k f v s ∧ z = .bl (decide (k ∈ l))
theorem inV_ints (k : Int) : ∀ l : List Int, inV (.int k) (l.map V.int) = decide (k ∈ l)
  | [] => by simp [inV]
  | x :: r => by
    have ih := inV_ints k r
    unfold inV at ih ⊢
    simp only [List.map_cons, List.any_cons, ih, List.mem_cons, Bool.decide_or]
    congr 1
    show (x == k) = decide (k = x)
    by_cases c : k = x
    · subst c; simp
    · rw [decide_eq_false c]; exact beq_eq_false_iff_ne.mpr fun z => c z.symm
variable {P : Program} {w : World} {base : Heap}
theorem ok_Deed_has_field (t : T K mg) : FnOk P w K mg base CX0 1 t.d_Deed_has_field.f t.d_Deed_has_field.d ["self"] (spV 1 (RKin t [3, 4, 5, 6, 9])) := by
  refine t.d_Deed_has_field.F.ok sc_Deed_has_field (fun vs H Q E h => h.1) (fun cdv A outer s H vs Q E hr h => ⟨_, (pss_one (ps_ret (pe_cmpR op_in_seq (pe_fld (pv 0) rfl) (pe_tup (pa_cons (pe_cst rfl t.c_WRITE) (pa_cons (pe_cst rfl t.c_ADD) (pa_cons (pe_cst rfl t.c_COPY) (pa_cons (pe_cst rfl t.c_PASTE) (pa_cons (pe_cst rfl t.c_FIND) pa_nil)))))) (by rfl)))), ?_⟩)
  obtain ⟨_, z, ⟨a, k, f, v, s, rfl, ⟨dx, h1⟩, rfl⟩, q⟩ := h
  exact s_ret (ev_is (ev_inU (ev_fld (ev_var rfl) h1 t.k_Deed.cl t.n_Deed_kind l_Deed_kind) (eu_tup (ea_cons ev_c (ea_cons ev_c (ea_cons ev_c (ea_cons ev_c (ea_cons ev_c ea_nil))))) (by decide)) rfl rfl) (congrArg V.bl (inV_ints k [3, 4, 5, 6, 9]))) q
theorem ok_Deed_has_value (t : T K mg) : FnOk P w K mg base CX0 1 t.d_Deed_has_value.f t.d_Deed_has_value.d ["self"] (spV 1 (RKin t [3, 4, 9])) := by
  refine t.d_Deed_has_value.F.ok sc_Deed_has_value (fun vs H Q E h => h.1) (fun cdv A outer s H vs Q E hr h => ⟨_, (pss_one (ps_ret (pe_cmpR op_in_seq (pe_fld (pv 0) rfl) (pe_tup (pa_cons (pe_cst rfl t.c_WRITE) (pa_cons (pe_cst rfl t.c_ADD) (pa_cons (pe_cst rfl t.c_FIND) pa_nil)))) (by rfl)))), ?_⟩)
  obtain ⟨_, z, ⟨a, k, f, v, s, rfl, ⟨dx, h1⟩, rfl⟩, q⟩ := h
  exact s_ret (ev_is (ev_inU (ev_fld (ev_var rfl) h1 t.k_Deed.cl t.n_Deed_kind l_Deed_kind) (eu_tup (ea_cons ev_c (ea_cons ev_c (ea_cons ev_c ea_nil))) (by decide)) rfl rfl) (congrArg V.bl (inV_ints k [3, 4, 9]))) q
theorem ok_Deed_writes_field (t : T K mg) : FnOk P w K mg base CX0 1 t.d_Deed_writes_field.f t.d_Deed_writes_field.d ["self"] (spV 1 (RKin t [3, 4, 6])) := by
  refine t.d_Deed_writes_field.F.ok sc_Deed_writes_field (fun vs H Q E h => h.1) (fun cdv A outer s H vs Q E hr h => ⟨_, (pss_one (ps_ret (pe_cmpR op_in_seq (pe_fld (pv 0) rfl) (pe_tup (pa_cons (pe_cst rfl t.c_WRITE) (pa_cons (pe_cst rfl t.c_ADD) (pa_cons (pe_cst rfl t.c_PASTE) pa_nil)))) (by rfl)))), ?_⟩)
  obtain ⟨_, z, ⟨a, k, f, v, s, rfl, ⟨dx, h1⟩, rfl⟩, q⟩ := h
  exact s_ret (ev_is (ev_inU (ev_fld (ev_var rfl) h1 t.k_Deed.cl t.n_Deed_kind l_Deed_kind) (eu_tup (ea_cons ev_c (ea_cons ev_c (ea_cons ev_c ea_nil))) (by decide)) rfl rfl) (congrArg V.bl (inV_ints k [3, 4, 6]))) q
theorem ok_Deed_reads_field (t : T K mg) : FnOk P w K mg base CX0 1 t.d_Deed_reads_field.f t.d_Deed_reads_field.d ["self"] (spV 1 (RKin t [4, 5, 9])) := by
  refine t.d_Deed_reads_field.F.ok sc_Deed_reads_field (fun vs H Q E h => h.1) (fun cdv A outer s H vs Q E hr h => ⟨_, (pss_one (ps_ret (pe_cmpR op_in_seq (pe_fld (pv 0) rfl) (pe_tup (pa_cons (pe_cst rfl t.c_ADD) (pa_cons (pe_cst rfl t.c_COPY) (pa_cons (pe_cst rfl t.c_FIND) pa_nil)))) (by rfl)))), ?_⟩)
  obtain ⟨_, z, ⟨a, k, f, v, s, rfl, ⟨dx, h1⟩, rfl⟩, q⟩ := h
  exact s_ret (ev_is (ev_inU (ev_fld (ev_var rfl) h1 t.k_Deed.cl t.n_Deed_kind l_Deed_kind) (eu_tup (ea_cons ev_c (ea_cons ev_c (ea_cons ev_c ea_nil))) (by decide)) rfl rfl) (congrArg V.bl (inV_ints k [4, 5, 9]))) q
theorem ok_Deed_changes_rows (t : T K mg) : FnOk P w K mg base CX0 1 t.d_Deed_changes_rows.f t.d_Deed_changes_rows.d ["self"] (spV 1 (RKin t [7, 8])) := by
  refine t.d_Deed_changes_rows.F.ok sc_Deed_changes_rows (fun vs H Q E h => h.1) (fun cdv A outer s H vs Q E hr h => ⟨_, (pss_one (ps_ret (pe_cmpR op_in_seq (pe_fld (pv 0) rfl) (pe_tup (pa_cons (pe_cst rfl t.c_DELETE) (pa_cons (pe_cst rfl t.c_DOUBLE) pa_nil))) (by rfl)))), ?_⟩)
  obtain ⟨_, z, ⟨a, k, f, v, s, rfl, ⟨dx, h1⟩, rfl⟩, q⟩ := h
  exact s_ret (ev_is (ev_inU (ev_fld (ev_var rfl) h1 t.k_Deed.cl t.n_Deed_kind l_Deed_kind) (eu_tup (ea_cons ev_c (ea_cons ev_c ea_nil)) (by decide)) rfl rfl) (congrArg V.bl (inV_ints k [7, 8]))) q
/-! __init__: the new instance x, its fields set -/
/-- the instance x, without fields as yet, gets what the class says -/
def spI (n : Nat) (C : Addr) (fs : List V → List (Str × V)) : Sp := fun vs H Q _ => vs.length = n ∧ ∃ x dx r, vs = .ref x :: r ∧ H x = some (.ins C dx []) ∧ Q .non (upd H x (.ins C dx (fs r)))
theorem s_fld {ta tv : TE} {σ : L2.St} {H : Hp} {D : Ends} {a C dx : Addr} {f : Str} {fs : List (Str × V)} {v : V} (hv : Ev tv σ H v) (ha : Ev ta σ H (.ref a)) (o : H a = some (.ins C dx fs)) (c : Cls K C) (n : NoAttr K C f) (hl : fs.length < 1000)
    (k : ∀ H1, Ex H H1 → D.nx σ (upd H1 a (.ins C dx (putF f v fs)))) : sFld K ta tv f D σ H :=
  hv H (Ex.refl H) _ fun H1 e1 => ha H1 e1 _ fun H2 e2 => ⟨a, C, dx, fs, rfl, e2 a _ (e1 a _ o), c, n, hl, k H2 (e1.trans e2)⟩
/-- .. the value without anything made on the way -/
theorem i_fld {ta tv : TE} {σ : L2.St} {H : Hp} {D : Ends} {i : Nat} {a C dx : Addr} {f : Str} {fs : List (Str × V)} {v : V} (hv : tv σ H = fun Q => Q v H) (ha : σ[i]? = some (some (.ref a))) (o : H a = some (.ins C dx fs)) (c : Cls K C) (n : NoAttr K C f) (hl : fs.length < 1000)
    (k : D.nx σ (upd H a (.ins C dx (putF f v fs)))) : sFld K (tVar i) tv f D σ H := by
  show tv σ H _
  rw [hv]
  exact ⟨_, ha, a, C, dx, fs, rfl, o, c, n, hl, k⟩
theorem ok_Deed_init (t : T K mg) : FnOk P w K mg base CX0 1 t.d_Deed_init.f t.d_Deed_init.d ["self", "kind"] (spI 2 t.k_Deed.C fun r => match r with | [k] => fs_Deed k (.int 0) (.int 0) (.int 0) | _ => []) := by
  refine t.d_Deed_init.F.ok sc_Deed_init (fun vs H Q E h => h.1) (fun cdv A outer s H vs Q E hr h => ⟨_, (pss_cons (ps_fld (pv 0) (pv 1) rfl)
  (pss_cons (ps_fld (pv 0) pe_int rfl)
  (pss_cons (ps_fld (pv 0) pe_int rfl)
  (pss_one (ps_fld (pv 0) pe_int rfl))))), ?_⟩)
  obtain ⟨hl, x, dx, r, rfl, h1, q⟩ := h
  match r, hl with
  | [k], _ =>
    refine ⟨_, rfl, _, rfl, x, _, dx, [], rfl, h1, t.k_Deed.cl, t.n_Deed_kind, (by show 0 < 1000; decide), ?_⟩
    refine ⟨_, rfl, x, _, dx, _, rfl, upd_same, t.k_Deed.cl, t.n_Deed_field, (by show 1 < 1000; decide), ?_⟩
    refine ⟨_, rfl, x, _, dx, _, rfl, upd_same, t.k_Deed.cl, t.n_Deed_value, (by show 2 < 1000; decide), ?_⟩
    refine ⟨_, rfl, x, _, dx, _, rfl, upd_same, t.k_Deed.cl, t.n_Deed_step, (by show 3 < 1000; decide), ?_⟩
    rw [upd_upd, upd_upd, upd_upd, w_Deed]
    exact q
end
end G
/-! The reader. -/
namespace G
open PySem PySem.Spec PyProof.Rows L2 Evl My
/-- all but r stands as it stood -/
def But (r : Addr) (H H' : Hp) : Prop := ∀ b o, H b = some o → b ≠ r → H' b = some o
theorem But.refl (r : Addr) (H : Hp) : But r H H := fun _ _ h _ => h
theorem But.trans {r : Addr} {H H1 H2 : Hp} (a : But r H H1) (b : But r H1 H2) : But r H H2 := fun x o h n => b x o (a x o h n) n
theorem But.of {r : Addr} {H H' : Hp} (e : Ex H H') : But r H H' := fun x o h _ => e x o h
theorem But.upd {r : Addr} {H H' : Hp} {o : HO} (e : But r H H') : But r H (upd H' r o) := fun x u h n => by
  rw [upd_ne n]
  exact e x u h n
section
variable {K : PySem.W.Frag} {mg : Str → Option Value}
theorem sq_but {H H' : Hp} {r : Addr} {C dx : Addr} {fs : List (Str × V)} {a : Addr} {xs : List V} (e : But r H H') (h : H r = some (.ins C dx fs)) (q : SqL K H a xs) : SqL K H' a xs := by
  rcases q with (q | ⟨o, q⟩) | q
  · exact .inl (.inl (e _ _ q (by rintro rfl; rw [h] at q; cases q)))
  · exact .inl (.inr ⟨o, e _ _ q (by rintro rfl; rw [h] at q; cases q)⟩)
  · exact .inr q
/-- a list that stands apart from M -/
def Far (K : PySem.W.Frag) (H : Hp) (M na : Addr) (xs : List V) : Prop := (Rd H na (.lst xs) ∧ na ≠ M) ∨ ∀ H', SqL K H' na xs
theorem Far.sq {H : Hp} {M na : Addr} {xs : List V} (h : Far K H M na xs) : SqL K H na xs := h.elim (fun z => .inl z.1) fun z => z H
theorem far_ex {H H' : Hp} {M na : Addr} {xs : List V} (e : Ex H H') (h : Far K H M na xs) : Far K H' M na xs := h.imp (fun z => ⟨ex_rd e z.1, z.2⟩) id
theorem rd_but {H H' : Hp} {r : Addr} {C dx : Addr} {fs : List (Str × V)} {a : Addr} {xs : List V} (e : But r H H') (h : H r = some (.ins C dx fs)) (q : Rd H a (.lst xs)) : Rd H' a (.lst xs) := by
  rcases q with q | ⟨o, q⟩
  · exact .inl (e _ _ q (by rintro rfl; rw [h] at q; cases q))
  · exact .inr ⟨o, e _ _ q (by rintro rfl; rw [h] at q; cases q)⟩
theorem far_but {H H' : Hp} {r : Addr} {C dx : Addr} {fs : List (Str × V)} {M a : Addr} {xs : List V} (e : But r H H') (h : H r = some (.ins C dx fs)) (q : Far K H M a xs) : Far K H' M a xs := q.imp (fun z => ⟨rd_but e h z.1, z.2⟩) id
theorem far_upd {H : Hp} {M na : Addr} {xs : List V} {o : HO} (h : Far K H M na xs) : Far K (upd H M o) M na xs := h.imp (fun z => ⟨by
  rcases z.1 with q | ⟨u, q⟩
  · exact .inl (by rw [upd_ne z.2]; exact q)
  · exact .inr ⟨u, by rw [upd_ne z.2]; exact q⟩, z.2⟩) id
theorem far_new {H : Hp} {M na : Addr} {xs : List V} (h : SqL K H na xs) (n : H M = none) : Far K H M na xs := by
  rcases h with h | h
  · refine .inl ⟨h, ?_⟩
    rcases h with q | ⟨u, q⟩
    · exact ne_of_none q n
    · exact ne_of_none q n
  · exact .inr fun H' => .inr h
/-- a reader over the list ns at na, that stands at i -/
structure RdAt (t : T K mg) (H : Hp) (r na M : Addr) (ns : List Int) (i : Nat) : Prop where
  o : ∃ dx : Addr, H r = some (.ins t.k_Reader.C dx (fs_Reader (.ref na) (.int i)))
  q : Far K H M na (ns.map V.int)
  le : i ≤ ns.length
  sz : ns.length ≤ 100000
theorem RdAt.ex {t : T K mg} {H H' : Hp} {r na M : Addr} {ns : List Int} {i : Nat} (h : RdAt t H r na M ns i) (e : Ex H H') : RdAt t H' r na M ns i := ⟨h.o.imp fun _ q => e _ _ q, far_ex e h.q, h.le, h.sz⟩
/-- what a call that reads promises: o is what is read of the numbers left -/
def Rds {A : Type} (t : T K mg) (H : Hp) (r na M : Addr) (ns : List Int) (i : Nat) (o : Option (A × List Int)) (val : Hp → A → V → Prop) (Q : VK) (E : XK) : Prop :=
  RdAt t H r na M ns i ∧ (o = none → ∀ H', But r H H' → E (.ref t.x_NotWhole.C) none H') ∧ (∀ a j, o = some (a, ns.drop j) → ∀ H' v, But r H H' → RdAt t H' r na M ns j → val H' a v → Q v H')
def takeM : List Int → Option (Int × List Int)
  | [] => none
  | n :: y => some (n, y)
def isInt : Hp → Int → V → Prop := fun _ n v => v = .int n
def RAtEnd (t : T K mg) : List V → Hp → V → Prop := fun vs H z => ∃ r na M ns i, vs = [.ref r] ∧ RdAt t H r na M ns i ∧ z = .bl (decide (ns.drop i = []))
def spTake (t : T K mg) : Sp := fun vs H Q E => ∃ r na M ns i, vs = [.ref r] ∧ Rds t H r na M ns i (takeM (ns.drop i)) isInt Q E
def spWithin (t : T K mg) : Sp := fun vs H Q E => ∃ r na M ns i lo hi, vs = [.ref r, .int lo, .int hi] ∧ Rds t H r na M ns i (withinM lo hi (ns.drop i)) isInt Q E
variable {P : Program} {w : World} {base : Heap}
theorem drop_nil {ns : List Int} {i : Nat} (h : i ≤ ns.length) : decide ((ns.length : Int) ≤ (i : Int)) = decide (ns.drop i = []) := by
  by_cases c : ns.length ≤ i
  · rw [decide_eq_true (by omega), decide_eq_true (List.drop_eq_nil_iff.mpr c)]
  · rw [decide_eq_false (by omega), decide_eq_false fun z => c (List.drop_eq_nil_iff.mp z)]
theorem ok_Reader_at_end (t : T K mg) : FnOk P w K mg base CX0 1 t.d_Reader_at_end.f t.d_Reader_at_end.d ["self"] (spV 1 (RAtEnd t)) := by
  refine t.d_Reader_at_end.F.ok sc_Reader_at_end (fun vs H Q E h => h.1) (fun cdv A outer s H vs Q E hr h => ⟨_, (pss_one (ps_ret (pe_cmpR op_ge (pe_fld (pv 0) rfl) (pe_callB call_len_seq rfl t.z_len PySem.boot_len (pa_cons (pe_fld (pv 0) rfl) pa_nil)) (nomark _)))), ?_⟩)
  obtain ⟨_, z, ⟨r, na, M, ns, i, rfl, ⟨⟨dx, h1⟩, h2, h3, h5⟩, rfl⟩, q⟩ := h
  refine s_ret (ev_is (ev_op (ev_fld (ev_var rfl) h1 t.k_Reader.cl t.n_Reader_place l_Reader_place) (ev_len (ev_fld (ev_var rfl) h1 t.k_Reader.cl t.n_Reader_numbers l_Reader_numbers) h2.sq) rv_I0) (congrArg V.bl ?_)) q
  rw [List.length_map]
  exact drop_nil h3
theorem ok_Reader_init (t : T K mg) : FnOk P w K mg base CX0 1 t.d_Reader_init.f t.d_Reader_init.d ["self", "numbers"] (spI 2 t.k_Reader.C fun r => match r with | [n] => fs_Reader n (.int 0) | _ => []) := by
  refine t.d_Reader_init.F.ok sc_Reader_init (fun vs H Q E h => h.1) (fun cdv A outer s H vs Q E hr h => ⟨_, (pss_cons (ps_fld (pv 0) (pv 1) rfl)
  (pss_one (ps_fld (pv 0) pe_int rfl))), ?_⟩)
  obtain ⟨hl, x, dx, r, rfl, h1, q⟩ := h
  match r, hl with
  | [k], _ =>
    refine ⟨_, rfl, _, rfl, x, _, dx, [], rfl, h1, t.k_Reader.cl, t.n_Reader_numbers, (by show 0 < 1000; decide), ?_⟩
    refine ⟨_, rfl, x, _, dx, _, rfl, upd_same, t.k_Reader.cl, t.n_Reader_place, (by show 1 < 1000; decide), ?_⟩
    rw [upd_upd, w_Reader]
    exact q
theorem ok_Reader_take (t : T K mg) : FnOk P w K mg base (L2.CX P w) 2 t.d_Reader_take.f t.d_Reader_take.d ["self"] (spTake t) := by
  have G_Reader_at_end := ok_Reader_at_end (P := P) (w := w) (base := base) t
  refine t.d_Reader_take.F.okX sc_Reader_take (fun vs H Q E h => by obtain ⟨r, na, M, ns, i, rfl, _⟩ := h; rfl) (fun cdv A outer s H vs Q E hr h => ⟨_, (pss_cons (ps_if (pt_val (pmeth0 (pv 0) t.k_Reader.cl t.d_Reader_at_end G_Reader_at_end (hr.mono (by omega)))) (pss_one (ps_raise rfl (takes_of rfl rfl rfl rfl) (praise t.x_NotWhole rfl))) pss_nil)
  (pss_cons (ps_set (i := 1) sc_Reader_take.nd rfl (Or.inl rfl) (pe_ix ix_list (pe_fld (pv 0) rfl) (pe_fld (pv 0) rfl) (fun _ _ => rfl)))
  (pss_cons (ps_fld (pv 0) (pe_op op_add (pe_fld (pv 0) rfl) pe_int) rfl)
  (pss_one (ps_ret (pv 1)))))), ?_⟩)
  obtain ⟨r, na, M, ns, i, rfl, hR, kN, kS⟩ := h
  obtain ⟨⟨dx, h1⟩, h2, h3, h5⟩ := id hR
  refine q_when (b := decide (ns.drop i = [])) (et_B (ev_meth (ev_var rfl) h1 m_Reader_at_end ea_nil (spV_use rfl fun H1 e => ⟨r, na, M, ns, i, rfl, hR.ex e, rfl⟩))) (fun e H1 e1 => ?_) (fun e H1 e1 => ?_)
  · exact kN (by rw [of_decide_eq_true e]; rfl) _ (.of e1)
  · have hi : i < ns.length := by
      have := of_decide_eq_false e
      rw [List.drop_eq_nil_iff] at this
      omega
    refine q_asg (v := .int ns[i]) (ev_op (ev_fld (ev_var rfl) (e1 _ _ h1) t.k_Reader.cl t.n_Reader_numbers l_Reader_numbers) (ev_fld (ev_var rfl) (e1 _ _ h1) t.k_Reader.cl t.n_Reader_place l_Reader_place) (rv_ixL (ex_l e1 h2.sq) (atI_nat (by rw [List.getElem?_map, List.getElem?_eq_getElem hi]; rfl)))) (fun H2 e2 => ?_)
    have e02 := e1.trans e2
    refine s_fld (D := _) (ev_op (ev_fld (ev_var rfl) (e02 _ _ h1) t.k_Reader.cl t.n_Reader_place l_Reader_place) ev_c rv_I0) (ev_var rfl) (e02 _ _ h1) t.k_Reader.cl t.n_Reader_place (by show 2 < 1000; decide) (fun H3 e3 => ?_)
    rw [p_Reader_place]
    have e03 := e02.trans e3
    exact ⟨_, rfl, kS ns[i] (i + 1) (by rw [List.drop_eq_getElem_cons hi]; rfl) _ _ ((But.of e03).upd) ⟨⟨dx, upd_same⟩, far_but (But.upd (.of e03)) h1 h2, hi, h5⟩ rfl⟩
end
end G
/-! Reading on: numbers within bounds, lists, the end. -/
namespace G
open PySem PySem.Spec PyProof.Rows L2 Evl My
section
variable {K : PySem.W.Frag} {mg : Str → Option Value} {P : Program} {w : World} {base : Heap}
theorem ok_Reader_take_within (t : T K mg) : FnOk P w K mg base (L2.CX P w) 3 t.d_Reader_take_within.f t.d_Reader_take_within.d ["self", "low", "high"] (spWithin t) := by
  have G_Reader_take := ok_Reader_take (P := P) (w := w) (base := base) t
  refine t.d_Reader_take_within.F.okX sc_Reader_take_within (fun vs H Q E h => by obtain ⟨r, na, M, ns, i, lo, hi, rfl, _⟩ := h; rfl) (fun cdv A outer s H vs Q E hr h => ⟨_, (pss_cons (ps_set (i := 3) sc_Reader_take_within.nd rfl (Or.inl rfl) (pmethS0 (pv 0) t.k_Reader.cl t.d_Reader_take G_Reader_take (hr.mono (by omega)) (takes_of rfl rfl rfl rfl)))
  (pss_cons (ps_if (PW.pt (pw_or (pt_cmpR op_lt (pv 3) (pv 1) (nomark _)) (pw_or1 (pt_cmpR op_gt (pv 3) (pv 2) (nomark _))))) (pss_one (ps_raise rfl (takes_of rfl rfl rfl rfl) (praise t.x_NotWhole rfl))) pss_nil)
  (pss_one (ps_ret (pv 3))))), ?_⟩)
  obtain ⟨r, na, M, ns, i, lo, hi, rfl, hR, kN, kS⟩ := h
  obtain ⟨dx, h1⟩ := hR.o
  refine q_asgM (ev_var rfl) h1 m_Reader_take ea_nil fun H1 e1 => ⟨r, na, M, ns, i, rfl, hR.ex e1, fun e H2 b2 => kN ?_ H2 ((But.of e1).trans b2), fun n j e H2 v b2 hR2 hv => ?_⟩
  · cases q : ns.drop i with
    | nil => rfl
    | cons _ _ => rw [q] at e; cases e
  obtain rfl : v = .int n := hv
  have ed : ns.drop i = n :: ns.drop j := by
    cases q : ns.drop i with
    | nil => rw [q] at e; cases e
    | cons _ _ => rw [q] at e; cases e; rfl
  have b12 := (But.of e1).trans b2
  refine q_when (b := decide (n < lo) || decide (hi < n)) ?_ (fun e H2 e2 => ?_) (fun e H2 e2 => ?_)
  · exact et_or2 (et_test (ev_op (ev_var rfl) (ev_var rfl) rv_I0)) (et_test (ev_op (ev_var rfl) (ev_var rfl) rv_I0))
  · refine kN ?_ _ (b12.trans (.of e2))
    rw [ed]
    refine if_neg fun z => ?_
    rw [decide_eq_false (by omega), decide_eq_false (by omega)] at e
    cases e
  · rw [Bool.or_eq_false_iff] at e
    have c1 := of_decide_eq_false e.1
    have c2 := of_decide_eq_false e.2
    exact ⟨_, rfl, kS n j (by rw [ed]; exact if_pos ⟨by omega, by omega⟩) _ _ (b12.trans (.of e2)) (hR2.ex e2) rfl⟩
/-- the list is read whole -/
def spFinish (t : T K mg) : Sp := fun vs H Q E => ∃ r na M ns i, vs = [.ref r] ∧ RdAt t H r na M ns i ∧ (ns.drop i ≠ [] → ∀ H', Ex H H' → E (.ref t.x_NotWhole.C) none H') ∧ (ns.drop i = [] → ∀ H', Ex H H' → Q .non H')
theorem ok_Reader_finish (t : T K mg) : FnOk P w K mg base (L2.CX P w) 2 t.d_Reader_finish.f t.d_Reader_finish.d ["self"] (spFinish t) := by
  have G_Reader_at_end := ok_Reader_at_end (P := P) (w := w) (base := base) t
  refine t.d_Reader_finish.F.okX sc_Reader_finish (fun vs H Q E h => by obtain ⟨r, na, M, ns, i, rfl, _⟩ := h; rfl) (fun cdv A outer s H vs Q E hr h => ⟨_, (pss_one (ps_if (pt_not (pt_val (pmeth0 (pv 0) t.k_Reader.cl t.d_Reader_at_end G_Reader_at_end (hr.mono (by omega))))) (pss_one (ps_raise rfl (takes_of rfl rfl rfl rfl) (praise t.x_NotWhole rfl))) pss_nil)), ?_⟩)
  obtain ⟨r, na, M, ns, i, rfl, hR, kN, kS⟩ := h
  obtain ⟨dx, h1⟩ := hR.o
  refine s_when (b := !decide (ns.drop i = [])) (et_not (et_B (ev_meth (ev_var rfl) h1 m_Reader_at_end ea_nil (spV_use rfl fun H1 e => ⟨r, na, M, ns, i, rfl, hR.ex e, rfl⟩)))) (fun e H1 e1 => ?_) (fun e H1 e1 => ?_)
  · exact kN (by simpa using e) _ e1
  · exact kS (by simpa using e) _ e1
/-- so many numbers -/
def takesM : Nat → List Int → Option (List Int × List Int)
  | 0, x => some ([], x)
  | k + 1, x => match x with
    | [] => none
    | n :: y => (takesM k y).map fun u => (n :: u.1, u.2)
theorem takesM_eq : ∀ (k : Nat) (x : List Int), takesM k x = if k ≤ x.length then some (x.take k, x.drop k) else none
  | 0, x => by simp [takesM]
  | k + 1, [] => by simp [takesM]
  | k + 1, n :: y => by
    show (takesM k y).map _ = _
    rw [takesM_eq k y]
    by_cases c : k ≤ y.length
    · rw [if_pos c, if_pos (by simpa using c)]; rfl
    · rw [if_neg c, if_neg (by simpa using c)]; rfl
theorem takesM_none {k i : Nat} {y : List Int} (h1 : i < k) (h2 : y.drop i = []) : takesM k y = none := by
  rw [takesM_eq, if_neg]
  rw [List.drop_eq_nil_iff] at h2
  omega
/-- a list, its length ahead of it -/
def takeListM : List Int → Option (List Int × List Int)
  | [] => none
  | n :: y => takesM n.toNat y
def isList : Hp → Hp → List Int → V → Prop := fun H0 H l v => ∃ a, v = .ref a ∧ H0 a = none ∧ H a = some (.lst (l.map V.int))
def spTakeList (t : T K mg) : Sp := fun vs H Q E => ∃ r na M ns i, vs = [.ref r] ∧ (∀ n y, ns.drop i = n :: y → 0 ≤ n ∧ n ≤ 100000) ∧ Rds t H r na M ns i (takeListM (ns.drop i)) (isList H) Q E
/-- a new address ahead of an extension, with r changed -/
theorem fresh_but {H H' : Hp} {r l : Addr} (b : But r H H') (h : H' l = none) (n : l ≠ r) : H l = none := by
  cases q : H l with
  | none => rfl
  | some o =>
    have := b l o q n
    rw [h] at this
    cases this
theorem ok_Reader_take_list (t : T K mg) : FnOk P w K mg base (L2.CX P w) 3 t.d_Reader_take_list.f t.d_Reader_take_list.d ["self"] (spTakeList t) := by
  have G_Reader_take := ok_Reader_take (P := P) (w := w) (base := base) t
  refine t.d_Reader_take_list.F.okX sc_Reader_take_list (fun vs H Q E h => by obtain ⟨r, na, M, ns, i, rfl, _⟩ := h; rfl) (fun cdv A outer s H vs Q E hr h => ⟨_, (pss_cons (ps_set (i := 1) sc_Reader_take_list.nd rfl (Or.inl rfl) (pmethS0 (pv 0) t.k_Reader.cl t.d_Reader_take G_Reader_take (hr.mono (by omega)) (takes_of rfl rfl rfl rfl)))
  (pss_cons (ps_set (i := 2) sc_Reader_take_list.nd rfl (Or.inl rfl) (pe_lst pa_nil))
  (pss_cons (ps_for (passes_of rfl) rfl (pi_range1 rfl t.z_range (pa_cons (pv 1) pa_nil)) (pg_name (i := 3) sc_Reader_take_list.nd rfl (Or.inl rfl)) (pss_one (ps_expr (pe_bm PySem.F.plainAttrs_list PySem.F.slot_list_append PySem.F.type_list_append mt_append (pv 2) (pa_cons (pmethS0 (pv 0) t.k_Reader.cl t.d_Reader_take G_Reader_take (hr.mono (by omega)) (takes_of rfl rfl rfl rfl)) pa_nil)))))
  (pss_one (ps_ret (pv 2)))))), ?_⟩)
  obtain ⟨r, na, M, ns, j0, rfl, hx, hR, kN, kS⟩ := h
  obtain ⟨dx, h1⟩ := hR.o
  refine q_asgM (ev_var rfl) h1 m_Reader_take ea_nil fun H1 e1 => ⟨r, na, M, ns, j0, rfl, hR.ex e1, fun e H2 b2 => kN ?_ H2 ((But.of e1).trans b2), fun n j e H2 v b2 hR2 hv => ?_⟩
  · cases q : ns.drop j0 with
    | nil => rfl
    | cons _ _ => rw [q] at e; cases e
  obtain rfl : v = .int n := hv
  have ed : ns.drop j0 = n :: ns.drop j := by
    cases q : ns.drop j0 with
    | nil => rw [q] at e; cases e
    | cons _ _ => rw [q] at e; cases e; rfl
  have hn := hx n _ ed
  refine q_asgL (el_lst ea_nil (by decide)) fun l H3 hl e3 hl3 => ?_
  have b3 : But r H H3 := ((But.of e1).trans b2).trans (.of e3)
  have hlr : l ≠ r := by
    rintro rfl
    obtain ⟨d2, q⟩ := hR2.o
    rw [hl] at q
    cases q
  have hl1 : H l = none := fresh_but ((But.of e1).trans b2) hl hlr
  refine q_forR1 (n := n) (ea_cons (ev_var rfl) ea_nil) hn (fun i σ' H' => ∃ pv, σ' = [some (.ref r), some (.int n), some (.ref l), pv] ∧ But r H H' ∧ RdAt t H' r na M ns (j + i) ∧ H' l = some (.lst (((ns.drop j).take i).map V.int))) (fun H4 e4 => ⟨none, rfl, b3.trans (.of e4), (hR2.ex e3).ex e4, e4 _ _ hl3⟩) ?_ ?_
  · rintro i σ' H' hi ⟨pv, rfl, b', hR', hl'⟩
    obtain ⟨dx', h1'⟩ := hR'.o
    refine ⟨_, rfl, .inl ⟨rfl, _, SqL.of hl'⟩, _, rfl, r, _, _, rfl, h1', m_Reader_take, r, na, M, ns, j + i, rfl, hR', fun e H5 b5 => kN ?_ H5 (b'.trans b5), fun m z e H5 v b5 hR5 hv => ?_⟩
    · rw [ed]
      show takesM n.toNat _ = none
      refine takesM_none (i := i) (by omega) ?_
      rw [List.drop_drop]
      cases q : ns.drop (j + i) with
      | nil => rfl
      | cons _ _ => rw [q] at e; cases e
    · obtain rfl : v = .int m := hv
      have ed2 : ns.drop (j + i) = m :: ns.drop z := by
        cases q : ns.drop (j + i) with
        | nil => rw [q] at e; cases e
        | cons _ _ => rw [q] at e; cases e; rfl
      have hlt : j + i < ns.length := by
        have := congrArg List.length ed2
        rw [List.length_drop, List.length_cons] at this
        omega
      have em : ns[j + i] = m ∧ ns.drop (j + i + 1) = ns.drop z := by
        rw [List.drop_eq_getElem_cons hlt] at ed2
        exact ⟨(List.cons.inj ed2).1, (List.cons.inj ed2).2⟩
      have ez : z = j + i + 1 := by
        have := congrArg List.length em.2
        rw [List.length_drop, List.length_drop] at this
        have := hR5.le
        omega
      subst ez
      have hlen : (((ns.drop j).take i).map V.int).length < sizeLine := by
        rw [List.length_map, List.length_take]
        exact Nat.lt_of_le_of_lt (Nat.min_le_left _ _) (sz_lt (by omega))
      have bb : But r H (upd H5 l (.lst (((ns.drop j).take i).map V.int ++ [.int m]))) := fun b o hb hbr => by
        rw [upd_ne (ne_of_none hb hl1)]
        exact b5 b o (b' b o hb hbr) hbr
      refine ⟨l, _, .int m, rfl, rfl, b5 _ _ hl' hlr, hlen, some (.int i), rfl, bb, ⟨?_, far_but bb h1 hR.q, by omega, hR.sz⟩, ?_⟩
      · obtain ⟨dx5, q1⟩ := hR5.o
        exact ⟨dx5, by rw [upd_ne (Ne.symm hlr)]; exact q1⟩
      · rw [upd_same, ← em.1, List.take_succ_eq_append_getElem (by rw [List.length_drop]; omega), List.map_append, List.getElem_drop]
        rfl
  · rintro σ' H' ⟨pv, rfl, b', hR', hl'⟩
    refine ⟨_, rfl, kS ((ns.drop j).take n.toNat) (j + n.toNat) ?_ H' _ b' hR' ⟨l, rfl, hl1, hl'⟩⟩
    rw [ed]
    show takesM n.toNat _ = _
    have := hR'.le
    rw [takesM_eq, if_pos (by rw [List.length_drop]; omega), List.drop_drop]
end
end G
/-! Deeds read. -/
namespace G
open PySem PySem.Spec PyProof.Rows L2 Evl My
section
variable {K : PySem.W.Frag} {mg : Str → Option Value} {P : Program} {w : World} {base : Heap}
def spRead {A : Type} (t : T K mg) (rd : List Int → Option (A × List Int)) (val : Hp → Hp → A → V → Prop) : Sp := fun vs H Q E => ∃ r na M ns i, vs = [.ref r] ∧ Rds t H r na M ns i (rd (ns.drop i)) (val H) Q E
theorem spRead_len {A : Type} {t : T K mg} {rd : List Int → Option (A × List Int)} {val : Hp → Hp → A → V → Prop} {vs : List V} {H : Hp} {Q : VK} {E : XK} (h : spRead t rd val vs H Q E) : vs.length = 1 := by
  obtain ⟨r, na, M, ns, i, rfl, _⟩ := h
  rfl
def isNat : Hp → Hp → Nat → V → Prop := fun _ _ n v => v = .int n
def isVal : Hp → Hp → Int → V → Prop := fun _ _ n v => v = .int n
theorem ok_read_field (t : T K mg) : FnOk P w K mg base (L2.CX P w) 4 t.d_read_field.f t.d_read_field.d ["reader"] (spRead t VamacBase.readField isNat) := by
  have G_Reader_take_within := ok_Reader_take_within (P := P) (w := w) (base := base) t
  refine t.d_read_field.F.okX sc_read_field (fun vs H Q E h => spRead_len h) (fun cdv A outer s H vs Q E hr h => ⟨_, (pss_one (ps_ret (pmethS (pv 0) t.k_Reader.cl t.d_Reader_take_within G_Reader_take_within (hr.mono (by omega)) (takes_of rfl rfl rfl rfl) (by exact (pa_cons pe_int (pa_cons (pe_op op_sub (pe_cst rfl t.c_FIELDS) pe_int) pa_nil)))))), ?_⟩)
  obtain ⟨r, na, M, ns, i, rfl, hR, kN, kS⟩ := h
  obtain ⟨dx, h1⟩ := hR.o
  refine s_retM (ev_var rfl) h1 m_Reader_take_within (ea_cons ev_c (ea_cons (ev_op ev_c ev_c rv_I0) ea_nil)) fun H1 e1 => ⟨r, na, M, ns, i, 0, 2, rfl, hR.ex e1, fun e H2 b2 => kN (nat_none (lo := 0) (hi := 2) e) H2 ((But.of e1).trans b2), fun n j e H2 v b2 hR2 hv => ?_⟩
  obtain rfl : v = .int n := hv
  obtain ⟨q1, q2, _⟩ := nat_some (lo := 0) (hi := 2) e
  exact kS n.toNat j q1 H2 _ ((But.of e1).trans b2) hR2 (congrArg V.int q2.symm)
theorem ok_read_value (t : T K mg) : FnOk P w K mg base (L2.CX P w) 4 t.d_read_value.f t.d_read_value.d ["reader"] (spRead t VamacBase.readValue isVal) := by
  have G_Reader_take_within := ok_Reader_take_within (P := P) (w := w) (base := base) t
  refine t.d_read_value.F.okX sc_read_value (fun vs H Q E h => spRead_len h) (fun cdv A outer s H vs Q E hr h => ⟨_, (pss_one (ps_ret (pmethS (pv 0) t.k_Reader.cl t.d_Reader_take_within G_Reader_take_within (hr.mono (by omega)) (takes_of rfl rfl rfl rfl) (by exact (pa_cons (pe_un un_neg (pe_cst rfl t.c_FARTHEST_VALUE)) (pa_cons (pe_cst rfl t.c_FARTHEST_VALUE) pa_nil)))))), ?_⟩)
  obtain ⟨r, na, M, ns, i, rfl, hR, kN, kS⟩ := h
  obtain ⟨dx, h1⟩ := hR.o
  rw [value_eq] at kN kS
  exact s_retM (ev_var rfl) h1 m_Reader_take_within (ea_cons (ev_un ev_c ru_neg) (ea_cons ev_c ea_nil)) fun H1 e1 => ⟨r, na, M, ns, i, -999, 999, rfl, hR.ex e1, fun e H2 b2 => kN e H2 ((But.of e1).trans b2), fun n j e H2 v b2 hR2 hv => kS n j e H2 v ((But.of e1).trans b2) hR2 hv⟩
/-- the object of a deed with its step -/
def DeedAt (t : T K mg) (H : Hp) (a : Addr) (d : VamacBase.Deed) (s : Int) : Prop := DeedO t H a (kindOf d) (.int (fieldOf d)) (.int (VamacBase.numberOf d)) (.int s)
def isDeed (t : T K mg) : Hp → Hp → VamacBase.Deed → V → Prop := fun H0 H d v => ∃ a, v = .ref a ∧ H0 a = none ∧ DeedAt t H a d 0
theorem RdAt.upd {t : T K mg} {H : Hp} {r na M a : Addr} {ns : List Int} {i : Nat} {C dx : Addr} {fs : List (Str × V)} {o : HO} (h : RdAt t H r na M ns i) (ho : H a = some (.ins C dx fs)) (n : a ≠ r) : RdAt t (L2.upd H a o) r na M ns i :=
  ⟨h.o.imp fun _ q => by rw [upd_ne (Ne.symm n)]; exact q, far_but (But.upd (But.refl a H)) ho h.q, h.le, h.sz⟩
theorem But.upd2 {r a : Addr} {H H' : Hp} {o : HO} (b : But r H H') (n : H a = none) : But r H (L2.upd H' a o) := fun c u h m => by
  rw [upd_ne (ne_of_none h n)]
  exact b c u h m
/-- a new instance, its fields set -/
theorem made_ex {H : Hp} {a da C : Addr} {f0 fs : List (Str × V)} (ha : H a = none) (hd : H da = none) (ne : da ≠ a) :
    Ex H (L2.upd (L2.upd (L2.upd H da (.own a)) a (.ins C da f0)) a (.ins C da fs)) ∧ (L2.upd (L2.upd (L2.upd H da (.own a)) a (.ins C da f0)) a (.ins C da fs)) a = some (.ins C da fs) :=
  ⟨fun b o h => by rw [upd_upd, upd_ne (ne_of_none h ha), upd_ne (ne_of_none h hd)]; exact h, upd_same⟩
theorem ok_read_deed (t : T K mg) : FnOk P w K mg base (L2.CX P w) 5 t.d_read_deed.f t.d_read_deed.d ["reader"] (spRead t VamacBase.readDeed (isDeed t)) := by
  have G_Reader_take_within := ok_Reader_take_within (P := P) (w := w) (base := base) t
  have G_Deed_init := ok_Deed_init (P := P) (w := w) (base := base) t
  have G_Deed_has_field := ok_Deed_has_field (P := P) (w := w) (base := base) t
  have G_Deed_has_value := ok_Deed_has_value (P := P) (w := w) (base := base) t
  have G_read_field := ok_read_field (P := P) (w := w) (base := base) t
  have G_read_value := ok_read_value (P := P) (w := w) (base := base) t
  refine t.d_read_deed.F.okX sc_read_deed (fun vs H Q E h => spRead_len h) (fun cdv A outer s H vs Q E hr h => ⟨_, (pss_cons (ps_set (i := 1) sc_read_deed.nd rfl (Or.inl rfl) (pmake t.d_Deed_init t.k_Deed.g G_Deed_init (hr.mono (by omega)) rfl (pa_cons (pmethS (pv 0) t.k_Reader.cl t.d_Reader_take_within G_Reader_take_within (hr.mono (by omega)) (takes_of rfl rfl rfl rfl) (by exact (pa_cons (pe_cst rfl t.c_DOWN) (pa_cons (pe_cst rfl t.c_FIND) pa_nil)))) pa_nil)))
  (pss_cut (ps_if (pt_val (pmeth0 (pv 1) t.k_Deed.cl t.d_Deed_has_field G_Deed_has_field (hr.mono (by omega)))) (pss_one (ps_fld (pv 1) (pcallS t.d_read_field G_read_field (hr.mono (by omega)) rfl (takes_of rfl rfl rfl rfl) (pa_cons (pv 0) pa_nil)) rfl)) pss_nil)
  (pss_cut (ps_if (pt_val (pmeth0 (pv 1) t.k_Deed.cl t.d_Deed_has_value G_Deed_has_value (hr.mono (by omega)))) (pss_one (ps_fld (pv 1) (pcallS t.d_read_value G_read_value (hr.mono (by omega)) rfl (takes_of rfl rfl rfl rfl) (pa_cons (pv 0) pa_nil)) rfl)) pss_nil)
  (pss_one (ps_ret (pv 1)))))), ?_⟩)
  obtain ⟨r, na, M, ns, i, rfl, hR, kN, kS⟩ := h
  obtain ⟨dx, h1⟩ := hR.o
  rw [deed_eq] at kN kS
  -- deed = Deed(reader.take_within(DOWN, FIND))
  refine ⟨_, rfl, r, _, _, rfl, h1, m_Reader_take_within, r, na, M, ns, i, 0, 9, rfl, hR, fun e H2 b2 => kN (by unfold deedM; rw [e]; rfl) H2 b2, fun k j e H2 v b2 hR2 hv a da ha hda hne => ?_⟩
  obtain rfl : v = .int k := hv
  obtain ⟨_, k1, k2⟩ := withinM_some e
  refine ⟨rfl, a, da, [.int k], rfl, upd_same, rfl, ?_⟩
  obtain ⟨e3, d3⟩ := made_ex (C := t.k_Deed.C) (fs := fs_Deed (.int k) (.int 0) (.int 0) (.int 0)) ha hda hne
  dsimp only [gName]
  generalize L2.upd _ _ _ = H3 at e3 d3 ⊢
  have har : a ≠ r := by
    rintro rfl
    obtain ⟨d2, q⟩ := hR2.o
    rw [ha] at q
    cases q
  have ha0 : H a = none := fresh_but b2 ha har
  have b3 := b2.trans (.of e3)
  refine q_cut (M := fun σ' H' => ∃ f j2, σ' = [some (.ref r), some (.ref a)] ∧ But r H H' ∧ RdAt t H' r na M ns j2 ∧ DeedO t H' a k (.int (f : Nat)) (.int 0) (.int 0) ∧
    (if decide (k ∈ ([3, 4, 5, 6, 9] : List Int)) then VamacBase.readField (ns.drop j) else some (0, ns.drop j)) = some (f, ns.drop j2)) ?_ ?_
  · refine s_when (b := decide (k ∈ ([3, 4, 5, 6, 9] : List Int))) (et_B (ev_meth (ev_var rfl) d3 m_Deed_has_field ea_nil (spV_use rfl fun H' e' => ⟨a, k, _, _, _, rfl, ⟨da, e' _ _ d3⟩, rfl⟩))) (fun hb H4 e4 => ?_) (fun hb H4 e4 => ?_)
    · refine ⟨_, rfl, r, na, M, ns, j, rfl, (hR2.ex e3).ex e4, fun e' H5 b5 => kN ?_ H5 ((b3.trans (.of e4)).trans b5), fun f j2 e' H5 v b5 hR5 hv => ?_⟩
      · unfold deedM
        rw [e]
        show (Option.bind (if decide (k ∈ ([3, 4, 5, 6, 9] : List Int)) then VamacBase.readField (ns.drop j) else _) _) = none
        rw [if_pos hb, e']
        rfl
      · obtain rfl : v = .int f := hv
        have d5 := b5 _ _ (e4 _ _ d3) har
        refine ⟨_, rfl, a, _, da, _, rfl, d5, t.k_Deed.cl, t.n_Deed_field, (by show 4 < 1000; decide), f, j2, rfl, ((b3.trans (.of e4)).trans b5).upd2 ha0, hR5.upd d5 har, ⟨da, ?_⟩, ?_⟩
        · rw [upd_same, p_Deed_field]
        · rw [if_pos hb]
          exact e'
    · refine ⟨0, j, rfl, b3.trans (.of e4), (hR2.ex e3).ex e4, ⟨da, e4 _ _ d3⟩, ?_⟩
      rw [hb]
      rfl
  rintro σ' H5 ⟨f, j2, rfl, b5, hR5, ⟨da', d5⟩, ef⟩
  refine q_cut (M := fun σ' H' => ∃ v j3, σ' = [some (.ref r), some (.ref a)] ∧ But r H H' ∧ RdAt t H' r na M ns j3 ∧ DeedO t H' a k (.int (f : Nat)) (.int v) (.int 0) ∧
    (if decide (k ∈ ([3, 4, 9] : List Int)) then VamacBase.readValue (ns.drop j2) else some (0, ns.drop j2)) = some (v, ns.drop j3)) ?_ ?_
  · refine s_when (b := decide (k ∈ ([3, 4, 9] : List Int))) (et_B (ev_meth (ev_var rfl) d5 m_Deed_has_value ea_nil (spV_use rfl fun H' e' => ⟨a, k, _, _, _, rfl, ⟨da', e' _ _ d5⟩, rfl⟩))) (fun hb H6 e6 => ?_) (fun hb H6 e6 => ?_)
    · refine ⟨_, rfl, r, na, M, ns, j2, rfl, hR5.ex e6, fun e' H7 b7 => kN ?_ H7 ((b5.trans (.of e6)).trans b7), fun v j3 e' H7 u b7 hR7 hv => ?_⟩
      · unfold deedM
        rw [e]
        show (Option.bind (if decide (k ∈ ([3, 4, 5, 6, 9] : List Int)) then VamacBase.readField (ns.drop j) else some (0, ns.drop j)) _) = none
        rw [ef]
        show Option.map _ (if decide (k ∈ ([3, 4, 9] : List Int)) then VamacBase.readValue (ns.drop j2) else _) = none
        rw [if_pos hb, e']
        rfl
      · obtain rfl : u = .int v := hv
        have d7 := b7 _ _ (e6 _ _ d5) har
        refine ⟨_, rfl, a, _, da', _, rfl, d7, t.k_Deed.cl, t.n_Deed_value, (by show 4 < 1000; decide), v, j3, rfl, ((b5.trans (.of e6)).trans b7).upd2 ha0, hR7.upd d7 har, ⟨da', ?_⟩, ?_⟩
        · rw [upd_same, p_Deed_value]
        · rw [if_pos hb]
          exact e'
    · refine ⟨0, j2, rfl, b5.trans (.of e6), hR5.ex e6, ⟨da', e6 _ _ d5⟩, ?_⟩
      rw [hb]
      rfl
  rintro σ' H7 ⟨v, j3, rfl, b7, hR7, d7, ev⟩
  refine ⟨_, rfl, kS (deedOf k f v) j3 ?_ H7 _ b7 hR7 ⟨a, rfl, ha0, ?_⟩⟩
  · unfold deedM
    rw [e]
    show (Option.bind (if decide (k ∈ ([3, 4, 5, 6, 9] : List Int)) then VamacBase.readField (ns.drop j) else some (0, ns.drop j)) _) = _
    rw [ef]
    show Option.map _ (if decide (k ∈ ([3, 4, 9] : List Int)) then VamacBase.readValue (ns.drop j2) else some (0, ns.drop j2)) = _
    rw [ev]
    rfl
  · unfold DeedAt
    rw [kind_deedOf k1 k2, field_deedOf k1 k2, number_deedOf k1 k2]
    · exact d7
    · by_cases c : k ∈ ([3, 4, 9] : List Int)
      · exact .inl c
      · rw [decide_eq_false c] at ev
        exact .inr (Prod.mk.inj (Option.some.inj ev)).1.symm
    · by_cases c : k ∈ ([3, 4, 5, 6, 9] : List Int)
      · exact .inl c
      · rw [decide_eq_false c] at ef
        exact .inr (Prod.mk.inj (Option.some.inj ef)).1.symm
end
end G
/-! Heads of pieces read. -/
namespace G
open PySem PySem.Spec PyProof.Rows L2 Evl My
section
variable {K : PySem.W.Frag} {mg : Str → Option Value} {P : Program} {w : World} {base : Heap}
def isStepped (t : T K mg) : Hp → Hp → VamacBase.Deed × Int → V → Prop := fun H0 H u v => ∃ a, v = .ref a ∧ H0 a = none ∧ DeedAt t H a u.1 u.2
theorem ok_read_stepped_deed (t : T K mg) : FnOk P w K mg base (L2.CX P w) 6 t.d_read_stepped_deed.f t.d_read_stepped_deed.d ["reader"] (spRead t steppedM (isStepped t)) := by
  have G_read_deed := ok_read_deed (P := P) (w := w) (base := base) t
  have G_Deed_has_value := ok_Deed_has_value (P := P) (w := w) (base := base) t
  have G_read_value := ok_read_value (P := P) (w := w) (base := base) t
  refine t.d_read_stepped_deed.F.okX sc_read_stepped_deed (fun vs H Q E h => spRead_len h) (fun cdv A outer s H vs Q E hr h => ⟨_, (pss_cons (ps_set (i := 1) sc_read_stepped_deed.nd rfl (Or.inl rfl) (pcallS t.d_read_deed G_read_deed (hr.mono (by omega)) rfl (takes_of rfl rfl rfl rfl) (pa_cons (pv 0) pa_nil)))
  (pss_cut (ps_if (pt_val (pmeth0 (pv 1) t.k_Deed.cl t.d_Deed_has_value G_Deed_has_value (hr.mono (by omega)))) (pss_one (ps_fld (pv 1) (pcallS t.d_read_value G_read_value (hr.mono (by omega)) rfl (takes_of rfl rfl rfl rfl) (pa_cons (pv 0) pa_nil)) rfl)) pss_nil)
  (pss_one (ps_ret (pv 1))))), ?_⟩)
  obtain ⟨r, na, M, ns, i, rfl, hR, kN, kS⟩ := h
  refine q_asgS (ea_cons (ev_var rfl) ea_nil) fun H1 e1 => ⟨r, na, M, ns, i, rfl, hR.ex e1, fun e H2 b2 => kN (by unfold steppedM; rw [e]; rfl) H2 ((But.of e1).trans b2), fun d j e H2 v b2 hR2 hv => ?_⟩
  obtain ⟨a, rfl, ha1, da, hd⟩ := hv
  have har : a ≠ r := by
    rintro rfl
    obtain ⟨d2, q⟩ := hR.o
    rw [e1 _ _ q] at ha1
    cases ha1
  have ha0 : H a = none := fresh_back e1 ha1
  have b12 := (But.of e1).trans b2
  refine q_cut (M := fun σ' H' => ∃ s j2, σ' = [some (.ref r), some (.ref a)] ∧ But r H H' ∧ RdAt t H' r na M ns j2 ∧ DeedAt t H' a d s ∧ (if VamacBase.hasNumber d then VamacBase.readValue (ns.drop j) else some (0, ns.drop j)) = some (s, ns.drop j2)) ?_ ?_
  · refine s_when (b := VamacBase.hasNumber d) (et_B (ev_is (ev_meth (ev_var rfl) hd m_Deed_has_value ea_nil (spV_use rfl fun H' e' => ⟨a, _, _, _, _, rfl, ⟨da, e' _ _ hd⟩, rfl⟩)) (congrArg V.bl (hasNumber_kind d).symm))) (fun hb H4 e4 => ?_) (fun hb H4 e4 => ?_)
    · refine ⟨_, rfl, r, na, M, ns, j, rfl, hR2.ex e4, fun e' H5 b5 => kN ?_ H5 ((b12.trans (.of e4)).trans b5), fun s j2 e' H5 v b5 hR5 hv => ?_⟩
      · unfold steppedM
        rw [e]
        show Option.map _ (if VamacBase.hasNumber d then VamacBase.readValue (ns.drop j) else _) = none
        rw [if_pos hb, e']
        rfl
      · obtain rfl : v = .int s := hv
        have d5 := b5 _ _ (e4 _ _ hd) har
        refine ⟨_, rfl, a, _, da, _, rfl, d5, t.k_Deed.cl, t.n_Deed_step, (by show 4 < 1000; decide), s, j2, rfl, ((b12.trans (.of e4)).trans b5).upd2 ha0, hR5.upd d5 har, ⟨da, ?_⟩, ?_⟩
        · rw [upd_same, p_Deed_step]
        · rw [if_pos hb]
          exact e'
    · refine ⟨0, j, rfl, b12.trans (.of e4), hR2.ex e4, ⟨da, e4 _ _ hd⟩, ?_⟩
      rw [hb]
      rfl
  rintro σ' H5 ⟨s, j2, rfl, b5, hR5, hd5, es⟩
  refine ⟨_, rfl, kS (d, s) j2 ?_ H5 _ b5 hR5 ⟨a, rfl, ha0, hd5⟩⟩
  unfold steppedM
  rw [e]
  show Option.map _ (if VamacBase.hasNumber d then VamacBase.readValue (ns.drop j) else some (0, ns.drop j)) = _
  rw [es]
  rfl
/-! ### new loops and parts -/
def spMk (n : Nat) (C : Addr) (R : List V → List (Str × V) → Prop) : Sp := fun vs H Q _ => vs.length = n ∧ ∃ x dx r, vs = .ref x :: r ∧ H x = some (.ins C dx []) ∧ ∀ H' fs, But x H H' → H' x = some (.ins C dx fs) → R r fs → Q .non H'
theorem ok_Loop_init (t : T K mg) : FnOk P w K mg base CX0 1 t.d_Loop_init.f t.d_Loop_init.d ["self", "rounds"] (spMk 2 t.k_Loop.C fun r fs => ∃ n l, r = [n] ∧ fs = fs_Loop n l) := by
  refine t.d_Loop_init.F.ok sc_Loop_init (fun vs H Q E h => h.1) (fun cdv A outer s H vs Q E hr h => ⟨_, (pss_cons (ps_fld (pv 0) (pv 1) rfl)
  (pss_one (ps_fld (pv 0) (pe_lst pa_nil) rfl))), ?_⟩)
  obtain ⟨hl, x, dx, r, rfl, h1, q⟩ := h
  match r, hl with
  | [n], _ =>
    refine ⟨_, rfl, _, rfl, x, _, dx, [], rfl, h1, t.k_Loop.cl, t.n_Loop_rounds, (by show 0 < 1000; decide), ?_⟩
    refine ⟨by decide, fun l hl => ?_⟩
    have hlx : x ≠ l := ne_of_none upd_same hl
    refine ⟨_, rfl, x, _, dx, _, rfl, by rw [upd_ne hlx, upd_same], t.k_Loop.cl, t.n_Loop_row, (by show 1 < 1000; decide), q _ _ ?_ upd_same ⟨n, .ref l, rfl, w_Loop⟩⟩
    intro b o hb hn
    rw [upd_ne hn, upd_ne (ne_of_none (by rw [upd_ne hn]; exact hb) hl), upd_ne hn]
    exact hb
theorem ok_LoopToEnd_init (t : T K mg) : FnOk P w K mg base CX0 1 t.d_LoopToEnd_init.f t.d_LoopToEnd_init.d ["self"] (spMk 1 t.k_LoopToEnd.C fun r fs => ∃ l, fs = fs_LoopToEnd l) := by
  refine t.d_LoopToEnd_init.F.ok sc_LoopToEnd_init (fun vs H Q E h => h.1) (fun cdv A outer s H vs Q E hr h => ⟨_, (pss_one (ps_fld (pv 0) (pe_lst pa_nil) rfl)), ?_⟩)
  obtain ⟨hl, x, dx, r, rfl, h1, q⟩ := h
  match r, hl with
  | [], _ =>
    refine ⟨by decide, fun l hl => ?_⟩
    have hlx : x ≠ l := ne_of_none h1 hl
    refine ⟨_, rfl, x, _, dx, _, rfl, by rw [upd_ne hlx]; exact h1, t.k_LoopToEnd.cl, t.n_LoopToEnd_row, (by show 0 < 1000; decide), q _ _ ?_ upd_same ⟨.ref l, w_LoopToEnd⟩⟩
    intro b o hb hn
    rw [upd_ne hn, upd_ne (ne_of_none hb hl)]
    exact hb
theorem ok_Part_init (t : T K mg) : FnOk P w K mg base CX0 1 t.d_Part_init.f t.d_Part_init.d ["self", "field", "value"] (spMk 3 t.k_Part.C fun r fs => ∃ f v l, r = [f, v] ∧ fs = fs_Part f v l) := by
  refine t.d_Part_init.F.ok sc_Part_init (fun vs H Q E h => h.1) (fun cdv A outer s H vs Q E hr h => ⟨_, (pss_cons (ps_fld (pv 0) (pv 1) rfl)
  (pss_cons (ps_fld (pv 0) (pv 2) rfl)
  (pss_one (ps_fld (pv 0) (pe_lst pa_nil) rfl)))), ?_⟩)
  obtain ⟨hl, x, dx, r, rfl, h1, q⟩ := h
  match r, hl with
  | [f, v], _ =>
    refine ⟨_, rfl, _, rfl, x, _, dx, [], rfl, h1, t.k_Part.cl, t.n_Part_field, (by show 0 < 1000; decide), ?_⟩
    refine ⟨_, rfl, _, rfl, x, _, dx, _, rfl, upd_same, t.k_Part.cl, t.n_Part_value, (by show 1 < 1000; decide), ?_⟩
    refine ⟨by decide, fun l hl => ?_⟩
    have hlx : x ≠ l := ne_of_none upd_same hl
    refine ⟨_, rfl, x, _, dx, _, rfl, by rw [upd_ne hlx, upd_same], t.k_Part.cl, t.n_Part_row, (by show 2 < 1000; decide), q _ _ ?_ upd_same ⟨f, v, .ref l, rfl, w_Part⟩⟩
    intro b o hb hn
    rw [upd_ne hn, upd_ne (ne_of_none (by rw [upd_ne hn, upd_ne hn]; exact hb) hl), upd_ne hn, upd_ne hn]
    exact hb
theorem made_but {H H' : Hp} {x dx C : Addr} (hx : H x = none) (hd : H dx = none) (b : But x (L2.upd (L2.upd H dx (.own x)) x (.ins C dx [])) H') : Ex H H' := fun c o h =>
  b c o (by rw [upd_ne (ne_of_none h hx), upd_ne (ne_of_none h hd)]; exact h) (ne_of_none h hx)
/-! ### the head of a piece -/
def HeadAt (t : T K mg) (H : Hp) (a : Addr) : Head → Prop
  | .deed d s => DeedAt t H a d s
  | .times n => ∃ dx l, H a = some (.ins t.k_Loop.C dx (fs_Loop (.int n) l))
  | .toEnd => ∃ dx l, H a = some (.ins t.k_LoopToEnd.C dx (fs_LoopToEnd l))
  | .when f v => ∃ dx l, H a = some (.ins t.k_Part.C dx (fs_Part (.int f) (.int v) l))
def isHead (t : T K mg) : Hp → Hp → Head → V → Prop := fun H0 H h v => ∃ a, v = .ref a ∧ H0 a = none ∧ HeadAt t H a h
theorem headM_none {x y : List Int} {k : Int} (e : withinM 0 3 x = some (k, y)) : headM x = if k = 0 then (steppedM y).map fun u => (.deed u.1.1 u.1.2, u.2) else if k = 1 then (VamacBase.readNat 1 9 y).map fun u => (.times u.1, u.2)
    else if k = 2 then some (.toEnd, y) else (VamacBase.readField y).bind fun f => (VamacBase.readValue f.2).map fun v => (.when f.1 v.1, v.2) := by
  unfold headM
  rw [e]
  rfl
theorem ok_read_head (t : T K mg) : FnOk P w K mg base (L2.CX P w) 7 t.d_read_head.f t.d_read_head.d ["reader"] (spRead t headM (isHead t)) := by
  have G_Reader_take_within := ok_Reader_take_within (P := P) (w := w) (base := base) t
  have G_read_stepped_deed := ok_read_stepped_deed (P := P) (w := w) (base := base) t
  have G_Loop_init := ok_Loop_init (P := P) (w := w) (base := base) t
  have G_LoopToEnd_init := ok_LoopToEnd_init (P := P) (w := w) (base := base) t
  have G_Part_init := ok_Part_init (P := P) (w := w) (base := base) t
  have G_read_field := ok_read_field (P := P) (w := w) (base := base) t
  have G_read_value := ok_read_value (P := P) (w := w) (base := base) t
  refine t.d_read_head.F.okX sc_read_head (fun vs H Q E h => spRead_len h) (fun cdv A outer s H vs Q E hr h => ⟨_, (pss_cons (ps_set (i := 1) sc_read_head.nd rfl (Or.inl rfl) (pmethS (pv 0) t.k_Reader.cl t.d_Reader_take_within G_Reader_take_within (hr.mono (by omega)) (takes_of rfl rfl rfl rfl) (by exact (pa_cons (pe_cst rfl t.c_DEED) (pa_cons (pe_cst rfl t.c_PART) pa_nil)))))
  (pss_cons (ps_if (pt_cmpR op_eq (pv 1) (pe_cst rfl t.c_DEED) (nomark _)) (pss_one (ps_ret (pcallS t.d_read_stepped_deed G_read_stepped_deed (hr.mono (by omega)) rfl (takes_of rfl rfl rfl rfl) (pa_cons (pv 0) pa_nil)))) pss_nil)
  (pss_cons (ps_if (pt_cmpR op_eq (pv 1) (pe_cst rfl t.c_LOOP) (nomark _)) (pss_one (ps_ret (pmake t.d_Loop_init t.k_Loop.g G_Loop_init (hr.mono (by omega)) rfl (pa_cons (pmethS (pv 0) t.k_Reader.cl t.d_Reader_take_within G_Reader_take_within (hr.mono (by omega)) (takes_of rfl rfl rfl rfl) (by exact (pa_cons pe_int (pa_cons (pe_cst rfl t.c_MOST_ROUNDS) pa_nil)))) pa_nil)))) pss_nil)
  (pss_cons (ps_if (pt_cmpR op_eq (pv 1) (pe_cst rfl t.c_LOOP_TO_END) (nomark _)) (pss_one (ps_ret (pmake0 t.d_LoopToEnd_init t.k_LoopToEnd.g G_LoopToEnd_init (hr.mono (by omega)) rfl))) pss_nil)
  (pss_cons (ps_set (i := 2) sc_read_head.nd rfl (Or.inl rfl) (pcallS t.d_read_field G_read_field (hr.mono (by omega)) rfl (takes_of rfl rfl rfl rfl) (pa_cons (pv 0) pa_nil)))
  (pss_cons (ps_set (i := 3) sc_read_head.nd rfl (Or.inl rfl) (pcallS t.d_read_value G_read_value (hr.mono (by omega)) rfl (takes_of rfl rfl rfl rfl) (pa_cons (pv 0) pa_nil)))
  (pss_one (ps_ret (pmake t.d_Part_init t.k_Part.g G_Part_init (hr.mono (by omega)) rfl (pa_cons (pv 2) (pa_cons (pv 3) pa_nil))))))))))), ?_⟩)
  obtain ⟨r, na, M, ns, i, rfl, hR, kN, kS⟩ := h
  obtain ⟨dx, h1⟩ := hR.o
  refine q_asgM (ev_var rfl) h1 m_Reader_take_within (ea_cons ev_c (ea_cons ev_c ea_nil)) fun H1 e1 => ⟨r, na, M, ns, i, 0, 3, rfl, hR.ex e1, fun e H2 b2 => kN (by unfold headM; rw [e]; rfl) H2 ((But.of e1).trans b2), fun k j e H2 v b2 hR2 hv => ?_⟩
  obtain rfl : v = .int k := hv
  obtain ⟨_, k1, k2⟩ := withinM_some e
  rw [headM_none e] at kN kS
  have b12 := (But.of e1).trans b2
  clear e
  refine q_when (b := decide (V.int k = V.int 0)) (et_test (ev_op (ev_var rfl) ev_c (rv_eq rfl))) (fun c H3 e3 => ?_) (fun c H3 e3 => ?_)
  · obtain rfl : k = 0 := V.int.inj (of_decide_eq_true c)
    refine s_retS (ea_cons (ev_var rfl) ea_nil) fun H4 e4 => ⟨r, na, M, ns, j, rfl, (hR2.ex e3).ex e4, fun e H5 b5 => kN (by rw [e]; rfl) H5 (((b12.trans (.of e3)).trans (.of e4)).trans b5), fun u j2 e H5 v b5 hR5 hv => ?_⟩
    obtain ⟨a, rfl, ha, hd⟩ := hv
    refine kS (.deed u.1 u.2) j2 (by rw [e]; rfl) H5 _ (((b12.trans (.of e3)).trans (.of e4)).trans b5) hR5 ⟨a, rfl, fresh_but ((b12.trans (.of e3)).trans (.of e4)) ha ?_, hd⟩
    rintro rfl
    obtain ⟨d2, q⟩ := ((hR2.ex e3).ex e4).o
    rw [ha] at q
    cases q
  have c0 : ¬ k = 0 := fun z => of_decide_eq_false c (congrArg V.int z)
  rw [if_neg c0] at kN kS
  have b3 := b12.trans (.of e3)
  have hR3 := hR2.ex e3
  refine q_when (b := decide (V.int k = V.int 1)) (et_test (ev_op (ev_var rfl) ev_c (rv_eq rfl))) (fun c H4 e4 => ?_) (fun c H4 e4 => ?_)
  · obtain rfl : k = 1 := V.int.inj (of_decide_eq_true c)
    obtain ⟨dx4, h4⟩ := (hR3.ex e4).o
    refine ⟨_, rfl, r, _, _, rfl, h4, m_Reader_take_within, r, na, M, ns, j, 1, 9, rfl, hR3.ex e4, fun e H5 b5 => kN (by rw [if_pos rfl, nat_none (lo := 1) (hi := 9) e]; rfl) H5 ((b3.trans (.of e4)).trans b5), fun n j2 e H5 v b5 hR5 hv a da ha hda hne => ?_⟩
    obtain rfl : v = .int n := hv
    obtain ⟨q1, q2, _⟩ := nat_some (lo := 1) (hi := 9) e
    refine ⟨rfl, a, da, [.int n], rfl, upd_same, fun H6 fs b6 h6 ⟨n', l, en, ef⟩ => ⟨rfl, ?_⟩⟩
    cases en
    subst ef
    have e6 := made_but ha hda b6
    have b46 := (b3.trans (.of e4)).trans b5
    refine kS (.times n.toNat) j2 (by rw [if_pos rfl, q1]; rfl) H6 _ (b46.trans (.of e6)) (hR5.ex e6) ⟨a, rfl, fresh_but b46 ha ?_, da, l, by rw [q2]; exact h6⟩
    rintro rfl
    obtain ⟨d2, q⟩ := hR5.o
    rw [ha] at q
    cases q
  have c1 : ¬ k = 1 := fun z => of_decide_eq_false c (congrArg V.int z)
  rw [if_neg c1] at kN kS
  have b4 := b3.trans (.of e4)
  have hR4 := hR3.ex e4
  refine q_when (b := decide (V.int k = V.int 2)) (et_test (ev_op (ev_var rfl) ev_c (rv_eq rfl))) (fun c H5 e5 => ?_) (fun c H5 e5 => ?_)
  · obtain rfl : k = 2 := V.int.inj (of_decide_eq_true c)
    intro a da ha hda hne
    refine ⟨rfl, a, da, [], rfl, upd_same, fun H6 fs b6 h6 ⟨l, ef⟩ => ⟨rfl, ?_⟩⟩
    subst ef
    have e6 := made_but ha hda b6
    have b5 := b4.trans (.of e5)
    refine kS .toEnd j (by rw [if_pos rfl]) H6 _ (b5.trans (.of e6)) ((hR4.ex e5).ex e6) ⟨a, rfl, fresh_but b5 ha ?_, da, l, h6⟩
    rintro rfl
    obtain ⟨d2, q⟩ := (hR4.ex e5).o
    rw [ha] at q
    cases q
  have c2 : ¬ k = 2 := fun z => of_decide_eq_false c (congrArg V.int z)
  rw [if_neg c2] at kN kS
  have b5 := b4.trans (.of e5)
  have hR5 := hR4.ex e5
  refine q_asgS (ea_cons (ev_var rfl) ea_nil) fun H6 e6 => ⟨r, na, M, ns, j, rfl, hR5.ex e6, fun e H7 b7 => kN (by rw [e]; rfl) H7 ((b5.trans (.of e6)).trans b7), fun f j2 ef H7 v b7 hR7 hv => ?_⟩
  obtain rfl : v = .int (f : Nat) := hv
  have b57 := (b5.trans (.of e6)).trans b7
  rw [ef] at kN kS
  refine q_asgS (ea_cons (ev_var rfl) ea_nil) fun H8 e8 => ⟨r, na, M, ns, j2, rfl, hR7.ex e8, fun e H9 b9 => kN (by show Option.map _ (VamacBase.readValue (ns.drop j2)) = none; rw [e]; rfl) H9 ((b57.trans (.of e8)).trans b9), fun y j3 ey H9 v b9 hR9 hv => ?_⟩
  obtain rfl : v = .int y := hv
  have b79 := (b57.trans (.of e8)).trans b9
  refine ⟨_, rfl, _, rfl, fun a da ha hda hne => ⟨rfl, a, da, _, rfl, upd_same, fun H10 fs b10 h10 ⟨f', y', l, en, ef'⟩ => ⟨rfl, ?_⟩⟩⟩
  cases en
  subst ef'
  have e10 := made_but ha hda b10
  refine kS (.when f y) j3 (by show Option.map _ (VamacBase.readValue (ns.drop j2)) = _; rw [ey]; rfl) H10 _ (b79.trans (.of e10)) (hR9.ex e10) ⟨a, rfl, fresh_but b79 ha ?_, da, l, h10⟩
  rintro rfl
  obtain ⟨d2, q⟩ := hR9.o
  rw [ha] at q
  cases q
end
end G
/-! Rows of pieces in the heap. -/
namespace G
open PySem PySem.Spec PyProof.Rows L2 Evl My
section
variable {K : PySem.W.Frag} {mg : Str → Option Value} {P : Program} {w : World} {base : Heap}
/-- the class and the fields of a piece's object; l: its row -/
def hC (t : T K mg) : Head → Addr
  | .deed _ _ => t.k_Deed.C
  | .times _ => t.k_Loop.C
  | .toEnd => t.k_LoopToEnd.C
  | .when _ _ => t.k_Part.C
def hF : Head → V → List (Str × V)
  | .deed d s, _ => fs_Deed (.int (kindOf d)) (.int (fieldOf d)) (.int (VamacBase.numberOf d)) (.int s)
  | .times n, l => fs_Loop (.int n) l
  | .toEnd, l => fs_LoopToEnd l
  | .when f v, l => fs_Part (.int f) (.int v) l
theorem HeadAt.obj {t : T K mg} {H : Hp} {a : Addr} {h : Head} (x : HeadAt t H a h) : ∃ dx l, H a = some (.ins (hC t h) dx (hF h l)) := by
  cases h with
  | deed d s => exact x.imp fun dx q => ⟨.non, q⟩
  | times n => exact x
  | toEnd => exact x
  | when f v => exact x
/-- a piece at a: its head; of one with a row: the row's list, of which R is so -/
def PcAt (t : T K mg) (N : Addr → Prop) (H : Hp) (h : Head) (R : List V → Prop) (a : Addr) : Prop :=
  N a ∧ ∃ dx l, H a = some (.ins (hC t h) dx (hF h l)) ∧ (h.isDeed = false → ∃ lb vb, l = .ref lb ∧ N lb ∧ H lb = some (.lst vb) ∧ R vb)
/-- a row's items -/
def RowAt (t : T K mg) (N : Addr → Prop) (H : Hp) : VamacBase.Prog → List V → Prop
  | .done, vs => vs = []
  | .deed d s r, vs => ∃ a vr, vs = .ref a :: vr ∧ PcAt t N H (.deed d s) (fun _ => True) a ∧ RowAt t N H r vr
  | .times n b r, vs => ∃ a vr, vs = .ref a :: vr ∧ PcAt t N H (.times n) (RowAt t N H b) a ∧ RowAt t N H r vr
  | .toEnd b r, vs => ∃ a vr, vs = .ref a :: vr ∧ PcAt t N H .toEnd (RowAt t N H b) a ∧ RowAt t N H r vr
  | .when f v b r, vs => ∃ a vr, vs = .ref a :: vr ∧ PcAt t N H (.when f v) (RowAt t N H b) a ∧ RowAt t N H r vr
/-- all pieces, by their numbers -/
def PreAt (t : T K mg) (N : Addr → Prop) (H : Hp) : VamacBase.Prog → List V → Prop
  | .done, vs => vs = []
  | .deed d s r, vs => ∃ a vr, vs = .ref a :: vr ∧ PcAt t N H (.deed d s) (fun _ => True) a ∧ PreAt t N H r vr
  | .times n b r, vs => ∃ a vb vr, vs = .ref a :: (vb ++ vr) ∧ PcAt t N H (.times n) (RowAt t N H b) a ∧ PreAt t N H b vb ∧ PreAt t N H r vr
  | .toEnd b r, vs => ∃ a vb vr, vs = .ref a :: (vb ++ vr) ∧ PcAt t N H .toEnd (RowAt t N H b) a ∧ PreAt t N H b vb ∧ PreAt t N H r vr
  | .when f v b r, vs => ∃ a vb vr, vs = .ref a :: (vb ++ vr) ∧ PcAt t N H (.when f v) (RowAt t N H b) a ∧ PreAt t N H b vb ∧ PreAt t N H r vr
section
variable {t : T K mg} {N N' : Addr → Prop} {H H' : Hp}
theorem PcAt.mono {h : Head} {R R' : List V → Prop} {a : Addr} (k : ∀ b o, N b → H b = some o → H' b = some o) (n : ∀ b, N b → N' b) (r : ∀ vs, R vs → R' vs) (x : PcAt t N H h R a) : PcAt t N' H' h R' a := by
  obtain ⟨h1, dx, l, h2, h3⟩ := x
  refine ⟨n _ h1, dx, l, k _ _ h1 h2, fun z => ?_⟩
  obtain ⟨lb, vb, e, q1, q2, q3⟩ := h3 z
  exact ⟨lb, vb, e, n _ q1, k _ _ q1 q2, r _ q3⟩
theorem RowAt.mono (k : ∀ b o, N b → H b = some o → H' b = some o) (n : ∀ b, N b → N' b) : ∀ (p : VamacBase.Prog) (vs : List V), RowAt t N H p vs → RowAt t N' H' p vs
  | .done, _, x => x
  | .deed d s r, _, ⟨a, vr, e, h, q⟩ => ⟨a, vr, e, h.mono k n fun _ z => z, RowAt.mono k n r _ q⟩
  | .times m b r, _, ⟨a, vr, e, h, q⟩ => ⟨a, vr, e, h.mono k n fun _ z => RowAt.mono k n b _ z, RowAt.mono k n r _ q⟩
  | .toEnd b r, _, ⟨a, vr, e, h, q⟩ => ⟨a, vr, e, h.mono k n fun _ z => RowAt.mono k n b _ z, RowAt.mono k n r _ q⟩
  | .when f v b r, _, ⟨a, vr, e, h, q⟩ => ⟨a, vr, e, h.mono k n fun _ z => RowAt.mono k n b _ z, RowAt.mono k n r _ q⟩
theorem PreAt.mono (k : ∀ b o, N b → H b = some o → H' b = some o) (n : ∀ b, N b → N' b) : ∀ (p : VamacBase.Prog) (vs : List V), PreAt t N H p vs → PreAt t N' H' p vs
  | .done, _, x => x
  | .deed d s r, _, ⟨a, vr, e, h, q⟩ => ⟨a, vr, e, h.mono k n fun _ z => z, PreAt.mono k n r _ q⟩
  | .times m b r, _, ⟨a, vb, vr, e, h, q1, q⟩ => ⟨a, vb, vr, e, h.mono k n fun _ z => RowAt.mono k n b _ z, PreAt.mono k n b _ q1, PreAt.mono k n r _ q⟩
  | .toEnd b r, _, ⟨a, vb, vr, e, h, q1, q⟩ => ⟨a, vb, vr, e, h.mono k n fun _ z => RowAt.mono k n b _ z, PreAt.mono k n b _ q1, PreAt.mono k n r _ q⟩
  | .when f v b r, _, ⟨a, vb, vr, e, h, q1, q⟩ => ⟨a, vb, vr, e, h.mono k n fun _ z => RowAt.mono k n b _ z, PreAt.mono k n b _ q1, PreAt.mono k n r _ q⟩
/-- .. where the new word of addresses speaks of what is tracked -/
theorem PcAt.mono2 {h : Head} {R R' : List V → Prop} {a : Addr} (k : ∀ b o, N b → H b = some o → H' b = some o) (n : ∀ b o, N b → H b = some o → N' b) (r : ∀ vs, R vs → R' vs) (x : PcAt t N H h R a) : PcAt t N' H' h R' a := by
  obtain ⟨h1, dx, l, h2, h3⟩ := x
  refine ⟨n _ _ h1 h2, dx, l, k _ _ h1 h2, fun z => ?_⟩
  obtain ⟨lb, vb, e, q1, q2, q3⟩ := h3 z
  exact ⟨lb, vb, e, n _ _ q1 q2, k _ _ q1 q2, r _ q3⟩
theorem RowAt.mono2 (k : ∀ b o, N b → H b = some o → H' b = some o) (n : ∀ b o, N b → H b = some o → N' b) : ∀ (p : VamacBase.Prog) (vs : List V), RowAt t N H p vs → RowAt t N' H' p vs
  | .done, _, x => x
  | .deed d s r, _, ⟨a, vr, e, h, q⟩ => ⟨a, vr, e, h.mono2 k n fun _ z => z, RowAt.mono2 k n r _ q⟩
  | .times m b r, _, ⟨a, vr, e, h, q⟩ => ⟨a, vr, e, h.mono2 k n fun _ z => RowAt.mono2 k n b _ z, RowAt.mono2 k n r _ q⟩
  | .toEnd b r, _, ⟨a, vr, e, h, q⟩ => ⟨a, vr, e, h.mono2 k n fun _ z => RowAt.mono2 k n b _ z, RowAt.mono2 k n r _ q⟩
  | .when f v b r, _, ⟨a, vr, e, h, q⟩ => ⟨a, vr, e, h.mono2 k n fun _ z => RowAt.mono2 k n b _ z, RowAt.mono2 k n r _ q⟩
theorem PreAt.mono2 (k : ∀ b o, N b → H b = some o → H' b = some o) (n : ∀ b o, N b → H b = some o → N' b) : ∀ (p : VamacBase.Prog) (vs : List V), PreAt t N H p vs → PreAt t N' H' p vs
  | .done, _, x => x
  | .deed d s r, _, ⟨a, vr, e, h, q⟩ => ⟨a, vr, e, h.mono2 k n fun _ z => z, PreAt.mono2 k n r _ q⟩
  | .times m b r, _, ⟨a, vb, vr, e, h, q1, q⟩ => ⟨a, vb, vr, e, h.mono2 k n fun _ z => RowAt.mono2 k n b _ z, PreAt.mono2 k n b _ q1, PreAt.mono2 k n r _ q⟩
  | .toEnd b r, _, ⟨a, vb, vr, e, h, q1, q⟩ => ⟨a, vb, vr, e, h.mono2 k n fun _ z => RowAt.mono2 k n b _ z, PreAt.mono2 k n b _ q1, PreAt.mono2 k n r _ q⟩
  | .when f v b r, _, ⟨a, vb, vr, e, h, q1, q⟩ => ⟨a, vb, vr, e, h.mono2 k n fun _ z => RowAt.mono2 k n b _ z, PreAt.mono2 k n b _ q1, PreAt.mono2 k n r _ q⟩
theorem RowAt.append : ∀ {p q : VamacBase.Prog} {vs us : List V}, RowAt t N H p vs → RowAt t N H q us → RowAt t N H (p.andThen q) (vs ++ us)
  | .done, _, _, _, e, y => by
    obtain rfl := e
    exact y
  | .deed d s r, _, _, _, ⟨a, vr, e, h, q⟩, y => by
    subst e
    exact ⟨a, vr ++ _, rfl, h, RowAt.append q y⟩
  | .times m b r, _, _, _, ⟨a, vr, e, h, q⟩, y => by
    subst e
    exact ⟨a, vr ++ _, rfl, h, RowAt.append q y⟩
  | .toEnd b r, _, _, _, ⟨a, vr, e, h, q⟩, y => by
    subst e
    exact ⟨a, vr ++ _, rfl, h, RowAt.append q y⟩
  | .when f v b r, _, _, _, ⟨a, vr, e, h, q⟩, y => by
    subst e
    exact ⟨a, vr ++ _, rfl, h, RowAt.append q y⟩
theorem PreAt.append : ∀ {p q : VamacBase.Prog} {vs us : List V}, PreAt t N H p vs → PreAt t N H q us → PreAt t N H (p.andThen q) (vs ++ us)
  | .done, _, _, _, e, y => by
    obtain rfl := e
    exact y
  | .deed d s r, _, _, _, ⟨a, vr, e, h, q⟩, y => by
    subst e
    exact ⟨a, vr ++ _, rfl, h, PreAt.append q y⟩
  | .times m b r, _, _, us, ⟨a, vb, vr, e, h, q1, q⟩, y => by
    subst e
    exact ⟨a, vb, vr ++ us, by rw [List.cons_append, List.append_assoc], h, q1, PreAt.append q y⟩
  | .toEnd b r, _, _, us, ⟨a, vb, vr, e, h, q1, q⟩, y => by
    subst e
    exact ⟨a, vb, vr ++ us, by rw [List.cons_append, List.append_assoc], h, q1, PreAt.append q y⟩
  | .when f v b r, _, _, us, ⟨a, vb, vr, e, h, q1, q⟩, y => by
    subst e
    exact ⟨a, vb, vr ++ us, by rw [List.cons_append, List.append_assoc], h, q1, PreAt.append q y⟩
theorem PreAt.len : ∀ {p : VamacBase.Prog} {vs : List V}, PreAt t N H p vs → vs.length = p.size
  | .done, _, e => by
    obtain rfl := e
    rfl
  | .deed d s r, _, ⟨a, vr, e, h, q⟩ => by
    subst e
    simp only [List.length_cons, VamacBase.Prog.size, PreAt.len q]
  | .times m b r, _, ⟨a, vb, vr, e, h, q1, q⟩ => by
    subst e
    simp only [List.length_cons, List.length_append, VamacBase.Prog.size, PreAt.len q, PreAt.len q1]
  | .toEnd b r, _, ⟨a, vb, vr, e, h, q1, q⟩ => by
    subst e
    simp only [List.length_cons, List.length_append, VamacBase.Prog.size, PreAt.len q, PreAt.len q1]
  | .when f v b r, _, ⟨a, vb, vr, e, h, q1, q⟩ => by
    subst e
    simp only [List.length_cons, List.length_append, VamacBase.Prog.size, PreAt.len q, PreAt.len q1]
theorem RowAt.len : ∀ {p : VamacBase.Prog} {vs : List V}, RowAt t N H p vs → vs.length = p.row
  | .done, _, e => by
    obtain rfl := e
    rfl
  | .deed d s r, _, ⟨a, vr, e, h, q⟩ => by
    subst e
    simp only [List.length_cons, VamacBase.Prog.row, RowAt.len q]
  | .times m b r, _, ⟨a, vr, e, h, q⟩ => by
    subst e
    simp only [List.length_cons, VamacBase.Prog.row, RowAt.len q]
  | .toEnd b r, _, ⟨a, vr, e, h, q⟩ => by
    subst e
    simp only [List.length_cons, VamacBase.Prog.row, RowAt.len q]
  | .when f v b r, _, ⟨a, vr, e, h, q⟩ => by
    subst e
    simp only [List.length_cons, VamacBase.Prog.row, RowAt.len q]
theorem RowAt.one {h : Head} {b : VamacBase.Prog} {a : Addr} (x : PcAt t N H h (RowAt t N H b) a) : RowAt t N H (h.one b) [.ref a] := by
  cases h with
  | deed d s => exact ⟨a, [], rfl, x.mono (fun _ _ _ z => z) (fun _ z => z) (fun _ _ => True.intro), rfl⟩
  | times n => exact ⟨a, [], rfl, x, rfl⟩
  | toEnd => exact ⟨a, [], rfl, x, rfl⟩
  | when f v => exact ⟨a, [], rfl, x, rfl⟩
theorem PreAt.one {h : Head} {b : VamacBase.Prog} {a : Addr} {vb : List V} (x : PcAt t N H h (RowAt t N H b) a) (y : h.isDeed = false → PreAt t N H b vb) (z : h.isDeed = true → vb = []) : PreAt t N H (h.one b) (.ref a :: vb) := by
  cases h with
  | deed d s => exact ⟨a, [], by rw [z rfl], x.mono (fun _ _ _ z => z) (fun _ z => z) (fun _ _ => True.intro), rfl⟩
  | times n => exact ⟨a, vb, [], by rw [List.append_nil], x, y rfl, rfl⟩
  | toEnd => exact ⟨a, vb, [], by rw [List.append_nil], x, y rfl, rfl⟩
  | when f v => exact ⟨a, vb, [], by rw [List.append_nil], x, y rfl, rfl⟩
end
/-- all but r and p stands as it stood -/
def Two (r p : Addr) (H H' : Hp) : Prop := ∀ b o, H b = some o → b ≠ r → b ≠ p → H' b = some o
theorem Two.of {r p : Addr} {H H' : Hp} (b : But r H H') : Two r p H H' := fun c o h n _ => b c o h n
theorem Two.trans {r p : Addr} {H H1 H2 : Hp} (a : Two r p H H1) (b : Two r p H1 H2) : Two r p H H2 := fun c o h n m => b c o (a c o h n m) n m
theorem Two.upd {r p : Addr} {H H' : Hp} {o : HO} (a : Two r p H H') : Two r p H (L2.upd H' p o) := fun c u h n m => by
  rw [upd_ne m]
  exact a c u h n m
theorem Two.new {r p a : Addr} {H H' : Hp} {o : HO} (b : Two r p H H') (n : H a = none) : Two r p H (L2.upd H' a o) := fun c u h m m2 => by
  rw [upd_ne (ne_of_none h n)]
  exact b c u h m m2
/-- isinstance of a piece -/
theorem ev_isi {x y : Str} {ta : TE} {σ : L2.St} {H : Hp} {a dx C : Addr} {fs : List (Str × V)} {b : Bool} (A : Ow K mg x) (hn : PySem.W.specialIn K (.builtin "object.__class__") "__get__" = some (some (.builtin "getset_descriptor.__get__"))) (htk : PySem.W.takesIn K (.builtin "object.__class__") = some true)
    (h : Ev ta σ H (.ref a)) (o : H a = some (.ins A.C dx fs)) (k : PySem.W.kitOne K (.ref A.C) (.ref C) = some b) : Ev (tCB (rIsi K) (tCons ta (tCons (tC (.ref C)) tNil))) σ H (.bl b) :=
  fun H1 e Q q => h H1 e _ fun H2 e2 => ⟨.ref a, .ref C, .ref A.C, .ref C, b, rfl, .own C, .base (.ins (e2 _ _ (e _ _ o)) A.cl A.ha hn htk A.hm), k, q H2 e2⟩
theorem isi_Deed (t : T K mg) {ta : TE} {σ : L2.St} {H : Hp} {a dx : Addr} {h : Head} {fs : List (Str × V)} (e : Ev ta σ H (.ref a)) (o : H a = some (.ins (hC t h) dx fs)) : Ev (tCB (rIsi K) (tCons ta (tCons (tC (.ref t.k_Deed.C)) tNil))) σ H (.bl h.isDeed) := by
  cases h with
  | deed d s => exact ev_isi (y := "") t.k_Deed t.hn t.htk e o t.i_Deed_Deed
  | times n => exact ev_isi (y := "") t.k_Loop t.hn t.htk e o t.i_Loop_Deed
  | toEnd => exact ev_isi (y := "") t.k_LoopToEnd t.hn t.htk e o t.i_LoopToEnd_Deed
  | when f v => exact ev_isi (y := "") t.k_Part t.hn t.htk e o t.i_Part_Deed
theorem row_put {h : Head} {l v : V} (n : h.isDeed = false) : putF "row" v (hF h l) = hF h v := by
  cases h with
  | deed d s => cases n
  | times n => exact p_Loop_row
  | toEnd => exact p_LoopToEnd_row
  | when f v => exact p_Part_row
theorem row_get {h : Head} {l : V} (n : h.isDeed = false) : (hF h l).lookup ("row" : Str) = some l := by
  cases h with
  | deed d s => cases n
  | times n => exact l_Loop_row
  | toEnd => exact l_LoopToEnd_row
  | when f v => exact l_Part_row
theorem row_cls (t : T K mg) (h : Head) : Cls K (hC t h) := by
  cases h with
  | deed d s => exact t.k_Deed.cl
  | times n => exact t.k_Loop.cl
  | toEnd => exact t.k_LoopToEnd.cl
  | when f v => exact t.k_Part.cl
theorem row_no (t : T K mg) {h : Head} (n : h.isDeed = false) : NoAttr K (hC t h) "row" := by
  cases h with
  | deed d s => cases n
  | times n => exact t.n_Loop_row
  | toEnd => exact t.n_LoopToEnd_row
  | when f v => exact t.n_Part_row
theorem hF_len (h : Head) (l : V) : (hF h l).length < 1000 := by
  cases h <;> simp [hF, fs_Deed, fs_Loop, fs_LoopToEnd, fs_Part]
end
end G
/-! Rows and pieces read: two defs that call each other, level by level. -/
namespace G
open PySem PySem.Spec PyProof.Rows L2 Evl My
theorem pieceM_size {d c : Nat} {x y : List Int} {p : VamacBase.Prog} (hc : c ≤ 16) (h : pieceM (rowM d) c x = some (p, y)) : c + p.size ≤ 16 := by
  unfold pieceM at h
  split at h
  · cases h
  · rename_i n
    rw [bind_some_iff] at h
    obtain ⟨⟨hd, z⟩, e1, h⟩ := h
    split at h
    · rename_i hb
      cases h
      cases hd with
      | deed d s => show c + (0 + 1) ≤ 16; omega
      | times n => cases hb
      | toEnd => cases hb
      | when f v => cases hb
    · rename_i hb
      rw [map_some_iff] at h
      obtain ⟨⟨b, z2⟩, e2, h⟩ := h
      cases h
      have := rowM_size d (c + 1) _ _ _ (by omega) e2
      cases hd with
      | deed d s => exact absurd rfl hb
      | times n => show c + (b.size + 0 + 1) ≤ 16; omega
      | toEnd => show c + (b.size + 0 + 1) ≤ 16; omega
      | when f v => show c + (b.size + 0 + 1) ≤ 16; omega
section
variable {K : PySem.W.Frag} {mg : Str → Option Value} {P : Program} {w : World} {base : Heap}
/-- a row, so many levels left: pl is the list of all pieces read so far -/
def spRow (t : T K mg) (d : Nat) : Sp := fun vs H Q E => ∃ (r na pl : Addr) (ns : List Int) (i : Nat) (cs : List V) (dep : Int), vs = [.ref r, .ref pl, .int dep] ∧ dep + d = 4 ∧ H pl = some (.lst cs) ∧ cs.length ≤ 16 ∧ RdAt t H r na pl ns i ∧
  (rowM d cs.length (ns.drop i) = none → ∀ H', Two r pl H H' → E (.ref t.x_NotWhole.C) none H') ∧
  (∀ p j, rowM d cs.length (ns.drop i) = some (p, ns.drop j) → ∀ H' l vb vp, Two r pl H H' → RdAt t H' r na pl ns j → H' pl = some (.lst (cs ++ vp)) → H l = none → H' l = some (.lst vb) →
    RowAt t (fun b => H b = none) H' p vb → PreAt t (fun b => H b = none) H' p vp → Q (.ref l) H')
def spPiece (t : T K mg) (d : Nat) : Sp := fun vs H Q E => ∃ (r na pl : Addr) (ns : List Int) (i : Nat) (cs : List V) (dep : Int), vs = [.ref r, .ref pl, .int dep] ∧ dep + (d + 1 : Nat) = 4 ∧ H pl = some (.lst cs) ∧ cs.length ≤ 16 ∧ RdAt t H r na pl ns i ∧
  (pieceM (rowM d) cs.length (ns.drop i) = none → ∀ H', Two r pl H H' → E (.ref t.x_NotWhole.C) none H') ∧
  (∀ p j, pieceM (rowM d) cs.length (ns.drop i) = some (p, ns.drop j) → ∀ H' a vp, Two r pl H H' → RdAt t H' r na pl ns j → H' pl = some (.lst (cs ++ vp)) →
    RowAt t (fun b => H b = none) H' p [.ref a] → PreAt t (fun b => H b = none) H' p vp → Q (.ref a) H')
theorem dom_back {H H' : Hp} {r pl : Addr} (b : Two r pl H H') (hr : ∃ o, H' r = some o) (hp : ∃ o, H' pl = some o) {c : Addr} (n : H' c = none) : H c = none := by
  cases q : H c with
  | none => rfl
  | some o =>
    exfalso
    by_cases c1 : c = r
    · subst c1
      obtain ⟨o', e⟩ := hr
      rw [n] at e
      cases e
    · by_cases c2 : c = pl
      · subst c2
        obtain ⟨o', e⟩ := hp
        rw [n] at e
        cases e
      · rw [b c o q c1 c2] at n
        cases n
theorem RdAt.ne {t : T K mg} {H : Hp} {r na M : Addr} {ns : List Int} {i : Nat} {a : Addr} {xs : List V} (h : RdAt t H r na M ns i) (q : H a = some (.lst xs)) : a ≠ r := by
  rintro rfl
  obtain ⟨dx, e⟩ := h.o
  rw [q] at e
  cases e
/-- the list pl is written -/
theorem RdAt.updM {t : T K mg} {H : Hp} {r na M : Addr} {ns : List Int} {i : Nat} {xs : List V} {o : HO} (h : RdAt t H r na M ns i) (q : H M = some (.lst xs)) : RdAt t (L2.upd H M o) r na M ns i :=
  ⟨h.o.imp fun _ z => by rw [upd_ne (Ne.symm (h.ne q))]; exact z, far_upd h.q, h.le, h.sz⟩
theorem ok_read_piece (t : T K mg) (d k : Nat) (G_read_row : FnOk P w K mg base (L2.CX P w) k t.d_read_row.f t.d_read_row.d ["reader", "pieces", "depth"] (spRow t d)) (hk : 7 ≤ k) :
    FnOk P w K mg base (L2.CX P w) (k + 1) t.d_read_piece.f t.d_read_piece.d ["reader", "pieces", "depth"] (spPiece t d) := by
  have G_read_head := ok_read_head (P := P) (w := w) (base := base) t
  refine t.d_read_piece.F.okX sc_read_piece (fun vs H Q E h => by obtain ⟨r, na, pl, ns, i, cs, dep, rfl, _⟩ := h; rfl) (fun cdv A outer s H vs Q E hr h => ⟨_, (pss_cons (ps_if (pt_cmpR op_eq (pe_callB call_len_seq rfl t.z_len PySem.boot_len (pa_cons (pv 1) pa_nil)) (pe_cst rfl t.c_MOST_PIECES) (nomark _)) (pss_one (ps_raise rfl (takes_of rfl rfl rfl rfl) (praise t.x_NotWhole rfl))) pss_nil)
  (pss_cons (ps_set (i := 3) sc_read_piece.nd rfl (Or.inl rfl) (pcallS t.d_read_head G_read_head (hr.mono (by omega)) rfl (takes_of rfl rfl rfl rfl) (pa_cons (pv 0) pa_nil)))
  (pss_cons (ps_expr (pe_bm PySem.F.plainAttrs_list PySem.F.slot_list_append PySem.F.type_list_append mt_append (pv 1) (pa_cons (pv 3) pa_nil)))
  (pss_cut (ps_if (pt_not (pt_val (pe_callB call_isi rfl t.z_isinstance (by decide +kernel) (pa_cons (pv 3) (pa_cons (pe_cls rfl t.k_Deed.g) pa_nil))))) (pss_one (ps_fld (pv 3) (pcallS t.d_read_row G_read_row (hr.mono (by omega)) rfl (takes_of rfl rfl rfl rfl) (pa_cons (pv 0) (pa_cons (pv 1) (pa_cons (pe_op op_add (pv 2) pe_int) pa_nil)))) rfl)) pss_nil)
  (pss_one (ps_ret (pv 3))))))), ?_⟩)
  obtain ⟨r, na, pl, ns, i, cs, dep, rfl, hdep, hpl, hcs, hR, kN, kS⟩ := h
  have hplr : pl ≠ r := hR.ne hpl
  refine q_when (b := decide (V.int cs.length = V.int 16)) (et_test (ev_op (ev_len (ev_var rfl) (SqL.of hpl)) ev_c (rv_eq rfl))) (fun c H1 e1 => ?_) (fun c H1 e1 => ?_)
  · have : (cs.length : Int) = 16 := V.int.inj (of_decide_eq_true c)
    exact kN (by unfold pieceM; rw [if_pos (by omega)]) _ (.of (.of e1))
  have c16 : ¬ cs.length = 16 := fun z => of_decide_eq_false c (by rw [z]; rfl)
  have pe : pieceM (rowM d) cs.length (ns.drop i) = (headM (ns.drop i)).bind fun h => if h.1.isDeed then some (h.1.one .done, h.2) else (rowM d (cs.length + 1) h.2).map fun b => (h.1.one b.1, b.2) := by
    unfold pieceM
    rw [if_neg c16]
  rw [pe] at kN kS
  refine q_asgS (ea_cons (ev_var rfl) ea_nil) fun H2 e2 => ⟨r, na, pl, ns, i, rfl, (hR.ex e1).ex e2, fun e H3 b3 => kN (by rw [e]; rfl) H3 ((Two.of (.of (e1.trans e2))).trans (.of b3)), fun hd j e H3 v b3 hR3 hv => ?_⟩
  obtain ⟨a, rfl, ha2, hda⟩ := hv
  rw [e] at kN kS
  have e12 := e1.trans e2
  have ha0 : H a = none := fresh_back e12 ha2
  have har : a ≠ r := by
    rintro rfl
    obtain ⟨d2, q⟩ := hR.o
    rw [q] at ha0
    cases ha0
  have hap : a ≠ pl := by
    rintro rfl
    rw [hpl] at ha0
    cases ha0
  have hpl3 : H3 pl = some (.lst cs) := b3 _ _ (e12 _ _ hpl) hplr
  obtain ⟨da, l0, ho⟩ := hda.obj
  have t3 : Two r pl H H3 := (Two.of (.of e12)).trans (.of b3)
  refine q_app (K := K) hpl3 (ev_var rfl) (ev_var rfl) (by omega) fun H4 e4 => ?_
  have hpl5 : L2.upd H4 pl (.lst (cs ++ [.ref a])) pl = some (.lst (cs ++ [.ref a])) := upd_same
  have t5 : Two r pl H (L2.upd H4 pl (.lst (cs ++ [.ref a]))) := (t3.trans (.of (.of e4))).upd
  have hR5 : RdAt t (L2.upd H4 pl (.lst (cs ++ [.ref a]))) r na pl ns j := (hR3.ex e4).updM (e4 _ _ hpl3)
  have ho5 : L2.upd H4 pl (.lst (cs ++ [.ref a])) a = some (.ins (hC t hd) da (hF hd l0)) := by rw [upd_ne hap]; exact e4 _ _ ho
  generalize L2.upd H4 pl (.lst (cs ++ [.ref a])) = H5 at hpl5 t5 hR5 ho5 ⊢
  refine q_cut (M := fun σ' H' => ∃ b j2 vb lb vp, σ' = [some (.ref r), some (.ref pl), some (.int dep), some (.ref a)] ∧ Two r pl H H' ∧ RdAt t H' r na pl ns j2 ∧ H' pl = some (.lst (cs ++ .ref a :: vp)) ∧ H' a = some (.ins (hC t hd) da (hF hd lb)) ∧
    (hd.isDeed = true → j2 = j ∧ vp = []) ∧ (hd.isDeed = false → rowM d (cs.length + 1) (ns.drop j) = some (b, ns.drop j2) ∧ (∃ l, lb = .ref l ∧ H l = none ∧ H' l = some (.lst vb)) ∧ RowAt t (fun c => H c = none) H' b vb ∧ PreAt t (fun c => H c = none) H' b vp)) ?_ ?_
  · refine s_when (b := !hd.isDeed) (et_not (et_B (isi_Deed t (ev_var rfl) ho5))) (fun hb H6 e6 => ?_) (fun hb H6 e6 => ?_)
    · have hb' : hd.isDeed = false := by simpa using hb
      have hl5 : cs.length + 1 = (cs ++ [V.ref a]).length := by simp
      refine ⟨_, rfl, _, rfl, _, rfl, _, _, rfl, rfl, r, na, pl, ns, j, cs ++ [.ref a], dep + 1, rfl, by omega, e6 _ _ hpl5, by rw [← hl5]; omega, hR5.ex e6, fun e' H7 b7 => kN ?_ H7 ((t5.trans (.of (.of e6))).trans b7), fun b j2 e' H7 l vb vp b7 hR7 hpl7 hl6 hl7 hrow hpre => ?_⟩
      · show (if hd.isDeed then _ else Option.map _ (rowM d (cs.length + 1) (ns.drop j))) = none
        rw [hb', hl5, e']
        rfl
      · have ho7 := b7 _ _ (e6 _ _ ho5) har hap
        have hl0 : H l = none := dom_back ((t5.trans (.of (.of e6)))) (by obtain ⟨d2, q⟩ := (hR5.ex e6).o; exact ⟨_, q⟩) ⟨_, e6 _ _ hpl5⟩ hl6
        have hla : l ≠ a := by
          rintro rfl
          rw [e6 _ _ ho5] at hl6
          cases hl6
        have tt := (t5.trans (.of (.of e6))).trans b7
        have nn : ∀ c, H6 c = none → H c = none := fun c z => dom_back ((t5.trans (.of (.of e6)))) (by obtain ⟨d2, q⟩ := (hR5.ex e6).o; exact ⟨_, q⟩) ⟨_, e6 _ _ hpl5⟩ z
        have kk : ∀ c o, H6 c = none → H7 c = some o → L2.upd H7 a (.ins (hC t hd) da (hF hd (.ref l))) c = some o := fun c o z q => by
          rw [upd_ne]
          · exact q
          · rintro rfl
            rw [e6 _ _ ho5] at z
            cases z
        refine ⟨_, rfl, a, _, da, _, rfl, ho7, row_cls t hd, row_no t hb', hF_len hd l0, ?_⟩
        rw [row_put hb']
        refine ⟨b, j2, vb, .ref l, vp, rfl, tt.new ha0, hR7.upd ho7 har, ?_, upd_same, fun z => by (rw [hb'] at z; cases z), fun _ => ⟨by rw [hl5]; exact e', ⟨l, rfl, hl0, ?_⟩, hrow.mono kk nn, hpre.mono kk nn⟩⟩
        · rw [upd_ne (Ne.symm hap), hpl7, List.append_assoc]
          rfl
        · rw [upd_ne hla]
          exact hl7
    · have hb' : hd.isDeed = true := by simpa using hb
      exact ⟨.done, j, [], l0, [], rfl, t5.trans (.of (.of e6)), hR5.ex e6, e6 _ _ hpl5, e6 _ _ ho5, fun _ => ⟨rfl, rfl⟩, fun z => by (rw [hb'] at z; cases z)⟩
  rintro σ' H6 ⟨b, j2, vb, lb, vp, rfl, t6, hR6, hpl6, ho6, yD, yR⟩
  refine ⟨_, rfl, ?_⟩
  cases q : hd.isDeed with
  | true =>
    obtain ⟨rfl, rfl⟩ := yD q
    have pc : PcAt t (fun c => H c = none) H6 hd (RowAt t (fun c => H c = none) H6 .done) a := ⟨ha0, da, lb, ho6, fun z => by (rw [q] at z; cases z)⟩
    exact kS (hd.one .done) j2 (by show (if hd.isDeed then _ else _) = _; rw [q]; rfl) H6 a _ t6 hR6 hpl6 (RowAt.one pc) (PreAt.one pc (fun z => by (rw [q] at z; cases z)) fun _ => rfl)
  | false =>
    obtain ⟨er, ⟨l, rfl, hl0, hl6⟩, hrow, hpre⟩ := yR q
    have pc : PcAt t (fun c => H c = none) H6 hd (RowAt t (fun c => H c = none) H6 b) a := ⟨ha0, da, _, ho6, fun _ => ⟨l, vb, rfl, hl0, hl6, hrow⟩⟩
    exact kS (hd.one b) j2 (by show (if hd.isDeed then _ else Option.map _ (rowM d (cs.length + 1) (ns.drop j))) = _; rw [q, er]; rfl) H6 a _ t6 hR6 hpl6 (RowAt.one pc) (PreAt.one pc (fun _ => hpre) fun z => by (rw [q] at z; cases z))
theorem far_two {H H' : Hp} {r C M a : Addr} {fs : List (Str × V)} {xs : List V} (e : Two r M H H') (h : ∃ dx, H r = some (.ins C dx fs)) (q : Far K H M a xs) : Far K H' M a xs := by
  obtain ⟨dx, h⟩ := h
  refine q.imp (fun z => ⟨?_, z.2⟩) id
  rcases z.1 with q | ⟨o, q⟩
  · exact .inl (e _ _ q (by rintro rfl; rw [h] at q; cases q) z.2)
  · exact .inr ⟨o, e _ _ q (by rintro rfl; rw [h] at q; cases q) z.2⟩
theorem row_le : ∀ p : VamacBase.Prog, p.row ≤ p.size
  | .done => Nat.le_refl _
  | .deed d s r => Nat.succ_le_succ (row_le r)
  | .times n b r => by have := row_le r; simp only [VamacBase.Prog.row, VamacBase.Prog.size]; omega
  | .toEnd b r => by have := row_le r; simp only [VamacBase.Prog.row, VamacBase.Prog.size]; omega
  | .when f v b r => by have := row_le r; simp only [VamacBase.Prog.row, VamacBase.Prog.size]; omega
theorem never {CX : CXT} {k : Nat} {f : Addr} {fd : FuncData} {ps : List Str} : FnOk P w K mg base CX k f fd ps fun _ _ _ _ => False := ⟨fun _ _ _ _ h => h.elim, fun _ _ _ _ _ _ _ _ _ _ _ _ _ h => h.elim⟩
theorem ok_read_row0 (t : T K mg) : FnOk P w K mg base (L2.CX P w) 8 t.d_read_row.f t.d_read_row.d ["reader", "pieces", "depth"] (spRow t 0) := by
  have G_Reader_take_within := ok_Reader_take_within (P := P) (w := w) (base := base) t
  have G_read_piece : FnOk P w K mg base (L2.CX P w) 7 t.d_read_piece.f t.d_read_piece.d ["reader", "pieces", "depth"] (fun _ _ _ _ => False) := never
  refine t.d_read_row.F.okX sc_read_row (fun vs H Q E h => by obtain ⟨r, na, pl, ns, i, cs, dep, rfl, _⟩ := h; rfl) (fun cdv A outer s H vs Q E hr h => ⟨_, (pss_cons (ps_if (pt_cmpR op_gt (pv 2) (pe_cst rfl t.c_MOST_DEPTH) (nomark _)) (pss_one (ps_raise rfl (takes_of rfl rfl rfl rfl) (praise t.x_NotWhole rfl))) pss_nil)
  (pss_cons (ps_set (i := 3) sc_read_row.nd rfl (Or.inl rfl) (pmethS (pv 0) t.k_Reader.cl t.d_Reader_take_within G_Reader_take_within (hr.mono (by omega)) (takes_of rfl rfl rfl rfl) (by exact (pa_cons pe_int (pa_cons (pe_cst rfl t.c_MOST_PIECES) pa_nil)))))
  (pss_cons (ps_set (i := 4) sc_read_row.nd rfl (Or.inl rfl) (pe_lst pa_nil))
  (pss_cons (ps_for (passes_of rfl) rfl (pi_range1 rfl t.z_range (pa_cons (pv 3) pa_nil)) (pg_name (i := 5) sc_read_row.nd rfl (Or.inl rfl)) (pss_one (ps_expr (pe_bm PySem.F.plainAttrs_list PySem.F.slot_list_append PySem.F.type_list_append mt_append (pv 4) (pa_cons (pcallS t.d_read_piece G_read_piece (hr.mono (by omega)) rfl (takes_of rfl rfl rfl rfl) (pa_cons (pv 0) (pa_cons (pv 1) (pa_cons (pv 2) pa_nil)))) pa_nil)))))
  (pss_one (ps_ret (pv 4))))))), ?_⟩)
  obtain ⟨r, na, pl, ns, i, cs, dep, rfl, hdep, hpl, hcs, hR, kN, kS⟩ := h
  refine q_when (b := decide (3 < dep)) (et_test (ev_op (ev_var rfl) ev_c rv_I0)) (fun c H1 e1 => ?_) (fun c H1 e1 => ?_)
  · exact kN rfl _ (.of (.of e1))
  · have := of_decide_eq_false c
    exact absurd (show (3 : Int) < dep by omega) this
theorem ok_read_row_succ (t : T K mg) (d k : Nat) (G_read_piece : FnOk P w K mg base (L2.CX P w) k t.d_read_piece.f t.d_read_piece.d ["reader", "pieces", "depth"] (spPiece t d)) (hk : 7 ≤ k) :
    FnOk P w K mg base (L2.CX P w) (k + 1) t.d_read_row.f t.d_read_row.d ["reader", "pieces", "depth"] (spRow t (d + 1)) := by
  have G_Reader_take_within := ok_Reader_take_within (P := P) (w := w) (base := base) t
  refine t.d_read_row.F.okX sc_read_row (fun vs H Q E h => by obtain ⟨r, na, pl, ns, i, cs, dep, rfl, _⟩ := h; rfl) (fun cdv A outer s H vs Q E hr h => ⟨_, (pss_cons (ps_if (pt_cmpR op_gt (pv 2) (pe_cst rfl t.c_MOST_DEPTH) (nomark _)) (pss_one (ps_raise rfl (takes_of rfl rfl rfl rfl) (praise t.x_NotWhole rfl))) pss_nil)
  (pss_cons (ps_set (i := 3) sc_read_row.nd rfl (Or.inl rfl) (pmethS (pv 0) t.k_Reader.cl t.d_Reader_take_within G_Reader_take_within (hr.mono (by omega)) (takes_of rfl rfl rfl rfl) (by exact (pa_cons pe_int (pa_cons (pe_cst rfl t.c_MOST_PIECES) pa_nil)))))
  (pss_cons (ps_set (i := 4) sc_read_row.nd rfl (Or.inl rfl) (pe_lst pa_nil))
  (pss_cons (ps_for (passes_of rfl) rfl (pi_range1 rfl t.z_range (pa_cons (pv 3) pa_nil)) (pg_name (i := 5) sc_read_row.nd rfl (Or.inl rfl)) (pss_one (ps_expr (pe_bm PySem.F.plainAttrs_list PySem.F.slot_list_append PySem.F.type_list_append mt_append (pv 4) (pa_cons (pcallS t.d_read_piece G_read_piece (hr.mono (by omega)) rfl (takes_of rfl rfl rfl rfl) (pa_cons (pv 0) (pa_cons (pv 1) (pa_cons (pv 2) pa_nil)))) pa_nil)))))
  (pss_one (ps_ret (pv 4))))))), ?_⟩)
  obtain ⟨r, na, pl, ns, i, cs, dep, rfl, hdep, hpl, hcs, hR, kN, kS⟩ := h
  have hplr : pl ≠ r := hR.ne hpl
  refine q_when (b := decide (3 < dep)) (et_test (ev_op (ev_var rfl) ev_c rv_I0)) (fun c H1 e1 => ?_) (fun c H1 e1 => ?_)
  · have := of_decide_eq_true c
    exact absurd this (by omega)
  obtain ⟨dx, h1⟩ := (hR.ex e1).o
  refine q_asgM (ev_var rfl) h1 m_Reader_take_within (ea_cons ev_c (ea_cons ev_c ea_nil)) fun H2 e2 => ⟨r, na, pl, ns, i, 0, 16, rfl, (hR.ex e1).ex e2, fun e H3 b3 => kN (by unfold rowM; rw [nat_none (lo := 0) (hi := 16) e]; rfl) H3 ((Two.of (.of (e1.trans e2))).trans (.of b3)), fun n j e H3 v b3 hR3 hv => ?_⟩
  obtain rfl : v = .int n := hv
  obtain ⟨n1, n2, n3, n4⟩ := nat_some (lo := 0) (hi := 16) e
  have e12 := e1.trans e2
  have hpl3 : H3 pl = some (.lst cs) := b3 _ _ (e12 _ _ hpl) hplr
  have t3 : Two r pl H H3 := (Two.of (.of e12)).trans (.of b3)
  have oe : rowM (d + 1) cs.length (ns.drop i) = rowsM (rowM d) n.toNat cs.length (ns.drop j) := by
    show (VamacBase.readNat 0 16 (ns.drop i)).bind _ = _
    rw [n1]
    rfl
  rw [oe] at kN kS
  refine q_asgL (el_lst ea_nil (by decide)) fun l H4 hl e4 hl4 => ?_
  have hlr : l ≠ r := by
    rintro rfl
    obtain ⟨d2, q⟩ := hR3.o
    rw [hl] at q
    cases q
  have hlp : l ≠ pl := by
    rintro rfl
    rw [hpl3] at hl
    cases hl
  have hl0 : H l = none := dom_back t3 (by obtain ⟨d2, q⟩ := hR3.o; exact ⟨_, q⟩) ⟨_, hpl3⟩ hl
  generalize ho : rowsM (rowM d) n.toNat cs.length (ns.drop j) = o at kN kS
  refine q_forR1 (n := n) (ea_cons (ev_var rfl) ea_nil) ⟨by omega, by omega⟩ (fun m σ' H' => ∃ pv q vb vp j', σ' = [some (.ref r), some (.ref pl), some (.int dep), some (.int n), some (.ref l), pv] ∧ Two r pl H H' ∧ RdAt t H' r na pl ns j' ∧ H' pl = some (.lst (cs ++ vp)) ∧ H' l = some (.lst vb) ∧
    RowAt t (fun b => H b = none ∧ b ≠ l) H' q vb ∧ PreAt t (fun b => H b = none ∧ b ≠ l) H' q vp ∧ cs.length + q.size ≤ 16 ∧ o = (rowsM (rowM d) (n.toNat - m) (cs.length + q.size) (ns.drop j')).map fun u => (q.andThen u.1, u.2))
    (fun H5 e5 => ⟨none, .done, [], [], j, rfl, (t3.trans (.of (.of e4))).trans (.of (.of e5)), (hR3.ex e4).ex e5, by rw [List.append_nil]; exact e5 _ _ (e4 _ _ hpl3), e5 _ _ hl4, rfl, rfl, by show cs.length + 0 ≤ 16; omega, ?_⟩) ?_ ?_
  · rw [← ho]
    show _ = Option.map (fun u => (u.1, u.2)) (rowsM (rowM d) n.toNat cs.length (ns.drop j))
    rw [show (fun u : VamacBase.Prog × List Int => (u.1, u.2)) = id from rfl, Option.map_id]
    rfl
  · rintro m σ' H' hm ⟨pv, q, vb, vp, j', rfl, t', hR', hpl', hl', hrow, hpre, hsz, hoe⟩
    obtain ⟨k', hk'⟩ : ∃ k', n.toNat - m = k' + 1 := ⟨n.toNat - m - 1, by omega⟩
    rw [hk'] at hoe
    obtain ⟨turnN, turnS⟩ := rowsM_turn hoe
    have hlen : (cs ++ vp).length = cs.length + q.size := by rw [List.length_append, hpre.len]
    refine ⟨_, rfl, .inl ⟨rfl, _, SqL.of hl'⟩, _, rfl, _, rfl, _, rfl, r, na, pl, ns, j', cs ++ vp, dep, rfl, by omega, hpl', by omega, hR', fun e' H6 b6 => kN (turnN (by rw [← hlen]; exact e')) H6 (t'.trans b6), fun p j2 e' H6 a vq b6 hR6 hpl6 hrow6 hpre6 => ?_⟩
    have hl6 : H6 l = some (.lst vb) := b6 _ _ hl' hlr hlp
    rw [hlen] at e'
    have hoe' := turnS p _ e'
    have hsz' : cs.length + (q.andThen p).size ≤ 16 := by
      rw [size_andThen, ← Nat.add_assoc]
      exact pieceM_size hsz e'
    have nn : ∀ c, H' c = none → H c = none ∧ c ≠ l := fun c z => ⟨dom_back t' (by obtain ⟨d2, q⟩ := hR'.o; exact ⟨_, q⟩) ⟨_, hpl'⟩ z, by rintro rfl; rw [hl'] at z; cases z⟩
    have k1 : ∀ c o, (H c = none ∧ c ≠ l) → H' c = some o → L2.upd H6 l (.lst (vb ++ [.ref a])) c = some o := fun c o z q => by
      rw [upd_ne z.2]
      refine b6 c o q ?_ ?_
      · rintro rfl
        obtain ⟨d2, q2⟩ := hR.o
        rw [q2] at z
        cases z.1
      · rintro rfl
        rw [hpl] at z
        cases z.1
    have k2 : ∀ c o, H' c = none → H6 c = some o → L2.upd H6 l (.lst (vb ++ [.ref a])) c = some o := fun c o z q => by
      rw [upd_ne (nn c z).2]
      exact q
    refine ⟨l, vb, .ref a, rfl, rfl, hl6, ?_, some (.int m), q.andThen p, vb ++ [.ref a], vp ++ vq, j2, rfl, (t'.trans b6).new hl0, ?_, ?_, upd_same, ?_, ?_, hsz', ?_⟩
    · rw [hrow.len]
      have := row_le q
      exact sz_lt (by omega)
    · exact ⟨hR6.o.imp fun _ z => by rw [upd_ne (Ne.symm hlr)]; exact z, far_two ((t'.trans b6).new hl0) hR.o hR.q, hR6.le, hR6.sz⟩
    · rw [upd_ne (Ne.symm hlp), hpl6, List.append_assoc]
    · exact (hrow.mono k1 fun _ z => z).append (hrow6.mono k2 nn)
    · exact (hpre.mono k1 fun _ z => z).append (hpre6.mono k2 nn)
    · rw [hoe']
      congr 2
      omega
  · rintro σ' H' ⟨pv, q, vb, vp, j', rfl, t', hR', hpl', hl', hrow, hpre, hsz, hoe⟩
    refine ⟨_, rfl, kS q j' ?_ H' l vb vp t' hR' hpl' hl0 hl' (hrow.mono (fun _ _ _ z => z) fun _ z => z.1) (hpre.mono (fun _ _ _ z => z) fun _ z => z.1)⟩
    rw [hoe, Nat.sub_self]
    show some (q.andThen .done, ns.drop j') = _
    rw [andThen_done]
/-- so many levels left -/
theorem ok_read_row (t : T K mg) : ∀ d : Nat, FnOk P w K mg base (L2.CX P w) (8 + 2 * d) t.d_read_row.f t.d_read_row.d ["reader", "pieces", "depth"] (spRow t d)
  | 0 => ok_read_row0 t
  | d + 1 => ok_read_row_succ t d (8 + 2 * d + 1) (ok_read_piece t d (8 + 2 * d) (ok_read_row t d) (by omega)) (by omega)
end
end G
/-! A program read; fields read. -/
namespace G
open PySem PySem.Spec PyProof.Rows L2 Evl My
section
variable {K : PySem.W.Frag} {mg : Str → Option Value} {P : Program} {w : World} {base : Heap}
theorem ok_Program_init (t : T K mg) : FnOk P w K mg base CX0 1 t.d_Program_init.f t.d_Program_init.d ["self", "numbers", "row", "pieces"] (spI 4 t.k_Program.C fun r => match r with | [n, l, p] => fs_Program n l p | _ => []) := by
  refine t.d_Program_init.F.ok sc_Program_init (fun vs H Q E h => h.1) (fun cdv A outer s H vs Q E hr h => ⟨_, (pss_cons (ps_fld (pv 0) (pv 1) rfl)
  (pss_cons (ps_fld (pv 0) (pv 2) rfl)
  (pss_one (ps_fld (pv 0) (pv 3) rfl)))), ?_⟩)
  obtain ⟨hl, x, dx, r, rfl, h1, q⟩ := h
  match r, hl with
  | [n, l, p], _ =>
    refine ⟨_, rfl, _, rfl, x, _, dx, [], rfl, h1, t.k_Program.cl, t.n_Program_numbers, (by show 0 < 1000; decide), ?_⟩
    refine ⟨_, rfl, _, rfl, x, _, dx, _, rfl, upd_same, t.k_Program.cl, t.n_Program_row, (by show 1 < 1000; decide), ?_⟩
    refine ⟨_, rfl, _, rfl, x, _, dx, _, rfl, upd_same, t.k_Program.cl, t.n_Program_pieces, (by show 2 < 1000; decide), ?_⟩
    rw [upd_upd, upd_upd, w_Program]
    exact q
/-- any address -/
abbrev Any : Addr → Prop := fun _ => True
/-- the object of a program -/
structure ProgAt (t : T K mg) (N : Addr → Prop) (H : Hp) (a : Addr) (p : VamacBase.Prog) : Prop where
  at_ : ∃ (dx ln lr lp : Addr) (vr vp : List V), H a = some (.ins t.k_Program.C dx (fs_Program (.ref ln) (.ref lr) (.ref lp))) ∧ H ln = some (.lst ((VamacBase.flatProg p).map V.int)) ∧ H lr = some (.lst vr) ∧ H lp = some (.lst vp) ∧ RowAt t N H p vr ∧ PreAt t N H p vp ∧ N a ∧ N ln ∧ N lr ∧ N lp
  ok : VamacBase.okProg p = true
theorem RowAt.ex {t : T K mg} {N : Addr → Prop} {H H' : Hp} {p : VamacBase.Prog} {vs : List V} (e : Ex H H') (h : RowAt t N H p vs) : RowAt t N H' p vs := h.mono (fun b o _ q => e b o q) fun _ z => z
theorem PreAt.ex {t : T K mg} {N : Addr → Prop} {H H' : Hp} {p : VamacBase.Prog} {vs : List V} (e : Ex H H') (h : PreAt t N H p vs) : PreAt t N H' p vs := h.mono (fun b o _ q => e b o q) fun _ z => z
theorem ProgAt.mono {t : T K mg} {N N' : Addr → Prop} {H H' : Hp} {a : Addr} {p : VamacBase.Prog} (k : ∀ b o, N b → H b = some o → H' b = some o) (n : ∀ b, N b → N' b) (h : ProgAt t N H a p) : ProgAt t N' H' a p := by
  obtain ⟨⟨dx, ln, lr, lp, vr, vp, h1, h2, h3, h4, h5, h6, n1, n2, n3, n4⟩, ok⟩ := h
  exact ⟨⟨dx, ln, lr, lp, vr, vp, k _ _ n1 h1, k _ _ n2 h2, k _ _ n3 h3, k _ _ n4 h4, h5.mono k n, h6.mono k n, n _ n1, n _ n2, n _ n3, n _ n4⟩, ok⟩
theorem ProgAt.mono2 {t : T K mg} {N N' : Addr → Prop} {H H' : Hp} {a : Addr} {p : VamacBase.Prog} (k : ∀ b o, N b → H b = some o → H' b = some o) (n : ∀ b o, N b → H b = some o → N' b) (h : ProgAt t N H a p) : ProgAt t N' H' a p := by
  obtain ⟨⟨dx, ln, lr, lp, vr, vp, h1, h2, h3, h4, h5, h6, n1, n2, n3, n4⟩, ok⟩ := h
  exact ⟨⟨dx, ln, lr, lp, vr, vp, k _ _ n1 h1, k _ _ n2 h2, k _ _ n3 h3, k _ _ n4 h4, h5.mono2 k n, h6.mono2 k n, n _ _ n1 h1, n _ _ n2 h2, n _ _ n3 h3, n _ _ n4 h4⟩, ok⟩
theorem ProgAt.ex {t : T K mg} {N : Addr → Prop} {H H' : Hp} {a : Addr} {p : VamacBase.Prog} (e : Ex H H') (h : ProgAt t N H a p) : ProgAt t N H' a p := h.mono (fun b o _ q => e b o q) fun _ z => z
theorem whole_none {A : Type} {rd : List Int → Option (A × List Int)} {x : List Int} (h : rd x = none) : VamacBase.whole rd x = none := by
  unfold VamacBase.whole
  rw [h]
theorem whole_more {A : Type} {rd : List Int → Option (A × List Int)} {x y : List Int} {a : A} (h : rd x = some (a, y)) (n : y ≠ []) : VamacBase.whole rd x = none := by
  unfold VamacBase.whole
  rw [h]
  cases y with
  | nil => exact absurd rfl n
  | cons _ _ => rfl
theorem whole_some {A : Type} {rd : List Int → Option (A × List Int)} {x : List Int} {a : A} (h : rd x = some (a, [])) : VamacBase.whole rd x = some a := by
  unfold VamacBase.whole
  rw [h]
def spProgram (t : T K mg) : Sp := fun vs H Q E => ∃ na ns, vs = [.ref na] ∧ SqL K H na (ns.map V.int) ∧ ns.length ≤ 100000 ∧ (VamacBase.whole VamacBase.readProg ns = none → ∀ H', Ex H H' → E (.ref t.x_NotWhole.C) none H') ∧
  (∀ p, VamacBase.whole VamacBase.readProg ns = some p → ∀ H' a, Ex H H' → ProgAt t (fun b => H b = none) H' a p → Q (.ref a) H')
/-- all that H knows stands, where only new things were changed -/
theorem Two.news {H H1 H2 : Hp} {r p : Addr} (b : Two r p H1 H2) (e : Ex H H1) (hr : H r = none) (hp : H p = none) : Ex H H2 := fun c o h => b c o (e c o h) (ne_of_none h hr) (ne_of_none h hp)
theorem But.news {H H1 H2 : Hp} {r : Addr} (b : But r H1 H2) (e : Ex H H1) (hr : H r = none) : Ex H H2 := fun c o h => b c o (e c o h) (ne_of_none h hr)
theorem ok_read_program (t : T K mg) : FnOk P w K mg base (L2.CX P w) 17 t.d_read_program.f t.d_read_program.d ["numbers"] (spProgram t) := by
  have G_Reader_init := ok_Reader_init (P := P) (w := w) (base := base) t
  have G_read_row := ok_read_row (P := P) (w := w) (base := base) t 4
  have G_Reader_finish := ok_Reader_finish (P := P) (w := w) (base := base) t
  have G_Program_init := ok_Program_init (P := P) (w := w) (base := base) t
  refine t.d_read_program.F.okX sc_read_program (fun vs H Q E h => by obtain ⟨na, ns, rfl, _⟩ := h; rfl) (fun cdv A outer s H vs Q E hr h => ⟨_, (pss_cons (ps_set (i := 1) sc_read_program.nd rfl (Or.inl rfl) (pmake t.d_Reader_init t.k_Reader.g G_Reader_init (hr.mono (by omega)) rfl (pa_cons (pv 0) pa_nil)))
  (pss_cons (ps_set (i := 2) sc_read_program.nd rfl (Or.inl rfl) (pe_lst pa_nil))
  (pss_cons (ps_set (i := 3) sc_read_program.nd rfl (Or.inl rfl) (pcallS t.d_read_row G_read_row (hr.mono (by omega)) rfl (takes_of rfl rfl rfl rfl) (pa_cons (pv 1) (pa_cons (pv 2) (pa_cons pe_int pa_nil)))))
  (pss_cons (ps_expr (pmethS0 (pv 1) t.k_Reader.cl t.d_Reader_finish G_Reader_finish (hr.mono (by omega)) (takes_of rfl rfl rfl rfl)))
  (pss_one (ps_ret (pmake t.d_Program_init t.k_Program.g G_Program_init (hr.mono (by omega)) rfl (pa_cons (pe_callTy call_list_of rfl t.z_list (by decide +kernel) (pa_cons (pv 0) pa_nil)) (pa_cons (pv 3) (pa_cons (pv 2) pa_nil)))))))))), ?_⟩)
  obtain ⟨na, ns, rfl, hq, hsz, kN, kS⟩ := h
  refine ⟨_, rfl, fun r dr hr0 hd0 hne => ⟨rfl, r, dr, [.ref na], rfl, upd_same, rfl, ?_⟩⟩
  obtain ⟨e1, d1⟩ := made_ex (C := t.k_Reader.C) (f0 := []) (fs := fs_Reader (.ref na) (.int 0)) hr0 hd0 hne
  dsimp only [gName]
  generalize L2.upd _ _ _ = H1 at e1 d1 ⊢
  refine q_asgL (el_lst ea_nil (by decide)) fun pl H2 hp e2 hpl => ?_
  have hR2 : RdAt t H2 r na pl ns 0 := ⟨⟨dr, e2 _ _ d1⟩, far_ex e2 (far_new (ex_l e1 hq) hp), Nat.zero_le _, hsz⟩
  have hp0 : H pl = none := fresh_back e1 hp
  refine q_asgS (ea_cons (ev_var rfl) (ea_cons (ev_var rfl) (ea_cons ev_c ea_nil))) fun H3 e3 => ⟨r, na, pl, ns, 0, [], 0, rfl, rfl, e3 _ _ hpl, Nat.zero_le _, hR2.ex e3, fun e H4 b4 => kN ?_ H4 (b4.news ((e1.trans e2).trans e3) hr0 hp0), fun p j e H4 l vb vp b4 hR4 hpl4 hl3 hl4 hrow hpre => ?_⟩
  · refine whole_none ?_
    rw [readProg_eq]
    exact e
  have ep : VamacBase.readProg ns = some (p, ns.drop j) := by
    rw [readProg_eq]
    exact e
  have e04 : Ex H H4 := b4.news ((e1.trans e2).trans e3) hr0 hp0
  obtain ⟨dx4, d4⟩ := hR4.o
  refine q_dropM (ev_var rfl) d4 m_Reader_finish ea_nil fun H5 e5 => ⟨r, na, pl, ns, j, rfl, hR4.ex e5, fun e H6 e6 => kN (whole_more ep e) H6 ((e04.trans e5).trans e6), fun e H6 e6 => ?_⟩
  have e46 := e5.trans e6
  have e06 := e04.trans e46
  have ew : VamacBase.whole VamacBase.readProg ns = some p := whole_some (by rw [ep, e])
  obtain ⟨ef, ok⟩ := whole_flat ew
  refine ⟨_, rfl, ⟨na, _, rfl, .inl (ex_l e06 hq), fun ln hln => ⟨_, rfl, _, rfl, fun a da ha hda hne2 => ⟨rfl, a, da, _, rfl, upd_same, rfl, ?_⟩⟩⟩⟩
  obtain ⟨e8, d8⟩ := made_ex (C := t.k_Program.C) (f0 := []) (fs := fs_Program (.ref ln) (.ref l) (.ref pl)) ha hda hne2
  have e7 : Ex H6 (L2.upd H6 ln (.lst (ns.map V.int))) := Ex.new hln
  have hln7 : L2.upd H6 ln (.lst (ns.map V.int)) ln = some (.lst (ns.map V.int)) := upd_same
  generalize L2.upd H6 ln (.lst (ns.map V.int)) = H7 at e7 hln7 ha hda e8 d8 ⊢
  have e48 := (e46.trans e7).trans e8
  refine kS p ew _ a ((e06.trans e7).trans e8) ⟨⟨da, ln, l, pl, vb, vp, d8, ?_, e48 _ _ hl4, e48 _ _ (by rw [hpl4]; rfl), (hrow.ex e48).mono (fun _ _ _ z => z) ?_, (hpre.ex e48).mono (fun _ _ _ z => z) ?_, fresh_back (e06.trans e7) ha, fresh_back e06 hln, ?_, hp0⟩, ok⟩
  · rw [← ef]
    exact e8 _ _ hln7
  · exact fun c z => fresh_back ((e1.trans e2).trans e3) z
  · exact fun c z => fresh_back ((e1.trans e2).trans e3) z
  · exact fresh_back ((e1.trans e2).trans e3) hl3
end
end G
/-! Loops over pieces; how deep a program is; whether it comes nearer; how many deeds it does. -/
namespace G
open PySem PySem.Spec PyProof.Rows L2 Evl My
section
variable {K : PySem.W.Frag} {mg : Str → Option Value} {P : Program} {w : World} {base : Heap}
/-- the value v is the piece x -/
def PcR (t : T K mg) (H : Hp) (v : V) (x : Pc) : Prop := ∃ a, v = .ref a ∧ PcAt t Any H x.1 (RowAt t Any H x.2) a
theorem PcR.ex {t : T K mg} {H H' : Hp} {v : V} {x : Pc} (e : Ex H H') (h : PcR t H v x) : PcR t H' v x := by
  obtain ⟨a, rfl, h⟩ := h
  exact ⟨a, rfl, h.mono (fun b o _ q => e b o q) (fun _ z => z) fun _ z => z.ex e⟩
theorem paired_mono {α β : Type} {R R' : α → β → Prop} (h : ∀ a b, R a b → R' a b) : ∀ {l : List α} {m : List β}, Paired R l m → Paired R' l m
  | _, _, .nil => .nil
  | _, _, .cons r t => .cons (h _ _ r) (paired_mono h t)
theorem paired_append {α β : Type} {R : α → β → Prop} : ∀ {l l' : List α} {m m' : List β}, Paired R l m → Paired R l' m' → Paired R (l ++ l') (m ++ m')
  | _, _, _, _, .nil, q => q
  | _, _, _, _, .cons r t, q => .cons r (paired_append t q)
theorem paired_get {α β : Type} {R : α → β → Prop} : ∀ {l : List α} {m : List β} {i : Nat} {a : α}, Paired R l m → l[i]? = some a → ∃ b, m[i]? = some b ∧ R a b
  | _, _, _, _, .nil, h => by simp at h
  | _, _, 0, _, .cons r t, h => by cases h; exact ⟨_, rfl, r⟩
  | _, _, i + 1, _, .cons r t, h => by
    obtain ⟨b, h1, h2⟩ := paired_get (i := i) t (by simpa using h)
    exact ⟨b, by simpa using h1, h2⟩
theorem RowAt.paired {t : T K mg} {H : Hp} : ∀ {p : VamacBase.Prog} {vs : List V}, RowAt t Any H p vs → Paired (PcR t H) vs (rowL p)
  | .done, _, e => by
    obtain rfl := e
    exact .nil
  | .deed d s r, _, ⟨a, vr, e, h, q⟩ => by
    subst e
    exact .cons ⟨a, rfl, ⟨h.1, h.2.imp fun dx z => z.imp fun l z => ⟨z.1, fun y => by cases y⟩⟩⟩ (RowAt.paired q)
  | .times m b r, _, ⟨a, vr, e, h, q⟩ => by
    subst e
    exact .cons ⟨a, rfl, h⟩ (RowAt.paired q)
  | .toEnd b r, _, ⟨a, vr, e, h, q⟩ => by
    subst e
    exact .cons ⟨a, rfl, h⟩ (RowAt.paired q)
  | .when f v b r, _, ⟨a, vr, e, h, q⟩ => by
    subst e
    exact .cons ⟨a, rfl, h⟩ (RowAt.paired q)
theorem PreAt.paired {t : T K mg} {H : Hp} : ∀ {p : VamacBase.Prog} {vs : List V}, PreAt t Any H p vs → Paired (PcR t H) vs (pre p)
  | .done, _, e => by
    obtain rfl := e
    exact .nil
  | .deed d s r, _, ⟨a, vr, e, h, q⟩ => by
    subst e
    exact .cons ⟨a, rfl, ⟨h.1, h.2.imp fun dx z => z.imp fun l z => ⟨z.1, fun y => by cases y⟩⟩⟩ (PreAt.paired q)
  | .times m b r, _, ⟨a, vb, vr, e, h, q1, q⟩ => by
    subst e
    exact .cons ⟨a, rfl, h⟩ (paired_append (PreAt.paired q1) (PreAt.paired q))
  | .toEnd b r, _, ⟨a, vb, vr, e, h, q1, q⟩ => by
    subst e
    exact .cons ⟨a, rfl, h⟩ (paired_append (PreAt.paired q1) (PreAt.paired q))
  | .when f v b r, _, ⟨a, vb, vr, e, h, q1, q⟩ => by
    subst e
    exact .cons ⟨a, rfl, h⟩ (paired_append (PreAt.paired q1) (PreAt.paired q))
/-- a loop over pieces that makes nothing but new things -/
theorem q_rows {t : T K mg} {σ : L2.St} {H : Hp} {D : Ends} {tu tz : TS} {a : Addr} {tl : TE} {vb : List V} {l : List Pc} {j : Nat} (h : Ev tl σ H (.ref a)) (hx : H a = some (.lst vb)) (R : Paired (PcR t H) vb l) (Pv : Nat → L2.St → Prop) (h0 : Pv 0 σ)
    (hs : ∀ i x p σ' H', Ex H H' → l[i]? = some x → PcR t H' p x → Pv i σ' → tu { D with nx := fun σ2 H2 => Ex H H2 ∧ Pv (i + 1) σ2, ct := fun σ2 H2 => Ex H H2 ∧ Pv (i + 1) σ2, bk := tz D } (σ'.set j (some p)) H')
    (hd : ∀ σ' H', Ex H H' → Pv l.length σ' → tz D σ' H') : tSeq (tFor (iList K tl) (gName j) tu) tz D σ H := by
  refine q_forL h (.of hx) (fun i σ' H' => Ex H H' ∧ Pv i σ') (fun H1 e1 => ⟨e1, h0⟩) (fun i σ' H' _ p => .of (p.1 _ _ hx)) (fun i p σ' H' hi q => ?_) (fun σ' H' p => hd σ' H' p.1 (by rw [← R.length]; exact p.2))
  obtain ⟨x, h1, h2⟩ := paired_get R hi
  exact hs i x p σ' H' q.1 h1 (h2.ex q.1) q.2
/-- for number, piece in enumerate(pieces) -/
theorem q_enum {t : T K mg} {σ : L2.St} {H : Hp} {D : Ends} {tu tz : TS} {a : Addr} {tl : TE} {vb : List V} {l : List Pc} {j1 j2 : Nat} (h : Ev tl σ H (.ref a)) (hx : H a = some (.lst vb)) (R : Paired (PcR t H) vb l) (Pv : Nat → L2.St → Prop) (h0 : Pv 0 σ)
    (hs : ∀ i x p σ' H', Ex H H' → l[i]? = some x → PcR t H' p x → Pv i σ' → tu { D with nx := fun σ2 H2 => Ex H H2 ∧ Pv (i + 1) σ2, ct := fun σ2 H2 => Ex H H2 ∧ Pv (i + 1) σ2, bk := tz D } ((σ'.set j1 (some (.int (i : Nat)))).set j2 (some p)) H')
    (hd : ∀ σ' H', Ex H H' → Pv l.length σ' → tz D σ' H') : tSeq (tFor (iEnum K (tCons tl tNil)) (gTup K 2 (gCons (gName j1) (gCons (gName j2) gNil))) tu) tz D σ H := by
  refine h H (Ex.refl H) _ fun H1 e1 => ⟨a, vb, rfl, .of (e1 _ _ hx), ?_⟩
  refine for_it (D := { D with nx := tz D }) (walk_enum (xs := vb)) (fun i σ' H' => Ex H H' ∧ Pv i σ') ⟨e1, h0⟩ (fun i σ' H' _ p => .of (p.1 _ _ hx)) (fun i p σ' H' H2 hi q y => ?_) (fun σ' H' p => hd σ' H' p.1 (by rw [← R.length]; exact p.2))
  obtain ⟨A, x, y', rfl, hA, rfl, ex, ey⟩ := y
  obtain rfl : V.int (i : Nat) = x := Option.some.inj ex
  obtain ⟨x, h1, h2⟩ := paired_get R ey
  have eA := q.1.trans (Ex.new (o := .tup [.int (i : Nat), y']) hA)
  exact ⟨A, _, rfl, .of upd_same, rfl, _, _, rfl, _, _, rfl, rfl, hs i x y' σ' _ eA h1 (h2.ex eA) q.2⟩
/-! ### how deep -/
def depthL (l : List Pc) : Nat := l.foldr (fun x a => Nat.max (depthOne x) a) 0
theorem depthL_deed {l : List Pc} {x : Pc} (h : x.1.isDeed = true) : depthL (l ++ [x]) = depthL l := by
  unfold depthL
  rw [max_snoc]
  have : depthOne x = 0 := by unfold depthOne; rw [h]; rfl
  rw [this]
  exact Nat.max_eq_left (Nat.zero_le _)
theorem depthL_row {l : List Pc} {x : Pc} (h : x.1.isDeed = false) : ((depthL (l ++ [x]) : Nat) : Int) = if 1 + (x.2.depth : Int) > (depthL l : Nat) then 1 + (x.2.depth : Int) else (depthL l : Nat) := by
  have e : depthL (l ++ [x]) = Nat.max (depthL l) (x.2.depth + 1) := by
    unfold depthL
    rw [max_snoc]
    have : depthOne x = x.2.depth + 1 := by unfold depthOne; rw [h]; rfl
    rw [this]
  rw [e]
  show ((max (depthL l) (x.2.depth + 1) : Nat) : Int) = _
  split <;> omega
def RDepth (t : T K mg) (n : Nat) : List V → Hp → V → Prop := fun vs H z => ∃ a vb p, vs = [.ref a] ∧ H a = some (.lst vb) ∧ RowAt t Any H p vb ∧ p.depth < n ∧ z = .int (p.depth : Nat)
theorem ev_row {t : T K mg} {ta : TE} {σ : L2.St} {H : Hp} {a dx : Addr} {h : Head} {l : V} (e : Ev ta σ H (.ref a)) (o : H a = some (.ins (hC t h) dx (hF h l))) (n : h.isDeed = false) : Ev (tFld K ta "row") σ H l :=
  ev_fld e o (row_cls t h) (row_no t n) (row_get n)
theorem never_of {CX : CXT} {k : Nat} {f : Addr} {fd : FuncData} {ps : List Str} {sp : Sp} (h : ∀ vs H Q E, ¬ sp vs H Q E) : FnOk P w K mg base CX k f fd ps sp := never.imp fun vs H Q E q => h vs H Q E q
theorem ok_depth_of (t : T K mg) : ∀ n : Nat, FnOk P w K mg base CX0 (n + 1) t.d_depth_of.f t.d_depth_of.d ["row"] (spV 1 (RDepth t n))
  | 0 => never_of fun vs H Q E h => by
    obtain ⟨_, z, ⟨a, vb, p, _, _, _, hn, _⟩, _⟩ := h
    exact Nat.not_lt_zero _ hn
  | n + 1 => by
    have G_depth_of := ok_depth_of t n
    refine t.d_depth_of.F.ok sc_depth_of (fun vs H Q E h => h.1) (fun cdv A outer s H vs Q E hr h => ⟨_, (pss_cons (ps_set (i := 1) sc_depth_of.nd rfl (Or.inl rfl) pe_int)
  (pss_cons (ps_for PassesOwn.never rfl (pi_list (pv 0)) (pg_name (i := 2) sc_depth_of.nd rfl (Or.inl rfl)) (pss_one (ps_if (pt_not (pt_val (pe_callB call_isi rfl t.z_isinstance (by decide +kernel) (pa_cons (pv 2) (pa_cons (pe_cls rfl t.k_Deed.g) pa_nil))))) (pss_one (ps_set (i := 1) sc_depth_of.nd rfl (Or.inl rfl) (pe_callB (call_max2 rfl) rfl t.z_max (by decide +kernel) (pa_cons (pv 1) (pa_cons (pe_op op_add pe_int (pcall t.d_depth_of G_depth_of (hr.mono (by omega)) rfl (pa_cons (pe_fld (pv 2) rfl) pa_nil))) pa_nil))))) pss_nil)))
  (pss_one (ps_ret (pv 1))))), ?_⟩)
    obtain ⟨_, z, ⟨a, vb, p, rfl, h1, h2, hn, rfl⟩, q⟩ := h
    refine q_asg ev_c fun H1 e1 => ?_
    refine q_rows (ev_var rfl) (e1 _ _ h1) (h2.ex e1).paired (fun i σ' => ∃ pv, σ' = [some (.ref a), some (.int (depthL ((rowL p).take i) : Nat)), pv]) ⟨none, rfl⟩ ?_ ?_
    · rintro i x pv σ' H' e' hx ⟨b, rfl, _, dx, l, ho, hrow⟩ ⟨_, rfl⟩
      have hmem := List.mem_of_getElem? hx
      have ht : (rowL p).take (i + 1) = (rowL p).take i ++ [x] := by
        rw [List.take_add_one, hx]
        rfl
      refine s_when (b := !x.1.isDeed) (et_not (et_B (isi_Deed t (ev_var rfl) ho))) (fun hb H2 e2 => ?_) (fun hb H2 e2 => ⟨e'.trans e2, some (.ref b), ?_⟩)
      · have hb' : x.1.isDeed = false := by simpa using hb
        obtain ⟨lb, ib, rfl, _, hlb, hrb⟩ := hrow hb'
        have hd := rowL_depth p x hmem hb'
        refine s_asg (ev_max2 (ev_var rfl) (ev_op ev_c (ev_call (ea_cons (ev_row (ev_var rfl) (e2 _ _ ho) hb') ea_nil) (spV_use rfl fun H3 e3 => ⟨lb, ib, x.2, rfl, e3 _ _ (e2 _ _ hlb), (hrb.ex e2).ex e3, by omega, rfl⟩)) rv_I0)) fun H3 e3 => ⟨(e'.trans e2).trans e3, some (.ref b), ?_⟩
        rw [ht, depthL_row hb']
        rfl
      · have hb' : x.1.isDeed = true := by simpa using hb
        rw [ht, depthL_deed hb']
        rfl
    · rintro σ' H' e' ⟨pv, rfl⟩
      rw [List.take_length, show depthL (rowL p) = p.depth from (depth_rowL p).symm]
      exact ⟨_, rfl, q _ (e1.trans e')⟩
end
end G
/-! Nearer. -/
namespace G
open PySem PySem.Spec PyProof.Rows L2 Evl My
section
variable {K : PySem.W.Frag} {mg : Str → Option Value} {P : Program} {w : World} {base : Heap}
def optV : Option Int → V
  | none => .non
  | some i => .int i
def RMoreD (t : T K mg) : List V → Hp → V → Prop := fun vs H z => ∃ a d s, vs = [.ref a] ∧ DeedAt t H a d s ∧ z = optV (Vamacf.moreOf d)
def RMoreP (t : T K mg) (n : Nat) : List V → Hp → V → Prop := fun vs H z => ∃ a h b, vs = [.ref a] ∧ PcAt t Any H h (RowAt t Any H b) a ∧ (h.isDeed = false → b.depth < n ∧ VamacBase.okPieces b = true) ∧ okPc (h, b) = true ∧ z = optV (moreOne (h, b))
def RMoreR (t : T K mg) (n : Nat) : List V → Hp → V → Prop := fun vs H z => ∃ a vb p, vs = [.ref a] ∧ H a = some (.lst vb) ∧ RowAt t Any H p vb ∧ p.depth < n ∧ VamacBase.okPieces p = true ∧ z = optV (Vamacf.more p)
theorem ok_rest_behind_deed (t : T K mg) : FnOk P w K mg base CX0 1 t.d_rest_behind_deed.f t.d_rest_behind_deed.d ["deed"] (spV 1 (RMoreD t)) := by
  refine t.d_rest_behind_deed.F.ok sc_rest_behind_deed (fun vs H Q E h => h.1) (fun cdv A outer s H vs Q E hr h => ⟨_, (pss_cons (ps_if (pt_cmpR op_eq (pe_fld (pv 0) rfl) (pe_cst rfl t.c_TOP) (nomark _)) (pss_one (ps_ret pe_non)) pss_nil)
  (pss_cons (ps_if (pt_cmpR op_in_seq (pe_fld (pv 0) rfl) (pe_tup (pa_cons (pe_cst rfl t.c_DOWN) (pa_cons (pe_cst rfl t.c_DELETE) (pa_cons (pe_cst rfl t.c_FIND) pa_nil)))) (by rfl)) (pss_one (ps_ret (pe_un un_neg pe_int))) pss_nil)
  (pss_cons (ps_if (pt_cmpR op_in_seq (pe_fld (pv 0) rfl) (pe_tup (pa_cons (pe_cst rfl t.c_UP) (pa_cons (pe_cst rfl t.c_DOUBLE) pa_nil))) (by rfl)) (pss_one (ps_ret pe_int)) pss_nil)
  (pss_one (ps_ret pe_int))))), ?_⟩)
  obtain ⟨_, z, ⟨a, d, s, rfl, ⟨dx, ho⟩, rfl⟩, q⟩ := h
  have kd : ∀ {σ H'}, Ex H H' → Ev (tFld K (tVar 0) "kind") (some (V.ref a) :: σ) H' (.int (kindOf d)) := fun e => ev_fld (ev_var rfl) (e _ _ ho) t.k_Deed.cl t.n_Deed_kind l_Deed_kind
  refine q_when (b := decide (V.int (kindOf d) = V.int 2)) (et_test (ev_op (kd (Ex.refl H)) ev_c (rv_eq rfl))) (fun c H1 e1 => ?_) (fun c H1 e1 => ?_)
  · have c' := V.int.inj (of_decide_eq_true c)
    have : Vamacf.moreOf d = none := by rw [moreOf_kind, if_pos c']
    rw [this] at q
    exact q _ e1
  have c2 : kindOf d ≠ 2 := fun z => of_decide_eq_false c (congrArg V.int z)
  refine q_when (b := decide (kindOf d ∈ ([0, 7, 9] : List Int))) (et_test (ev_is (ev_inU (kd e1) (eu_tup (ea_cons ev_c (ea_cons ev_c (ea_cons ev_c ea_nil))) (by decide)) rfl rfl) (congrArg V.bl (inV_ints (kindOf d) [0, 7, 9])))) (fun c H2 e2 => ?_) (fun c H2 e2 => ?_)
  · have c' := of_decide_eq_true c
    have : Vamacf.moreOf d = some (-1) := by rw [moreOf_kind, if_neg c2, if_pos c']
    rw [this] at q
    exact s_ret (ev_un ev_c ru_neg) fun H3 e3 => q _ ((e1.trans e2).trans e3)
  have c3 : ¬ kindOf d ∈ ([0, 7, 9] : List Int) := of_decide_eq_false c
  refine q_when (b := decide (kindOf d ∈ ([1, 8] : List Int))) (et_test (ev_is (ev_inU (kd (e1.trans e2)) (eu_tup (ea_cons ev_c (ea_cons ev_c ea_nil)) (by decide)) rfl rfl) (congrArg V.bl (inV_ints (kindOf d) [1, 8])))) (fun c H3 e3 => ?_) (fun c H3 e3 => ?_)
  · have c' := of_decide_eq_true c
    have : Vamacf.moreOf d = some 1 := by rw [moreOf_kind, if_neg c2, if_neg c3, if_pos c']
    rw [this] at q
    exact q _ ((e1.trans e2).trans e3)
  · have c4 : ¬ kindOf d ∈ ([1, 8] : List Int) := of_decide_eq_false c
    have : Vamacf.moreOf d = some 0 := by rw [moreOf_kind, if_neg c2, if_neg c3, if_neg c4]
    rw [this] at q
    exact q _ ((e1.trans e2).trans e3)
/-- isinstance of a piece, by its head -/
def isToEnd : Head → Bool
  | .toEnd => true
  | _ => false
def isTimes : Head → Bool
  | .times _ => true
  | _ => false
def isWhen : Head → Bool
  | .when _ _ => true
  | _ => false
theorem isi_LoopToEnd (t : T K mg) {ta : TE} {σ : L2.St} {H : Hp} {a dx : Addr} {h : Head} {fs : List (Str × V)} (e : Ev ta σ H (.ref a)) (o : H a = some (.ins (hC t h) dx fs)) : Ev (tCB (rIsi K) (tCons ta (tCons (tC (.ref t.k_LoopToEnd.C)) tNil))) σ H (.bl (isToEnd h)) := by
  cases h with
  | deed d s => exact ev_isi (y := "") t.k_Deed t.hn t.htk e o t.i_Deed_LoopToEnd
  | times n => exact ev_isi (y := "") t.k_Loop t.hn t.htk e o t.i_Loop_LoopToEnd
  | toEnd => exact ev_isi (y := "") t.k_LoopToEnd t.hn t.htk e o t.i_LoopToEnd_LoopToEnd
  | when f v => exact ev_isi (y := "") t.k_Part t.hn t.htk e o t.i_Part_LoopToEnd
theorem isi_Loop (t : T K mg) {ta : TE} {σ : L2.St} {H : Hp} {a dx : Addr} {h : Head} {fs : List (Str × V)} (e : Ev ta σ H (.ref a)) (o : H a = some (.ins (hC t h) dx fs)) : Ev (tCB (rIsi K) (tCons ta (tCons (tC (.ref t.k_Loop.C)) tNil))) σ H (.bl (isTimes h)) := by
  cases h with
  | deed d s => exact ev_isi (y := "") t.k_Deed t.hn t.htk e o t.i_Deed_Loop
  | times n => exact ev_isi (y := "") t.k_Loop t.hn t.htk e o t.i_Loop_Loop
  | toEnd => exact ev_isi (y := "") t.k_LoopToEnd t.hn t.htk e o t.i_LoopToEnd_Loop
  | when f v => exact ev_isi (y := "") t.k_Part t.hn t.htk e o t.i_Part_Loop
theorem isi_Part (t : T K mg) {ta : TE} {σ : L2.St} {H : Hp} {a dx : Addr} {h : Head} {fs : List (Str × V)} (e : Ev ta σ H (.ref a)) (o : H a = some (.ins (hC t h) dx fs)) : Ev (tCB (rIsi K) (tCons ta (tCons (tC (.ref t.k_Part.C)) tNil))) σ H (.bl (isWhen h)) := by
  cases h with
  | deed d s => exact ev_isi (y := "") t.k_Deed t.hn t.htk e o t.i_Deed_Part
  | times n => exact ev_isi (y := "") t.k_Loop t.hn t.htk e o t.i_Loop_Part
  | toEnd => exact ev_isi (y := "") t.k_LoopToEnd t.hn t.htk e o t.i_LoopToEnd_Part
  | when f v => exact ev_isi (y := "") t.k_Part t.hn t.htk e o t.i_Part_Part
theorem ok_rest_behind_piece (t : T K mg) (n k : Nat) (G_rest_behind_row : FnOk P w K mg base CX0 k t.d_rest_behind_row.f t.d_rest_behind_row.d ["row"] (spV 1 (RMoreR t n))) (hk : 1 ≤ k) :
    FnOk P w K mg base CX0 (k + 1) t.d_rest_behind_piece.f t.d_rest_behind_piece.d ["piece"] (spV 1 (RMoreP t n)) := by
  have G_rest_behind_deed := ok_rest_behind_deed (P := P) (w := w) (base := base) t
  refine t.d_rest_behind_piece.F.ok sc_rest_behind_piece (fun vs H Q E h => h.1) (fun cdv A outer s H vs Q E hr h => ⟨_, (pss_cons (ps_if (pt_val (pe_callB call_isi rfl t.z_isinstance (by decide +kernel) (pa_cons (pv 0) (pa_cons (pe_cls rfl t.k_Deed.g) pa_nil)))) (pss_one (ps_ret (pcall t.d_rest_behind_deed G_rest_behind_deed (hr.mono (by omega)) rfl (pa_cons (pv 0) pa_nil)))) pss_nil)
  (pss_cons (ps_if (pt_val (pe_callB call_isi rfl t.z_isinstance (by decide +kernel) (pa_cons (pv 0) (pa_cons (pe_cls rfl t.k_LoopToEnd.g) pa_nil)))) (pss_one (ps_ret pe_int)) pss_nil)
  (pss_cons (ps_set (i := 1) sc_rest_behind_piece.nd rfl (Or.inl rfl) (pcall t.d_rest_behind_row G_rest_behind_row (hr.mono (by omega)) rfl (pa_cons (pe_fld (pv 0) rfl) pa_nil)))
  (pss_cons (ps_if (pt_cmpR op_isN (pv 1) pe_non (nomark _)) (pss_one (ps_ret pe_non)) pss_nil)
  (pss_cons (ps_if (pt_val (pe_callB call_isi rfl t.z_isinstance (by decide +kernel) (pa_cons (pv 0) (pa_cons (pe_cls rfl t.k_Loop.g) pa_nil)))) (pss_one (ps_ret (pe_op op_mul (pe_fld (pv 0) rfl) (pv 1)))) pss_nil)
  (pss_one (ps_ret (pe_callB (call_max2 rfl) rfl t.z_max (by decide +kernel) (pa_cons pe_int (pa_cons (pv 1) pa_nil)))))))))), ?_⟩)
  obtain ⟨_, z, ⟨a, h, b, rfl, ⟨_, dx, l, ho, hrow⟩, hn, hok, rfl⟩, q⟩ := h
  refine q_when (b := h.isDeed) (et_B (isi_Deed t (ev_var rfl) ho)) (fun c H1 e1 => ?_) (fun c H1 e1 => ?_)
  · cases h with
    | deed d s => exact s_ret (ev_call (ea_cons (ev_var rfl) ea_nil) (spV_use rfl fun H2 e2 => ⟨a, d, s, rfl, ⟨dx, e2 _ _ (e1 _ _ ho)⟩, rfl⟩)) fun H2 e2 => q _ (e1.trans e2)
    | _ => cases c
  obtain ⟨lb, vb, rfl, _, hlb, hrb⟩ := hrow c
  obtain ⟨hn1, hn2⟩ := hn c
  refine q_when (b := isToEnd h) (et_B (isi_LoopToEnd t (ev_var rfl) (e1 _ _ ho))) (fun c2 H2 e2 => ?_) (fun c2 H2 e2 => ?_)
  · cases h with
    | toEnd => exact q _ (e1.trans e2)
    | _ => cases c2
  have e12 := e1.trans e2
  refine q_asg (ev_call (ea_cons (ev_row (ev_var rfl) (e12 _ _ ho) c) ea_nil) (spV_use rfl fun H3 e3 => ⟨lb, vb, b, rfl, e3 _ _ (e12 _ _ hlb), (hrb.ex e12).ex e3, hn1, hn2, rfl⟩)) fun H3 e3 => ?_
  have e13 := e12.trans e3
  cases em : Vamacf.more b with
  | none =>
    refine q_when (b := true) (et_test (ev_op (ev_var rfl) ev_c (rv_val fun H4 e4 Q q => ⟨rfl, q⟩))) (fun _ H4 e4 => ?_) (fun c _ _ => by cases c)
    have : moreOne (h, b) = none := by
      cases h with
      | deed d s => cases c
      | times n => show Option.map _ (Vamacf.more b) = none; rw [em]; rfl
      | toEnd => cases c2
      | when f v => show Option.map _ (Vamacf.more b) = none; rw [em]; rfl
    rw [this] at q
    exact q _ (e13.trans e4)
  | some i =>
    refine q_when (b := false) (et_test (ev_op (ev_var rfl) ev_c (rv_val fun H4 e4 Q q => ⟨rfl, q⟩))) (fun c _ _ => by cases c) (fun _ H4 e4 => ?_)
    have e14 := e13.trans e4
    refine q_when (b := isTimes h) (et_B (isi_Loop t (ev_var rfl) (e14 _ _ ho))) (fun c3 H5 e5 => ?_) (fun c3 H5 e5 => ?_)
    · cases h with
      | times m =>
        have : moreOne (.times m, b) = some ((m : Int) * i) := by show Option.map _ (Vamacf.more b) = _; rw [em]; rfl
        rw [this] at q
        have hm : m ≤ 9 := by
          simp only [okPc, Bool.and_eq_true, decide_eq_true_eq] at hok
          exact hok.2
        exact s_ret (ev_op (ev_fld (ev_var rfl) ((e14.trans e5) _ _ ho) t.k_Loop.cl t.n_Loop_rounds l_Loop_rounds) (ev_var rfl) (rv_I (.inl ⟨by omega, by omega⟩))) fun H6 e6 => q _ ((e14.trans e5).trans e6)
      | _ => cases c3
    · cases h with
      | when f v =>
        have : moreOne (.when f v, b) = some (if i < 0 then 0 else i) := by show Option.map _ (Vamacf.more b) = _; rw [em]; rfl
        rw [this] at q
        refine s_ret (ev_is (ev_max2 ev_c (ev_var rfl)) (congrArg V.int ?_)) fun H6 e6 => q _ ((e14.trans e5).trans e6)
        split <;> split <;> omega
      | deed d s => cases c
      | times n => cases c3
      | toEnd => cases c2
theorem ok_rest_behind_row_succ (t : T K mg) (n k : Nat) (G_rest_behind_piece : FnOk P w K mg base CX0 k t.d_rest_behind_piece.f t.d_rest_behind_piece.d ["piece"] (spV 1 (RMoreP t n))) :
    FnOk P w K mg base CX0 (k + 1) t.d_rest_behind_row.f t.d_rest_behind_row.d ["row"] (spV 1 (RMoreR t (n + 1))) := by
  refine t.d_rest_behind_row.F.ok sc_rest_behind_row (fun vs H Q E h => h.1) (fun cdv A outer s H vs Q E hr h => ⟨_, (pss_cons (ps_set (i := 1) sc_rest_behind_row.nd rfl (Or.inl rfl) pe_int)
  (pss_cons (ps_for PassesOwn.never rfl (pi_list (pv 0)) (pg_name (i := 2) sc_rest_behind_row.nd rfl (Or.inl rfl)) (pss_cons (ps_set (i := 3) sc_rest_behind_row.nd rfl (Or.inl rfl) (pcall t.d_rest_behind_piece G_rest_behind_piece (hr.mono (by omega)) rfl (pa_cons (pv 2) pa_nil)))
  (pss_cons (ps_if (pt_cmpR op_isN (pv 3) pe_non (nomark _)) (pss_one (ps_ret pe_non)) pss_nil)
  (pss_one (ps_set (i := 1) sc_rest_behind_row.nd rfl (Or.inl rfl) (pe_op op_add (pv 1) (pv 3)))))))
  (pss_one (ps_ret (pv 1))))), ?_⟩)
  obtain ⟨_, z, ⟨a, vb, p, rfl, h1, h2, hn, hok, rfl⟩, q⟩ := h
  refine q_asg ev_c fun H1 e1 => ?_
  refine q_rows (ev_var rfl) (e1 _ _ h1) (h2.ex e1).paired (fun i σ' => ∃ pv gv m, σ' = [some (.ref a), some (.int m), pv, gv] ∧ moreL ((rowL p).take i) = some m) ⟨none, none, 0, rfl, rfl⟩ ?_ ?_
  · rintro i x pv σ' H' e' hx hpv ⟨_, gv, m, rfl, hm⟩
    have hmem := List.mem_of_getElem? hx
    have ht : (rowL p).take (i + 1) = (rowL p).take i ++ [x] := by
      rw [List.take_add_one, hx]
      rfl
    obtain ⟨b, rfl, hpc⟩ := hpv
    obtain ⟨o1, o2⟩ := ok_rowL p hok x hmem
    refine q_asg (ev_call (ea_cons (ev_var rfl) ea_nil) (spV_use rfl fun H2 e2 => ⟨b, x.1, x.2, rfl, hpc.mono (fun _ _ _ z => e2 _ _ z) (fun _ z => z) (fun _ z => z.ex e2), fun c => ⟨by have := rowL_depth p x hmem c; omega, o2⟩, o1, rfl⟩)) fun H2 e2 => ?_
    cases em : moreOne x with
    | none =>
      refine q_when (b := true) (et_test (ev_op (ev_var rfl) ev_c (rv_val fun H4 e4 Q q => ⟨rfl, q⟩))) (fun _ H4 e4 => ?_) (fun c _ _ => by cases c)
      rw [more_rowL, moreL_none _ x hmem em] at q
      exact q _ (((e1.trans e').trans e2).trans e4)
    | some y =>
      refine q_when (b := false) (et_test (ev_op (ev_var rfl) ev_c (rv_val fun H4 e4 Q q => ⟨rfl, q⟩))) (fun c _ _ => by cases c) (fun _ H4 e4 => ?_)
      refine s_asg (ev_op (ev_var rfl) (ev_var (v := .int y) rfl) rv_I0) fun H5 e5 => ⟨((e'.trans e2).trans e4).trans e5, some (.ref b), some (.int y), m + y, rfl, ?_⟩
      rw [ht, moreL_snoc, hm, em]
      rfl
  · rintro σ' H' e' ⟨pv, gv, m, rfl, hm⟩
    rw [List.take_length] at hm
    rw [more_rowL, hm] at q
    exact ⟨_, rfl, q _ (e1.trans e')⟩
theorem ok_rest_behind_row (t : T K mg) : ∀ n : Nat, FnOk P w K mg base CX0 (2 * n + 1) t.d_rest_behind_row.f t.d_rest_behind_row.d ["row"] (spV 1 (RMoreR t n))
  | 0 => never_of fun vs H Q E h => by
    obtain ⟨_, z, ⟨a, vb, p, _, _, _, hn, _⟩, _⟩ := h
    exact Nat.not_lt_zero _ hn
  | n + 1 => ok_rest_behind_row_succ t n (2 * n + 2) (ok_rest_behind_piece t n (2 * n + 1) (ok_rest_behind_row t n) (by omega))
/-- comes_nearer, first_endless -/
def RNearer (t : T K mg) : List V → Hp → V → Prop := fun vs H z => ∃ a b, vs = [.ref a] ∧ PcAt t Any H .toEnd (RowAt t Any H b) a ∧ b.depth < 4 ∧ VamacBase.okPieces b = true ∧ z = .bl (Vamacf.nearer b)
theorem ok_comes_nearer (t : T K mg) : FnOk P w K mg base CX0 10 t.d_comes_nearer.f t.d_comes_nearer.d ["loop"] (spV 1 (RNearer t)) := by
  have G_rest_behind_row := ok_rest_behind_row (P := P) (w := w) (base := base) t 4
  refine t.d_comes_nearer.F.ok sc_comes_nearer (fun vs H Q E h => h.1) (fun cdv A outer s H vs Q E hr h => ⟨_, (pss_cons (ps_set (i := 1) sc_comes_nearer.nd rfl (Or.inl rfl) (pcall t.d_rest_behind_row G_rest_behind_row (hr.mono (by omega)) rfl (pa_cons (pe_fld (pv 0) rfl) pa_nil)))
  (pss_one (ps_ret (pe_and (pe_cmpR op_notN (pv 1) pe_non (nomark _)) (pe_one (pe_cmpR op_le (pv 1) (pe_un un_neg pe_int) (nomark _))))))), ?_⟩)
  obtain ⟨_, z, ⟨a, b, rfl, ⟨_, dx, l, ho, hrow⟩, hn1, hn2, rfl⟩, q⟩ := h
  obtain ⟨lb, vb, rfl, _, hlb, hrb⟩ := hrow rfl
  refine q_asg (ev_call (ea_cons (ev_row (ev_var rfl) ho rfl) ea_nil) (spV_use rfl fun H3 e3 => ⟨lb, vb, b, rfl, e3 _ _ hlb, hrb.ex e3, hn1, hn2, rfl⟩)) fun H1 e1 => ?_
  unfold Vamacf.nearer at q
  cases em : Vamacf.more b with
  | none =>
    rw [em] at q
    exact s_ret (ev_andV (a := false) (b := false) (ev_op (ev_var rfl) ev_c (rv_val fun H4 e4 Q q => ⟨rfl, q⟩)) fun c => by cases c) fun H2 e2 => q _ (e1.trans e2)
  | some i =>
    rw [em] at q
    exact s_ret (ev_is (ev_and2 (a := true) (ev_op (ev_var rfl) ev_c (rv_val fun H4 e4 Q q => ⟨rfl, q⟩)) (ev_op (ev_var rfl) (ev_un ev_c ru_neg) rv_I0)) (congrArg V.bl (Bool.true_and _))) fun H2 e2 => q _ (e1.trans e2)
def optN : Option Nat → V
  | none => .non
  | some i => .int (i : Nat)
def RPre (t : T K mg) (f : VamacBase.Prog → V) : List V → Hp → V → Prop := fun vs H z => ∃ a vb p, vs = [.ref a] ∧ H a = some (.lst vb) ∧ PreAt t Any H p vb ∧ VamacBase.okProg p = true ∧ z = f p
theorem ok_first_endless (t : T K mg) : FnOk P w K mg base CX0 11 t.d_first_endless.f t.d_first_endless.d ["pieces"] (spV 1 (RPre t fun p => optN (Vamacf.loose 0 p))) := by
  have G_comes_nearer := ok_comes_nearer (P := P) (w := w) (base := base) t
  refine t.d_first_endless.F.ok sc_first_endless (fun vs H Q E h => h.1) (fun cdv A outer s H vs Q E hr h => ⟨_, (pss_cons (ps_for PassesOwn.never rfl (pi_enum rfl t.z_enumerate (pa_cons (pv 0) pa_nil)) (pg_tup rfl (pgs_cons (pg_name (i := 1) sc_first_endless.nd rfl (Or.inl rfl)) (pgs_cons (pg_name (i := 2) sc_first_endless.nd rfl (Or.inl rfl)) pgs_nil))) (pss_one (ps_if (PW.pt (pw_and (pt_val (pe_callB call_isi rfl t.z_isinstance (by decide +kernel) (pa_cons (pv 2) (pa_cons (pe_cls rfl t.k_LoopToEnd.g) pa_nil)))) (pw_and1 (pt_not (pt_val (pcall t.d_comes_nearer G_comes_nearer (hr.mono (by omega)) rfl (pa_cons (pv 2) pa_nil))))))) (pss_one (ps_ret (pv 1))) pss_nil)))
  (pss_one (ps_ret pe_non))), ?_⟩)
  obtain ⟨_, z, ⟨a, vb, p, rfl, h1, h2, hok, rfl⟩, q⟩ := h
  have q : ∀ H', Ex H H' → Q (optN (Vamacf.loose 0 p)) H' := q
  have hok' := hok
  unfold VamacBase.okProg VamacBase.PIECES VamacBase.DEPTH at hok'
  rw [Bool.and_eq_true, Bool.and_eq_true, decide_eq_true_eq, decide_eq_true_eq] at hok'
  obtain ⟨o1, o2, o3⟩ := hok'
  refine q_enum (ev_var rfl) h1 h2.paired (fun i σ' => ∃ nv pv, σ' = [some (.ref a), nv, pv] ∧ ∀ j, j < i → ∀ y, (pre p)[j]? = some y → isLoose y = false) ⟨none, none, rfl, fun j hj => absurd hj (Nat.not_lt_zero _)⟩ ?_ ?_
  · rintro i x pv σ' H' e' hx ⟨b, rfl, hpc⟩ ⟨_, _, rfl, hm⟩
    have hmem := List.mem_of_getElem? hx
    obtain ⟨_, dx, l, ho, hrow⟩ := id hpc
    have hpc' : isToEnd x.1 = true → x.1 = .toEnd := fun c => by
      cases hx1 : x.1 with
      | toEnd => rfl
      | _ => rw [hx1] at c; cases c
    refine s_when (b := isLoose x) ?_ (fun c H2 e2 => ?_) (fun c H2 e2 => ⟨e'.trans e2, _, _, rfl, fun j hj y hy => ?_⟩)
    · cases c : isToEnd x.1 with
      | true =>
        have hxe := hpc' c
        rw [hxe] at hpc
        have := pre_depth p x hmem (by rw [hxe]; rfl)
        refine et_is (et_and2 (et_B (isi_LoopToEnd t (ev_var rfl) ho)) (et_not (et_B (ev_call (ea_cons (ev_var rfl) ea_nil) (spV_use rfl fun H3 e3 => ⟨b, x.2, rfl, hpc.mono (fun _ _ _ z => e3 _ _ z) (fun _ z => z) (fun _ z => z.ex e3), by omega, ok_pre2 p o1 x hmem, rfl⟩))))) ?_
        unfold isLoose
        rw [hxe]
        rfl
      | false =>
        refine et_is (et_and (et_B (isi_LoopToEnd t (ev_var rfl) ho)) (b := false) fun z => by rw [c] at z; cases z) ?_
        unfold isLoose
        cases hx1 : x.1 with
        | toEnd => rw [hx1] at c; cases c
        | _ => rfl
    · rw [loose_pre, firstAt_hit isLoose _ 0 i x hx c hm, Nat.zero_add] at q
      exact ⟨_, rfl, q _ (e'.trans e2)⟩
    · rcases Nat.lt_succ_iff_lt_or_eq.mp hj with hj | rfl
      · exact hm j hj y hy
      · rw [hx] at hy
        cases hy
        exact c
  · rintro σ' H' e' ⟨nv, pv, rfl, hm⟩
    rw [loose_pre, firstAt_miss isLoose _ 0 fun x hx => by
      obtain ⟨j, hj, e⟩ := List.getElem_of_mem hx
      exact hm j hj x (by rw [List.getElem?_eq_getElem hj, e])] at q
    exact q _ e'
end
end G
/-! The most deeds; what a program touches. -/
namespace G
open PySem PySem.Spec PyProof.Rows L2 Evl My
section
variable {K : PySem.W.Frag} {mg : Str → Option Value} {P : Program} {w : World} {base : Heap}
theorem et_yes {σ : L2.St} {H : Hp} : EvT tYes σ H true := fun H1 _ _ q => q H1 (Ex.refl H1)
theorem ev_sumL {ta : TE} {σ : L2.St} {H : Hp} {ns : List Int} (h : EvL ta σ H (ns.map V.int)) : Ev (tCB (rSum K) (tCons ta tNil)) σ H (.int ns.sum) := fun H1 e Q q => h H1 e _ fun p H2 _ e2 h2 => ⟨p, ns, rfl, .of h2, q H2 e2⟩
theorem ev_anyL {ta : TE} {σ : L2.St} {H : Hp} {bs : List Bool} (h : EvL ta σ H (bs.map V.bl)) : Ev (tCB (rAny K) (tCons ta tNil)) σ H (.bl (bs.any id)) := fun H1 e Q q => h H1 e _ fun p H2 _ e2 h2 => ⟨p, bs, rfl, .of h2, q H2 e2⟩
theorem given_list {α : Type} (l : List α) (f : α → Bool) (v : α → V) : ∀ n, n ≤ l.length → given n (fun i => (l[i]?).elim false f) (fun i => (l[i]?).elim .non v) = ((l.take n).filter f).map v
  | 0, _ => rfl
  | n + 1, h => by
    have hn : n < l.length := h
    have e : l[n]? = some l[n] := List.getElem?_eq_getElem hn
    have ih := given_list l f v n (Nat.le_of_lt hn)
    rw [List.take_add_one, e]
    show _ = List.map v (List.filter f (l.take n ++ [l[n]]))
    rw [List.filter_append, List.map_append]
    cases c : f l[n] with
    | true =>
      rw [given_yes (by rw [e]; exact c), ih, e, List.filter_cons, if_pos c]
      rfl
    | false =>
      rw [given_no (by rw [e]; exact c), ih, List.filter_cons, if_neg (by rw [c]; decide)]
      show _ = _ ++ []
      rw [List.append_nil]
/-- a list made of the pieces of a list -/
theorem el_rows {t : T K mg} {σ : L2.St} {H : Hp} {a : Addr} {tl te : TE} {tt : TT} {vb : List V} {l : List Pc} {j : Nat} {vs : List Nat} (h : Ev tl σ H (.ref a)) (hx : H a = some (.lst vb)) (R : Paired (PcR t H) vb l) (hz : l.length ≤ 40000) (f : Pc → Bool) (v : Pc → V)
    (hw : ∀ x, wipe ((wipe σ vs).set j (some x)) vs = wipe σ vs) (ht : ∀ x p H1, Ex H H1 → x ∈ l → PcR t H1 p x → EvT tt ((wipe σ vs).set j (some p)) H1 (f x))
    (he : ∀ x p H1, Ex H H1 → x ∈ l → PcR t H1 p x → f x = true → Ev te ((wipe σ vs).set j (some p)) H1 (v x)) : EvL (tLc (iList K tl) (gName j) tt te vs) σ H ((l.filter f).map v) := by
  have q := el_lcL (K := K) (t := tt) (te := te) (xs := vb) (j := j) (vs := vs) (fun i => (l[i]?).elim false f) (fun i => (l[i]?).elim .non v) h (.of hx) (by rw [R.length]; exact hz) hw (fun i p H1 e hi => ?_) (fun i p H1 e hi hf => ?_)
  · rw [R.length, given_list l f v l.length (Nat.le_refl _), List.take_length] at q
    exact q
  · obtain ⟨x, h1, h2⟩ := paired_get R hi
    rw [h1]
    exact ht x p H1 e (List.mem_of_getElem? h1) (h2.ex e)
  · obtain ⟨x, h1, h2⟩ := paired_get R hi
    rw [h1] at hf ⊢
    exact he x p H1 e (List.mem_of_getElem? h1) (h2.ex e) hf
theorem filter_all {α : Type} : ∀ l : List α, l.filter (fun _ => true) = l
  | [] => rfl
  | x :: l => congrArg (x :: ·) (filter_all l)
def RMostP (t : T K mg) (n : Nat) : List V → Hp → V → Prop := fun vs H z => ∃ a h b, vs = [.ref a] ∧ PcAt t Any H h (RowAt t Any H b) a ∧ (h.isDeed = false → b.depth < n ∧ VamacBase.okPieces b = true ∧ b.size ≤ 16) ∧ okPc (h, b) = true ∧ z = .int (mostOne (h, b) : Nat)
def RMostR (t : T K mg) (n : Nat) : List V → Hp → V → Prop := fun vs H z => ∃ a vb p, vs = [.ref a] ∧ H a = some (.lst vb) ∧ RowAt t Any H p vb ∧ p.depth < n ∧ VamacBase.okPieces p = true ∧ p.size ≤ 16 ∧ z = .int (Vamacf.most p : Nat)
theorem sum_nat : ∀ l : List Nat, (l.map fun (n : Nat) => (n : Int)).sum = (l.sum : Nat)
  | [] => rfl
  | x :: l => by
    rw [List.map_cons, List.sum_cons, List.sum_cons, sum_nat l]
    omega
theorem rowL_size : ∀ (p : VamacBase.Prog) (x : Pc), x ∈ rowL p → x.2.size ≤ p.size
  | .done, x, h => by cases h
  | .deed d s r, x, h => by
    rcases List.mem_cons.mp h with rfl | h
    · exact Nat.zero_le _
    · have := rowL_size r x h
      simp only [VamacBase.Prog.size]
      omega
  | .times n b r, x, h => by
    rcases List.mem_cons.mp h with rfl | h
    · simp only [VamacBase.Prog.size]
      omega
    · have := rowL_size r x h
      simp only [VamacBase.Prog.size]
      omega
  | .toEnd b r, x, h => by
    rcases List.mem_cons.mp h with rfl | h
    · simp only [VamacBase.Prog.size]
      omega
    · have := rowL_size r x h
      simp only [VamacBase.Prog.size]
      omega
  | .when f v b r, x, h => by
    rcases List.mem_cons.mp h with rfl | h
    · simp only [VamacBase.Prog.size]
      omega
    · have := rowL_size r x h
      simp only [VamacBase.Prog.size]
      omega
theorem ok_most_deeds_of_piece (t : T K mg) (n k : Nat) (G_most_deeds : FnOk P w K mg base CX0 k t.d_most_deeds.f t.d_most_deeds.d ["row"] (spV 1 (RMostR t n))) :
    FnOk P w K mg base CX0 (k + 1) t.d_most_deeds_of_piece.f t.d_most_deeds_of_piece.d ["piece"] (spV 1 (RMostP t n)) := by
  refine t.d_most_deeds_of_piece.F.ok sc_most_deeds_of_piece (fun vs H Q E h => h.1) (fun cdv A outer s H vs Q E hr h => ⟨_, (pss_cons (ps_if (pt_val (pe_callB call_isi rfl t.z_isinstance (by decide +kernel) (pa_cons (pv 0) (pa_cons (pe_cls rfl t.k_Deed.g) pa_nil)))) (pss_one (ps_ret pe_int)) pss_nil)
  (pss_cons (ps_set (i := 1) sc_most_deeds_of_piece.nd rfl (Or.inl rfl) (pcall t.d_most_deeds G_most_deeds (hr.mono (by omega)) rfl (pa_cons (pe_fld (pv 0) rfl) pa_nil)))
  (pss_cons (ps_if (pt_val (pe_callB call_isi rfl t.z_isinstance (by decide +kernel) (pa_cons (pv 0) (pa_cons (pe_cls rfl t.k_Loop.g) pa_nil)))) (pss_one (ps_ret (pe_op op_mul (pe_fld (pv 0) rfl) (pv 1)))) pss_nil)
  (pss_cons (ps_if (pt_val (pe_callB call_isi rfl t.z_isinstance (by decide +kernel) (pa_cons (pv 0) (pa_cons (pe_cls rfl t.k_LoopToEnd.g) pa_nil)))) (pss_one (ps_ret (pe_op op_mul (pe_cst rfl t.c_ROUNDS_TO_END) (pv 1)))) pss_nil)
  (pss_one (ps_ret (pv 1))))))), ?_⟩)
  obtain ⟨_, z, ⟨a, h, b, rfl, ⟨_, dx, l, ho, hrow⟩, hn, hok, rfl⟩, q⟩ := h
  refine q_when (b := h.isDeed) (et_B (isi_Deed t (ev_var rfl) ho)) (fun c H1 e1 => ?_) (fun c H1 e1 => ?_)
  · cases h with
    | deed d s => exact q _ e1
    | _ => cases c
  obtain ⟨lb, vb, rfl, _, hlb, hrb⟩ := hrow c
  obtain ⟨hn1, hn2, hn3⟩ := hn c
  refine q_asg (ev_call (ea_cons (ev_row (ev_var rfl) (e1 _ _ ho) c) ea_nil) (spV_use rfl fun H3 e3 => ⟨lb, vb, b, rfl, e3 _ _ (e1 _ _ hlb), (hrb.ex e1).ex e3, hn1, hn2, hn3, rfl⟩)) fun H2 e2 => ?_
  have e12 := e1.trans e2
  refine q_when (b := isTimes h) (et_B (isi_Loop t (ev_var rfl) (e12 _ _ ho))) (fun c3 H5 e5 => ?_) (fun c3 H5 e5 => ?_)
  · cases h with
    | times m =>
      have hm : m ≤ 9 := by
        simp only [okPc, Bool.and_eq_true, decide_eq_true_eq] at hok
        exact hok.2
      exact s_ret (ev_is (ev_op (ev_fld (ev_var rfl) ((e12.trans e5) _ _ ho) t.k_Loop.cl t.n_Loop_rounds l_Loop_rounds) (ev_var rfl) (rv_I (.inl ⟨by omega, by omega⟩))) (congrArg V.int (Int.natCast_mul m (Vamacf.most b)).symm)) fun H6 e6 => q _ ((e12.trans e5).trans e6)
    | _ => cases c3
  have e15 := e12.trans e5
  refine q_when (b := isToEnd h) (et_B (isi_LoopToEnd t (ev_var rfl) (e15 _ _ ho))) (fun c2 H6 e6 => ?_) (fun c2 H6 e6 => ?_)
  · cases h with
    | toEnd => exact s_ret (ev_is (ev_op ev_c (ev_var rfl) (rv_I (.inl ⟨by decide, by decide⟩))) (congrArg V.int (Int.natCast_mul 8 (Vamacf.most b)).symm)) fun H7 e7 => q _ ((e15.trans e6).trans e7)
    | _ => cases c2
  · cases h with
    | when f v => exact ⟨_, rfl, q _ (e15.trans e6)⟩
    | deed d s => cases c
    | times n => cases c3
    | toEnd => cases c2
theorem ok_most_deeds_succ (t : T K mg) (n k : Nat) (G_most_deeds_of_piece : FnOk P w K mg base CX0 k t.d_most_deeds_of_piece.f t.d_most_deeds_of_piece.d ["piece"] (spV 1 (RMostP t n))) :
    FnOk P w K mg base CX0 (k + 1) t.d_most_deeds.f t.d_most_deeds.d ["row"] (spV 1 (RMostR t (n + 1))) := by
  refine t.d_most_deeds.F.ok sc_most_deeds (fun vs H Q E h => h.1) (fun cdv A outer s H vs Q E hr h => ⟨_, (pss_one (ps_ret (pe_callB (cr_sum rfl) rfl t.z_sum (by decide +kernel) (pa_cons (pe_lc (own := [("piece", 1)]) (g := gName 1) rfl sc_most_deeds.nd (pi_list (pv 0)) (blkOk_by (N := ["row", "piece"]) (sc := defScope s_most_deeds) (by decide +kernel)) (fun _ _ _ _ _ => pg_name (i := 1) sc_most_deeds.nd rfl (Or.inl rfl)) (fun _ _ _ _ _ => pts_nil) (fun _ _ _ _ _ => (pcall t.d_most_deeds_of_piece G_most_deeds_of_piece (hr.mono (by omega)) rfl (pa_cons (pv 1) pa_nil)))) pa_nil)))), ?_⟩)
  obtain ⟨_, z, ⟨a, vb, p, rfl, h1, h2, hn, hok, hsz, rfl⟩, q⟩ := h
  have hl : (rowL p).length ≤ 16 := by
    rw [rowL_len]
    exact Nat.le_trans (row_le p) hsz
  have c := el_rows (K := K) (tl := tVar 0) (te := tCall (spV 1 (RMostP t n)) [] E0 (tCons (tVar 1) tNil)) (tt := tYes) (j := 1) (vs := [1]) (σ := [some (.ref a), none]) (ev_var rfl) h1 h2.paired (by omega) (fun _ => true) (fun x => .int (mostOne x : Nat)) (fun x => rfl) (fun x pv H1 e1 hx hp => et_yes) (fun x pv H1 e1 hx hp _ => by
    obtain ⟨b, rfl, hpc⟩ := hp
    obtain ⟨o1, o2⟩ := ok_rowL p hok x hx
    exact ev_call (ea_cons (ev_var rfl) ea_nil) (spV_use rfl fun H2 e2 => ⟨b, x.1, x.2, rfl, hpc.mono (fun _ _ _ z => e2 _ _ z) (fun _ z => z) (fun _ z => z.ex e2), fun c => ⟨by have := rowL_depth p x hx c; omega, o2, Nat.le_trans (rowL_size p x hx) hsz⟩, o1, rfl⟩))
  rw [filter_all, show (rowL p).map (fun x => V.int (mostOne x : Nat)) = (((rowL p).map mostOne).map fun (n : Nat) => (n : Int)).map V.int by rw [List.map_map, List.map_map]; rfl] at c
  refine s_ret (ev_is (ev_sumL c) (congrArg V.int ?_)) q
  rw [sum_nat, most_rowL]
theorem ok_most_deeds (t : T K mg) : ∀ n : Nat, FnOk P w K mg base CX0 (2 * n + 1) t.d_most_deeds.f t.d_most_deeds.d ["row"] (spV 1 (RMostR t n))
  | 0 => never_of fun vs H Q E h => by
    obtain ⟨_, z, ⟨a, vb, p, _, _, _, hn, _⟩, _⟩ := h
    exact Nat.not_lt_zero _ hn
  | n + 1 => ok_most_deeds_succ t n (2 * n + 2) (ok_most_deeds_of_piece t n (2 * n + 1) (ok_most_deeds t n))
end
end G
/-! What a program touches. -/
namespace G
open PySem PySem.Spec PyProof.Rows L2 Evl My
section
variable {K : PySem.W.Frag} {mg : Str → Option Value} {P : Program} {w : World} {base : Heap}
/-- a def that gives a new list -/
def spL (n : Nat) (R : List V → Hp → List V → Prop) : Sp := fun vs H Q _ => vs.length = n ∧ ∃ xs, R vs H xs ∧ ∀ p H2, H p = none → Ex H H2 → H2 p = some (.lst xs) → Q (.ref p) H2
theorem spL_use {n : Nat} {R : List V → Hp → List V → Prop} {vs xs : List V} {H : Hp} (hl : vs.length = n) (h : ∀ H1, Ex H H1 → R vs H1 xs) : SpL (spL n R) vs H xs := fun H1 e Q q E => ⟨hl, xs, h H1 e, q⟩
theorem s_retCL {n : Nat} {R : List V → Hp → List V → Prop} {te : TE} {xs ys : List V} {E : XK} {D : Ends} {σ : L2.St} {H : Hp} (c : EvL te σ H xs) (hl : 1 = n) (r : ∀ p H1, Ex H H1 → H1 p = some (.lst xs) → R [.ref p] H1 ys)
    (k : ∀ p H1, H p = none → Ex H H1 → H1 p = some (.lst ys) → D.rt (.ref p) H1) : tRet (tCall (spL n R) [] E (tCons te tNil)) D σ H :=
  c H (Ex.refl H) _ fun p1 H2 _ e2 h2 => ⟨hl, ys, r p1 H2 e2 h2, fun p3 H3 hp3 e3 h3 => k p3 H3 (fresh_back e2 hp3) (e2.trans e3) h3⟩
def nats (l : List Nat) : List V := l.map fun n => V.int (n : Nat)
theorem inV_nats (f : Nat) : ∀ l : List Nat, inV (.int (f : Nat)) (nats l) = decide (f ∈ l)
  | [] => by simp [inV, nats]
  | x :: r => by
    have ih := inV_nats f r
    unfold inV nats at ih ⊢
    rw [List.map_cons, List.any_cons, ih]
    show (((x : Nat) : Int) == ((f : Nat) : Int) || decide (f ∈ r)) = decide (f ∈ x :: r)
    by_cases c : f = x
    · subst c
      simp
    · have e1 : (((x : Nat) : Int) == ((f : Nat) : Int)) = false := beq_eq_false_iff_ne.mpr fun z => c (by omega)
      rw [e1, Bool.false_or]
      simp [c]
theorem nats_flat (l : List Nat) : (nats l).all flatV = true := by
  unfold nats
  rw [List.all_map]
  exact List.all_eq_true.mpr fun _ _ => rfl
/-- x in xs, a list that stands -/
theorem ev_inL {ta tb : TE} {σ : L2.St} {H : Hp} {x : V} {p : Addr} {xs : List V} (ha : Ev ta σ H x) (hb : Ev tb σ H (.ref p)) (h : H p = some (.lst xs)) (hx : flatV x = true) (hf : xs.all flatV = true) : Ev (tOp (rIn K false) ta tb) σ H (.bl (inV x xs)) := ev_op ha hb (rv_isL (.of h) hx hf)
theorem ev_ninL {ta tb : TE} {σ : L2.St} {H : Hp} {x : V} {p : Addr} {xs : List V} (ha : Ev ta σ H x) (hb : Ev tb σ H (.ref p)) (h : H p = some (.lst xs)) (hx : flatV x = true) (hf : xs.all flatV = true) : Ev (tOp (rIn K true) ta tb) σ H (.bl (!inV x xs)) := ev_op ha hb (rv_niL (.of h) hx hf)
def RRise : List V → Hp → List V → Prop := fun vs H xs => ∃ a l, vs = [.ref a] ∧ H a = some (.lst (nats l)) ∧ xs = nats (rising3 l)
theorem ok_rising (t : T K mg) : FnOk P w K mg base CX0 1 t.d_rising.f t.d_rising.d ["fields"] (spL 1 RRise) := by
  refine t.d_rising.F.ok sc_rising (fun vs H Q E h => h.1) (fun cdv A outer s H vs Q E hr h => ⟨_, (pss_one (ps_ret (pe_lc (tt := tTest (tOp (rIn K false) (tVar 1) (tVar 0))) (te := tVar 1) (own := [("field", 1)]) (g := gName 1) rfl sc_rising.nd (pi_range1 rfl t.z_range (pa_cons (pe_cst rfl t.c_FIELDS) pa_nil)) (blkOk_by (N := ["fields", "field"]) (sc := defScope s_rising) (by decide +kernel)) (fun _ _ _ _ _ => pg_name (i := 1) sc_rising.nd rfl (Or.inl rfl)) (fun _ _ _ _ _ => (pts_one (pt_cmpR op_in_seq (pv 1) (pv 0) (by rfl)))) (fun _ _ _ _ _ => (pv 1))))), ?_⟩)
  obtain ⟨_, z, ⟨a, l, rfl, h1, rfl⟩, q⟩ := h
  have c := el_lcR1 (σ := [some (V.ref a), none]) (H := H) (ta := tCons (tC (.int 3)) tNil) (t := tTest (tOp (rIn K false) (tVar 1) (tVar 0))) (te := tVar 1) (j := 1) (vs := [1]) (n := 3) (fun i => decide (i ∈ l)) (fun i => .int (i : Nat)) (ea_cons ev_c ea_nil) ⟨by decide, by decide⟩ (fun x => rfl)
    (fun i H1 e1 hi => et_test (ev_is (ev_inL (ev_var rfl) (ev_var rfl) (e1 _ _ h1) rfl (nats_flat l)) (congrArg V.bl (inV_nats i l)))) (fun i H1 e1 hi hf => ev_var rfl)
  exact s_retL c q
def RWrites (t : T K mg) (f : VamacBase.Prog → List Nat) : List V → Hp → List V → Prop := fun vs H xs => ∃ a vb p, vs = [.ref a] ∧ H a = some (.lst vb) ∧ PreAt t Any H p vb ∧ VamacBase.okProg p = true ∧ xs = nats (f p)
theorem okProg_parts {p : VamacBase.Prog} (h : VamacBase.okProg p = true) : VamacBase.okPieces p = true ∧ p.size ≤ 16 ∧ p.depth ≤ 3 := by
  unfold VamacBase.okProg VamacBase.PIECES VamacBase.DEPTH at h
  rw [Bool.and_eq_true, Bool.and_eq_true, decide_eq_true_eq, decide_eq_true_eq] at h
  exact h
theorem filter_flat (g : Pc → List Nat) (f : Pc → Bool) (v : Pc → V) (h : ∀ x, (f x = true → nats (g x) = [v x]) ∧ (f x = false → g x = [])) : ∀ l : List Pc, (l.filter f).map v = nats (l.flatMap g)
  | [] => rfl
  | x :: l => by
    have ih := filter_flat g f v h l
    rw [List.flatMap_cons]
    unfold nats at ih ⊢
    rw [List.map_append]
    cases c : f x with
    | true =>
      rw [List.filter_cons, if_pos c, List.map_cons, ih]
      have := (h x).1 c
      unfold nats at this
      rw [this]
      rfl
    | false =>
      rw [List.filter_cons, if_neg (by rw [c]; decide), ih, (h x).2 c]
      rfl
theorem kind_ev {t : T K mg} {ta : TE} {σ : L2.St} {H : Hp} {a dx : Addr} {d : VamacBase.Deed} {s : Int} {l : V} (e : Ev ta σ H (.ref a)) (o : H a = some (.ins (hC t (.deed d s)) dx (hF (.deed d s) l))) : Ev (tFld K ta "kind") σ H (.int (kindOf d)) := ev_fld e o t.k_Deed.cl t.n_Deed_kind l_Deed_kind
theorem field_ev {t : T K mg} {ta : TE} {σ : L2.St} {H : Hp} {a dx : Addr} {d : VamacBase.Deed} {s : Int} {l : V} (e : Ev ta σ H (.ref a)) (o : H a = some (.ins (hC t (.deed d s)) dx (hF (.deed d s) l))) : Ev (tFld K ta "field") σ H (.int (fieldOf d : Nat)) := ev_fld e o t.k_Deed.cl t.n_Deed_field l_Deed_field
theorem kin_use {t : T K mg} {H : Hp} {a dx : Addr} {d : VamacBase.Deed} {s : Int} {l : V} {ks : List Int} (o : H a = some (.ins (hC t (.deed d s)) dx (hF (.deed d s) l))) : SpV (spV 1 (RKin t ks)) (.ref a :: ([] ++ [])) H (.bl (decide (kindOf d ∈ ks))) :=
  spV_use rfl fun H1 e => ⟨a, _, _, _, _, rfl, ⟨dx, e _ _ o⟩, rfl⟩
theorem ok_fields_written (t : T K mg) : FnOk P w K mg base CX0 2 t.d_fields_written.f t.d_fields_written.d ["pieces"] (spL 1 (RWrites t Vamacf.writes)) := by
  have G_Deed_writes_field := ok_Deed_writes_field (P := P) (w := w) (base := base) t
  have G_rising := ok_rising (P := P) (w := w) (base := base) t
  refine t.d_fields_written.F.ok sc_fields_written (fun vs H Q E h => h.1) (fun cdv A outer s H vs Q E hr h => ⟨_, (pss_one (ps_ret (pcall t.d_rising G_rising (hr.mono (by omega)) rfl (pa_cons (pe_lc (te := tFld K (tVar 1) "field") (tt := tAnd (tB (tCB (rIsi K) (tCons (tVar 1) (tCons (tC (.ref t.k_Deed.C)) tNil)))) (tB (tMeth t.k_Deed.C "writes_field" (spV 1 (RKin t [3, 4, 6])) [] E0 (tVar 1) tNil))) (own := [("piece", 1)]) (g := gName 1) rfl sc_fields_written.nd (pi_list (pv 0)) (blkOk_by (N := ["pieces", "piece"]) (sc := defScope s_fields_written) (by decide +kernel)) (fun _ _ _ _ _ => pg_name (i := 1) sc_fields_written.nd rfl (Or.inl rfl)) (fun _ _ _ _ _ => (pts_one (PW.pt (pw_and (pt_val (pe_callB call_isi rfl t.z_isinstance (by decide +kernel) (pa_cons (pv 1) (pa_cons (pe_cls rfl t.k_Deed.g) pa_nil)))) (pw_and1 (pt_val (pmeth0 (pv 1) t.k_Deed.cl t.d_Deed_writes_field G_Deed_writes_field (hr.mono (by omega))))))))) (fun _ _ _ _ _ => (pe_fld (pv 1) rfl))) pa_nil)))), ?_⟩)
  obtain ⟨_, z, ⟨a, vb, p, rfl, h1, h2, hok, rfl⟩, q⟩ := h
  obtain ⟨o1, o2, o3⟩ := okProg_parts hok
  have c := el_rows (K := K) (σ := [some (V.ref a), none]) (tl := tVar 0) (te := tFld K (tVar 1) "field") (tt := tAnd (tB (tCB (rIsi K) (tCons (tVar 1) (tCons (tC (.ref t.k_Deed.C)) tNil)))) (tB (tMeth t.k_Deed.C "writes_field" (spV 1 (RKin t [3, 4, 6])) [] E0 (tVar 1) tNil))) (j := 1) (vs := [1])
    (ev_var rfl) h1 h2.paired (by rw [pre_len]; omega) (fun x => !(writesPc x).isEmpty) (fun x => .int ((writesPc x).headD 0 : Nat)) (fun x => rfl)
    (fun x pv H1 e1 hx hp => by
      obtain ⟨b, rfl, _, dx, l, ho, _⟩ := hp
      obtain ⟨h, r⟩ := x
      cases h with
      | deed d s =>
        refine et_is (et_and2 (et_B (isi_Deed t (ev_var rfl) ho)) (et_B (ev_meth (ev_var rfl) ho m_Deed_writes_field ea_nil (kin_use ho)))) ?_
        show (true && decide (kindOf d ∈ ([3, 4, 6] : List Int))) = !(Vamacf.writesOf d).isEmpty
        cases d <;> rfl
      | _ => exact et_is (et_and (b := false) (et_B (isi_Deed t (ev_var rfl) ho)) fun z => by cases z) rfl)
    (fun x pv H1 e1 hx hp hf => by
      obtain ⟨b, rfl, _, dx, l, ho, _⟩ := hp
      obtain ⟨h, r⟩ := x
      cases h with
      | deed d s =>
        refine ev_is (field_ev (ev_var rfl) ho) (congrArg V.int ?_)
        cases d <;> first | rfl | cases hf
      | _ => cases hf)
  rw [filter_flat writesPc _ _ fun x => ?_] at c
  · rw [writes_rising p o1] at q
    exact s_retCL c rfl (fun p1 H2 e2 h2' => ⟨p1, _, rfl, h2', rfl⟩) q
  · obtain ⟨h, r⟩ := x
    cases h with
    | deed d s => cases d <;> exact ⟨fun z => (by first | rfl | cases z), fun z => (by first | rfl | cases z)⟩
    | _ => exact ⟨fun z => (by cases z), fun _ => rfl⟩
def RPcB (t : T K mg) (f : Pc → Bool) : List V → Hp → V → Prop := fun vs H z => ∃ a x, vs = [.ref a] ∧ PcR t H (.ref a) x ∧ z = .bl (f x)
theorem ok_piece_reads (t : T K mg) : FnOk P w K mg base CX0 2 t.d_piece_reads.f t.d_piece_reads.d ["piece"] (spV 1 (RPcB t fun x => !(readsPc x).isEmpty)) := by
  have G_Deed_reads_field := ok_Deed_reads_field (P := P) (w := w) (base := base) t
  refine t.d_piece_reads.F.ok sc_piece_reads (fun vs H Q E h => h.1) (fun cdv A outer s H vs Q E hr h => ⟨_, (pss_cons (ps_if (pt_val (pe_callB call_isi rfl t.z_isinstance (by decide +kernel) (pa_cons (pv 0) (pa_cons (pe_cls rfl t.k_Deed.g) pa_nil)))) (pss_one (ps_ret (pmeth0 (pv 0) t.k_Deed.cl t.d_Deed_reads_field G_Deed_reads_field (hr.mono (by omega))))) pss_nil)
  (pss_one (ps_ret (pe_callB call_isi rfl t.z_isinstance (by decide +kernel) (pa_cons (pv 0) (pa_cons (pe_cls rfl t.k_Part.g) pa_nil)))))), ?_⟩)
  obtain ⟨_, z, ⟨a, x, rfl, ⟨a', ea, _, dx, l, ho, _⟩, rfl⟩, q⟩ := h
  cases ea
  obtain ⟨h, b⟩ := x
  refine q_when (b := h.isDeed) (et_B (isi_Deed t (ev_var rfl) ho)) (fun c H1 e1 => ?_) (fun c H1 e1 => ?_)
  · cases h with
    | deed d s => exact s_ret (ev_is (ev_meth (ev_var rfl) (e1 _ _ ho) m_Deed_reads_field ea_nil (kin_use (e1 _ _ ho))) (congrArg V.bl (by show _ = !(Vamacf.readsOf d).isEmpty; cases d <;> rfl))) fun H2 e2 => q _ (e1.trans e2)
    | _ => cases c
  · refine s_ret (ev_is (isi_Part t (ev_var rfl) (e1 _ _ ho)) (congrArg V.bl ?_)) fun H2 e2 => q _ (e1.trans e2)
    cases h with
    | deed d s => cases c
    | _ => rfl
theorem ok_fields_read (t : T K mg) : FnOk P w K mg base CX0 3 t.d_fields_read.f t.d_fields_read.d ["pieces"] (spL 1 (RWrites t Vamacf.reads)) := by
  have G_piece_reads := ok_piece_reads (P := P) (w := w) (base := base) t
  have G_rising := ok_rising (P := P) (w := w) (base := base) t
  refine t.d_fields_read.F.ok sc_fields_read (fun vs H Q E h => h.1) (fun cdv A outer s H vs Q E hr h => ⟨_, (pss_one (ps_ret (pcall t.d_rising G_rising (hr.mono (by omega)) rfl (pa_cons (pe_lc (te := tFld K (tVar 1) "field") (tt := tB (tCall (spV 1 (RPcB t fun x => !(readsPc x).isEmpty)) [] E0 (tCons (tVar 1) tNil))) (own := [("piece", 1)]) (g := gName 1) rfl sc_fields_read.nd (pi_list (pv 0)) (blkOk_by (N := ["pieces", "piece"]) (sc := defScope s_fields_read) (by decide +kernel)) (fun _ _ _ _ _ => pg_name (i := 1) sc_fields_read.nd rfl (Or.inl rfl)) (fun _ _ _ _ _ => (pts_one (pt_val (pcall t.d_piece_reads G_piece_reads (hr.mono (by omega)) rfl (pa_cons (pv 1) pa_nil))))) (fun _ _ _ _ _ => (pe_fld (pv 1) rfl))) pa_nil)))), ?_⟩)
  obtain ⟨_, z, ⟨a, vb, p, rfl, h1, h2, hok, rfl⟩, q⟩ := h
  obtain ⟨o1, o2, o3⟩ := okProg_parts hok
  have c := el_rows (K := K) (σ := [some (V.ref a), none]) (tl := tVar 0) (te := tFld K (tVar 1) "field") (tt := tB (tCall (spV 1 (RPcB t fun x => !(readsPc x).isEmpty)) [] E0 (tCons (tVar 1) tNil))) (j := 1) (vs := [1])
    (ev_var rfl) h1 h2.paired (by rw [pre_len]; omega) (fun x => !(readsPc x).isEmpty) (fun x => .int ((readsPc x).headD 0 : Nat)) (fun x => rfl)
    (fun x pv H1 e1 hx hp => by
      obtain ⟨b, rfl, hp⟩ := hp
      exact et_B (ev_call (ea_cons (ev_var rfl) ea_nil) (spV_use rfl fun H2 e2 => ⟨b, x, rfl, PcR.ex e2 ⟨b, rfl, hp⟩, rfl⟩)))
    (fun x pv H1 e1 hx hp hf => by
      obtain ⟨b, rfl, _, dx, l, ho, _⟩ := hp
      obtain ⟨h, r⟩ := x
      cases h with
      | deed d s =>
        refine ev_is (field_ev (ev_var rfl) ho) (congrArg V.int ?_)
        cases d <;> first | rfl | cases hf
      | when f v => exact ev_fld (ev_var rfl) ho t.k_Part.cl t.n_Part_field l_Part_field
      | _ => cases hf)
  rw [filter_flat readsPc _ _ fun x => ?_] at c
  · rw [reads_rising p o1] at q
    exact s_retCL c rfl (fun p1 H2 e2 h2' => ⟨p1, _, rfl, h2', rfl⟩) q
  · obtain ⟨h, r⟩ := x
    cases h with
    | deed d s => cases d <;> exact ⟨fun z => (by first | rfl | cases z), fun z => (by first | rfl | cases z)⟩
    | when f v => exact ⟨fun _ => rfl, fun z => (by cases z)⟩
    | _ => exact ⟨fun z => (by cases z), fun _ => rfl⟩
theorem ok_rows_may_change (t : T K mg) : FnOk P w K mg base CX0 2 t.d_rows_may_change.f t.d_rows_may_change.d ["pieces"] (spV 1 (RPre t fun p => .bl (Vamacf.reshapes p))) := by
  have G_Deed_changes_rows := ok_Deed_changes_rows (P := P) (w := w) (base := base) t
  refine t.d_rows_may_change.F.ok sc_rows_may_change (fun vs H Q E h => h.1) (fun cdv A outer s H vs Q E hr h => ⟨_, (pss_one (ps_ret (pe_callB (cr_any rfl) rfl t.z_any (by decide +kernel) (pa_cons (pe_lc (te := tAndV (tCB (rIsi K) (tCons (tVar 1) (tCons (tC (.ref t.k_Deed.C)) tNil))) (tMeth t.k_Deed.C "changes_rows" (spV 1 (RKin t [7, 8])) [] E0 (tVar 1) tNil)) (tt := tYes) (own := [("piece", 1)]) (g := gName 1) rfl sc_rows_may_change.nd (pi_list (pv 0)) (blkOk_by (N := ["pieces", "piece"]) (sc := defScope s_rows_may_change) (by decide +kernel)) (fun _ _ _ _ _ => pg_name (i := 1) sc_rows_may_change.nd rfl (Or.inl rfl)) (fun _ _ _ _ _ => pts_nil) (fun _ _ _ _ _ => (pe_and (pe_callB call_isi rfl t.z_isinstance (by decide +kernel) (pa_cons (pv 1) (pa_cons (pe_cls rfl t.k_Deed.g) pa_nil))) (pe_one (pmeth0 (pv 1) t.k_Deed.cl t.d_Deed_changes_rows G_Deed_changes_rows (hr.mono (by omega))))))) pa_nil)))), ?_⟩)
  obtain ⟨_, z, ⟨a, vb, p, rfl, h1, h2, hok, rfl⟩, q⟩ := h
  obtain ⟨o1, o2, o3⟩ := okProg_parts hok
  have c := el_rows (K := K) (σ := [some (V.ref a), none]) (tl := tVar 0) (te := tAndV (tCB (rIsi K) (tCons (tVar 1) (tCons (tC (.ref t.k_Deed.C)) tNil))) (tMeth t.k_Deed.C "changes_rows" (spV 1 (RKin t [7, 8])) [] E0 (tVar 1) tNil)) (tt := tYes) (j := 1) (vs := [1])
    (ev_var rfl) h1 h2.paired (by rw [pre_len]; omega) (fun _ => true) (fun x => .bl (changesOne x)) (fun x => rfl) (fun x pv H1 e1 hx hp => et_yes)
    (fun x pv H1 e1 hx hp hf => by
      obtain ⟨b, rfl, _, dx, l, ho, _⟩ := hp
      obtain ⟨h, r⟩ := x
      cases h with
      | deed d s => exact ev_is (ev_and2 (isi_Deed t (ev_var rfl) ho) (ev_meth (ev_var rfl) ho m_Deed_changes_rows ea_nil (kin_use ho))) (congrArg V.bl (by show (true && _) = Vamacf.changesRows d; rw [changes_kind, Bool.true_and]))
      | _ => exact ev_is (ev_andV (b := false) (isi_Deed t (ev_var rfl) ho) fun z => by cases z) rfl)
  rw [filter_all, show (pre p).map (fun x => V.bl (changesOne x)) = ((pre p).map changesOne).map V.bl by rw [List.map_map]; rfl] at c
  refine s_ret (ev_is (ev_anyL c) (congrArg V.bl ?_)) q
  rw [reshapes_pre, List.any_map]
  rfl
end
end G
/-! The old clipboard; grants. -/
namespace G
open PySem PySem.Spec PyProof.Rows L2 Evl My
section
variable {K : PySem.W.Frag} {mg : Str → Option Value} {P : Program} {w : World} {base : Heap}
def RCopy (t : T K mg) (n : Nat) : List V → Hp → V → Prop := fun vs H z => ∃ a x, vs = [.ref a] ∧ PcR t H (.ref a) x ∧ (x.1.isDeed = false → x.2.size ≤ 16) ∧ depthOne x < n ∧ z = .bl (copyOne x)
theorem any_id (l : List Pc) (f : Pc → Bool) : (l.map f).any id = l.any f := by rw [List.any_map]; rfl
theorem ok_surely_copies (t : T K mg) : ∀ n : Nat, FnOk P w K mg base CX0 (n + 1) t.d_surely_copies.f t.d_surely_copies.d ["piece"] (spV 1 (RCopy t n))
  | 0 => never_of fun vs H Q E h => by
    obtain ⟨_, z, ⟨a, x, _, _, _, hn, _⟩, _⟩ := h
    exact Nat.not_lt_zero _ hn
  | n + 1 => by
    have G_surely_copies := ok_surely_copies t n
    refine t.d_surely_copies.F.ok sc_surely_copies (fun vs H Q E h => h.1) (fun cdv A outer s H vs Q E hr h => ⟨_, (pss_cons (ps_if (pt_val (pe_callB call_isi rfl t.z_isinstance (by decide +kernel) (pa_cons (pv 0) (pa_cons (pe_cls rfl t.k_Deed.g) pa_nil)))) (pss_one (ps_ret (pe_cmpR op_eq (pe_fld (pv 0) rfl) (pe_cst rfl t.c_COPY) (nomark _)))) pss_nil)
  (pss_cons (ps_if (pt_val (pe_callB call_isi rfl t.z_isinstance (by decide +kernel) (pa_cons (pv 0) (pa_cons (pe_cls rfl t.k_Loop.g) pa_nil)))) (pss_one (ps_ret (pe_callB (cr_any rfl) rfl t.z_any (by decide +kernel) (pa_cons (pe_lc (te := tCall (spV 1 (RCopy t n)) [] E0 (tCons (tVar 1) tNil)) (tt := tYes) (own := [("inner", 1)]) (g := gName 1) rfl sc_surely_copies.nd (pi_list (pe_fld (pv 0) rfl)) (blkOk_by (N := ["piece", "inner"]) (sc := defScope s_surely_copies) (by decide +kernel)) (fun _ _ _ _ _ => pg_name (i := 1) sc_surely_copies.nd rfl (Or.inl rfl)) (fun _ _ _ _ _ => pts_nil) (fun _ _ _ _ _ => (pcall t.d_surely_copies G_surely_copies (hr.mono (by omega)) rfl (pa_cons (pv 1) pa_nil)))) pa_nil)))) pss_nil)
  (pss_one (ps_ret pe_bl)))), ?_⟩)
    obtain ⟨_, z, ⟨a, x, rfl, ⟨a', ea, _, dx, l, ho, hrow⟩, hsz, hn, rfl⟩, q⟩ := h
    cases ea
    obtain ⟨h, b⟩ := x
    refine q_when (b := h.isDeed) (et_B (isi_Deed t (ev_var rfl) ho)) (fun c H1 e1 => ?_) (fun c H1 e1 => ?_)
    · cases h with
      | deed d s => exact s_ret (ev_is (ev_op (kind_ev (ev_var rfl) (e1 _ _ ho)) ev_c (rv_eq rfl)) (congrArg V.bl (by show _ = isCopy d; rw [copy_kind]; exact decide_eq_decide.mpr ⟨V.int.inj, congrArg V.int⟩))) fun H2 e2 => q _ (e1.trans e2)
      | _ => cases c
    obtain ⟨lb, vb, rfl, _, hlb, hrb⟩ := hrow c
    refine q_when (b := isTimes h) (et_B (isi_Loop t (ev_var rfl) (e1 _ _ ho))) (fun c3 H5 e5 => ?_) (fun c3 H5 e5 => ?_)
    · have e15 := e1.trans e5
      have hs := hsz c
      have hb : b.depth < n := by
        unfold depthOne at hn
        rw [show (h, b).1.isDeed = false from c] at hn
        have : b.depth + 1 < n + 1 := hn
        omega
      have cc := el_rows (K := K) (σ := [some (V.ref a), none]) (tl := tFld K (tVar 0) "row") (te := tCall (spV 1 (RCopy t n)) [] E0 (tCons (tVar 1) tNil)) (tt := tYes) (j := 1) (vs := [1]) (ev_row (ev_var rfl) (e15 _ _ ho) c) (e15 _ _ hlb) (RowAt.paired (hrb.ex e15))
        (by rw [rowL_len]; exact Nat.le_trans (row_le b) (Nat.le_trans hs (by decide))) (fun _ => true) (fun x => .bl (copyOne x)) (fun x => rfl) (fun x pv H1 e1 hx hp => et_yes)
        (fun x pv H1 e1 hx hp hf => by
          obtain ⟨y, rfl, hp⟩ := hp
          exact ev_call (ea_cons (ev_var rfl) ea_nil) (spV_use rfl fun H2 e2 => ⟨y, x, rfl, PcR.ex e2 ⟨y, rfl, hp⟩, fun _ => Nat.le_trans (rowL_size b x hx) hs, Nat.lt_of_le_of_lt (depthOne_le b x hx) hb, rfl⟩))
      rw [filter_all, show (rowL b).map (fun x => V.bl (copyOne x)) = ((rowL b).map copyOne).map V.bl by rw [List.map_map]; rfl] at cc
      refine s_ret (ev_is (ev_anyL cc) (congrArg V.bl ?_)) fun H6 e6 => q _ (e15.trans e6)
      rw [any_id, ← copies_rowL]
      cases h with
      | times m => rfl
      | _ => cases c3
    · refine (show Q (.bl false) H5 from ?_)
      have : copyOne (h, b) = false := by
        cases h with
        | deed d s => cases c
        | times m => cases c3
        | _ => rfl
      rw [this] at q
      exact q _ (e1.trans e5)
def ROld (t : T K mg) (n : Nat) : List V → Hp → V → Prop := fun vs H z => ∃ a vb p c, vs = [.ref a, .bl c] ∧ H a = some (.lst vb) ∧ RowAt t Any H p vb ∧ p.size ≤ 16 ∧ p.depth < n ∧ p.depth ≤ 3 ∧ z = .bl (oldL (rowL p) c)
theorem ok_reads_old_clipboard (t : T K mg) : ∀ n : Nat, FnOk P w K mg base CX0 (n + 6) t.d_reads_old_clipboard.f t.d_reads_old_clipboard.d ["row", "copied"] (spV 2 (ROld t n))
  | 0 => never_of fun vs H Q E h => by
    obtain ⟨_, z, ⟨a, vb, p, c, _, _, _, _, hn, _⟩, _⟩ := h
    exact Nat.not_lt_zero _ hn
  | n + 1 => by
    have G_reads_old_clipboard := ok_reads_old_clipboard t n
    have G_surely_copies := ok_surely_copies (P := P) (w := w) (base := base) t 4
    refine t.d_reads_old_clipboard.F.ok sc_reads_old_clipboard (fun vs H Q E h => h.1) (fun cdv A outer s H vs Q E hr h => ⟨_, (pss_cons (ps_for PassesOwn.never rfl (pi_list (pv 0)) (pg_name (i := 2) sc_reads_old_clipboard.nd rfl (Or.inl rfl)) (pss_cut (ps_if (pt_val (pe_callB call_isi rfl t.z_isinstance (by decide +kernel) (pa_cons (pv 2) (pa_cons (pe_cls rfl t.k_Deed.g) pa_nil)))) (pss_one (ps_if (PW.pt (pw_and (pt_cmpR op_eq (pe_fld (pv 2) rfl) (pe_cst rfl t.c_PASTE) (nomark _)) (pw_and1 (pt_not (pt_val (pv 1)))))) (pss_one (ps_ret pe_bl)) pss_nil)) (pss_one (ps_if (pt_val (pcall t.d_reads_old_clipboard G_reads_old_clipboard (hr.mono (by omega)) rfl (pa_cons (pe_fld (pv 2) rfl) (pa_cons (pv 1) pa_nil)))) (pss_one (ps_ret pe_bl)) pss_nil)))
  (pss_one (ps_set (i := 1) sc_reads_old_clipboard.nd rfl (Or.inl rfl) (pe_or (pv 1) (pe_one (pcall t.d_surely_copies G_surely_copies (hr.mono (by omega)) rfl (pa_cons (pv 2) pa_nil))))))))
  (pss_one (ps_ret pe_bl))), ?_⟩)
    obtain ⟨_, z, ⟨a, vb, p, c0, rfl, h1, h2, hsz, hn, hn3, rfl⟩, q⟩ := h
    refine q_rows (ev_var rfl) h1 h2.paired (fun i σ' => ∃ pv, σ' = [some (.ref a), some (.bl (copiedL ((rowL p).take i) c0)), pv] ∧ ∀ j, j < i → ∀ x, (rowL p)[j]? = some x → oldOne x (copiedL ((rowL p).take j) c0) = false) ⟨none, rfl, fun j hj => absurd hj (Nat.not_lt_zero _)⟩ ?_ ?_
    · rintro i x pv σ' H' e' hx ⟨b, rfl, hpc⟩ ⟨_, rfl, hm⟩
      have hmem := List.mem_of_getElem? hx
      obtain ⟨_, dx, l, ho, hrow⟩ := id hpc
      have ht : (rowL p).take (i + 1) = (rowL p).take i ++ [x] := by
        rw [List.take_add_one, hx]
        rfl
      have hit : ∀ H2, Ex H' H2 → oldOne x (copiedL ((rowL p).take i) c0) = true → Q (.bl true) H2 := fun H2 e2 hh => by
        have e3 : oldL (rowL p) c0 = true := by
          rw [oldL_turn (rowL p) c0 i hm]
          have hlt := (List.getElem?_eq_some_iff.mp hx).1
          have e4 : (rowL p).drop i = x :: (rowL p).drop (i + 1) := by
            rw [List.drop_eq_getElem_cons hlt]
            congr 1
            exact (List.getElem?_eq_some_iff.mp hx).2
          rw [e4]
          show (oldOne x _ || _) = true
          rw [hh, Bool.true_or]
        rw [e3] at q
        exact q _ (e'.trans e2)
      refine q_cut (M := fun σ2 H2 => Ex H H2 ∧ Ex H' H2 ∧ σ2 = [some (.ref a), some (.bl (copiedL ((rowL p).take i) c0)), some (.ref b)] ∧ oldOne x (copiedL ((rowL p).take i) c0) = false) ?_ ?_
      · refine s_if (b := x.1.isDeed) (et_B (isi_Deed t (ev_var rfl) ho)) (fun c H2 e2 => ?_) (fun c H2 e2 => ?_)
        · obtain ⟨h, bb⟩ := x
          cases h with
          | deed d s =>
            refine s_when (b := isPaste d && !copiedL ((rowL p).take i) c0) ?_ (fun c H3 e3 => ?_) (fun c H3 e3 => ⟨(e'.trans e2).trans e3, e2.trans e3, rfl, c⟩)
            · refine et_is (et_and2 (et_test (ev_op (kind_ev (ev_var rfl) (e2 _ _ ho)) ev_c (rv_eq rfl))) (et_not (et_B (ev_var rfl)))) ?_
              rw [paste_kind]
              congr 1
              exact decide_eq_decide.mpr ⟨V.int.inj, congrArg V.int⟩
            · exact hit _ (e2.trans e3) c
          | _ => cases c
        · obtain ⟨lb, ib, rfl, _, hlb, hrb⟩ := hrow c
          have hd := rowL_depth p x hmem c
          refine s_when (b := oldOne x (copiedL ((rowL p).take i) c0)) ?_ (fun c H3 e3 => ?_) (fun c H3 e3 => ⟨(e'.trans e2).trans e3, e2.trans e3, rfl, c⟩)
          · refine et_is (et_B (ev_call (ea_cons (ev_row (ev_var rfl) (e2 _ _ ho) c) (ea_cons (ev_var rfl) ea_nil)) (spV_use rfl fun H3 e3 => ⟨lb, ib, x.2, _, rfl, e3 _ _ (e2 _ _ hlb), (hrb.ex e2).ex e3, Nat.le_trans (rowL_size p x hmem) hsz, by omega, by omega, rfl⟩))) ?_
            obtain ⟨h, bb⟩ := x
            rw [← clip_old]
            cases h with
            | deed d s => cases c
            | _ => rfl
          · exact hit _ (e2.trans e3) c
      rintro σ2 H2 ⟨e02, e12, rfl, hf⟩
      refine s_asg (ev_or2 (ev_var rfl) (ev_call (ea_cons (ev_var rfl) ea_nil) (spV_use rfl fun H3 e3 => ⟨b, x, rfl, PcR.ex (e12.trans e3) ⟨b, rfl, hpc⟩, fun _ => Nat.le_trans (rowL_size p x hmem) hsz, by have := depthOne_le p x hmem; omega, rfl⟩))) fun H3 e3 => ⟨e02.trans e3, some (.ref b), ?_, fun j hj y hy => ?_⟩
      · rw [ht, copiedL_snoc]
        rfl
      · rcases Nat.lt_succ_iff_lt_or_eq.mp hj with hj | rfl
        · exact hm j hj y hy
        · rw [hx] at hy
          cases hy
          exact hf
    · rintro σ' H' e' ⟨pv, rfl, hm⟩
      have : oldL (rowL p) c0 = false := by
        rw [oldL_turn (rowL p) c0 _ hm, List.drop_length]
        rfl
      rw [this] at q
      exact q _ e'
def RAgainst (t : T K mg) : List V → Hp → V → Prop := fun vs H z => ∃ a x rw fl ls, vs = [.ref a, .int rw, .ref fl] ∧ PcR t H (.ref a) x ∧ H fl = some (.lst (nats ls)) ∧ (rw = 0 ∨ rw = 1) ∧ z = .bl (isOutside ls (decide (rw = 1)) x)
theorem ok_is_against (t : T K mg) : FnOk P w K mg base CX0 2 t.d_is_against.f t.d_is_against.d ["piece", "rows", "fields"] (spV 3 (RAgainst t)) := by
  have G_Deed_changes_rows := ok_Deed_changes_rows (P := P) (w := w) (base := base) t
  have G_Deed_writes_field := ok_Deed_writes_field (P := P) (w := w) (base := base) t
  refine t.d_is_against.F.ok sc_is_against (fun vs H Q E h => h.1) (fun cdv A outer s H vs Q E hr h => ⟨_, (pss_cons (ps_if (pt_not (pt_val (pe_callB call_isi rfl t.z_isinstance (by decide +kernel) (pa_cons (pv 0) (pa_cons (pe_cls rfl t.k_Deed.g) pa_nil))))) (pss_one (ps_ret pe_bl)) pss_nil)
  (pss_cons (ps_if (pt_val (pmeth0 (pv 0) t.k_Deed.cl t.d_Deed_changes_rows G_Deed_changes_rows (hr.mono (by omega)))) (pss_one (ps_ret (pe_cmpR op_eq (pv 1) pe_int (nomark _)))) pss_nil)
  (pss_one (ps_ret (pe_and (pmeth0 (pv 0) t.k_Deed.cl t.d_Deed_writes_field G_Deed_writes_field (hr.mono (by omega))) (pe_one (pe_cmpR op_notIn_seq (pe_fld (pv 0) rfl) (pv 2) (by rfl)))))))), ?_⟩)
  obtain ⟨_, z, ⟨a, x, rw, fl, ls, rfl, ⟨a', ea, _, dx, l, ho, _⟩, hfl, hrw, rfl⟩, q⟩ := h
  cases ea
  obtain ⟨h, b⟩ := x
  refine q_when (b := !h.isDeed) (et_not (et_B (isi_Deed t (ev_var rfl) ho))) (fun c H1 e1 => ?_) (fun c H1 e1 => ?_)
  · refine (show Q (.bl false) H1 from ?_)
    cases h with
    | deed d s => cases c
    | _ => exact q _ e1
  cases h with
  | deed d s =>
    have q' : ∀ H', Ex H H' → Q (.bl (!((Vamacf.writesOf d).all ls.contains && (decide (rw = 1) || !Vamacf.changesRows d)))) H' := q
    rw [writes_kind, changes_kind] at q'
    refine q_when (b := decide (kindOf d ∈ ([7, 8] : List Int))) (et_B (ev_meth (ev_var rfl) (e1 _ _ ho) m_Deed_changes_rows ea_nil (kin_use (e1 _ _ ho)))) (fun c2 H2 e2 => ?_) (fun c2 H2 e2 => ?_)
    · have c2' := of_decide_eq_true c2
      refine s_ret (ev_is (ev_op (ev_var rfl) ev_c (rv_eq rfl)) (congrArg V.bl ?_)) fun H3 e3 => q' _ ((e1.trans e2).trans e3)
      rw [c2, if_neg (by simp only [List.mem_cons, List.not_mem_nil, or_false] at c2' ⊢; omega)]
      rcases hrw with rfl | rfl <;> rfl
    · rw [c2] at q'
      refine s_ret (ev_and2 (ev_meth (ev_var rfl) ((e1.trans e2) _ _ ho) m_Deed_writes_field ea_nil (kin_use ((e1.trans e2) _ _ ho))) (ev_ninL (field_ev (ev_var rfl) ((e1.trans e2) _ _ ho)) (ev_var rfl) ((e1.trans e2) _ _ hfl) rfl (nats_flat ls))) fun H3 e3 => ?_
      have := q' _ ((e1.trans e2).trans e3)
      rw [inV_nats]
      by_cases c4 : kindOf d ∈ ([3, 4, 6] : List Int)
      · rw [if_pos c4] at this
        rw [decide_eq_true c4]
        simpa using this
      · rw [if_neg c4] at this
        rw [decide_eq_false c4]
        simpa using this
  | _ => cases c
end
end G
/-! Fields read. -/
namespace G
open PySem PySem.Spec PyProof.Rows L2 Evl My
section
variable {K : PySem.W.Frag} {mg : Str → Option Value} {P : Program} {w : World} {base : Heap}
abbrev fieldsM := VamacBase.readListed 0 VamacBase.FIELDS VamacBase.readField
def spFields (t : T K mg) : Sp := fun vs H Q E => ∃ na ns, vs = [.ref na] ∧ SqL K H na (ns.map V.int) ∧ ns.length ≤ 100000 ∧ (VamacBase.whole fieldsM ns = none → ∀ H', Ex H H' → E (.ref t.x_NotWhole.C) none H') ∧
  (∀ fs, VamacBase.whole fieldsM ns = some fs → ∀ H' a, Ex H H' → H a = none → H' a = some (.lst (nats fs)) → Q (.ref a) H')
/-- a reader made over a list -/
theorem reader_new {t : T K mg} {H H1 : Hp} {r dr na M : Addr} {ns : List Int} (e1 : Ex H H1) (d1 : H1 r = some (.ins t.k_Reader.C dr (fs_Reader (.ref na) (.int 0)))) (hq : SqL K H na (ns.map V.int)) (hsz : ns.length ≤ 100000) (hM : H1 M = none) : RdAt t H1 r na M ns 0 :=
  ⟨⟨dr, d1⟩, far_new (ex_l e1 hq) hM, Nat.zero_le _, hsz⟩
theorem But.exr {H H1 H2 : Hp} {r : Addr} (b : But r H1 H2) (e : Ex H H1) (hr : H r = none) : Ex H H2 := fun c o h => b c o (e c o h) (ne_of_none h hr)
theorem RdAt.sq {t : T K mg} {H : Hp} {r na M : Addr} {ns : List Int} {i : Nat} (h : RdAt t H r na M ns i) : SqL K H na (ns.map V.int) := h.q.sq
/-- the reader stands, whatever other list is written: from the entry on all but r and l stands -/
theorem rd_from {t : T K mg} {H H1 H' : Hp} {r na M M' : Addr} {ns : List Int} {i : Nat} (h : RdAt t H' r na M ns i) (hq : SqL K H na (ns.map V.int)) (e : Ex H H1) (ho : ∃ dx, H1 r = some (.ins t.k_Reader.C dx (fs_Reader (.ref na) (.int i)))) (hM : H M' = none) (hM1 : M' ≠ r) : RdAt t H1 r na M' ns i :=
  ⟨ho, far_ex e (far_new hq hM), h.le, h.sz⟩
theorem ok_read_fields (t : T K mg) : FnOk P w K mg base (L2.CX P w) 6 t.d_read_fields.f t.d_read_fields.d ["numbers"] (spFields t) := by
  have G_Reader_init := ok_Reader_init (P := P) (w := w) (base := base) t
  have G_Reader_take_within := ok_Reader_take_within (P := P) (w := w) (base := base) t
  have G_read_field := ok_read_field (P := P) (w := w) (base := base) t
  have G_Reader_finish := ok_Reader_finish (P := P) (w := w) (base := base) t
  refine t.d_read_fields.F.okX sc_read_fields (fun vs H Q E h => by obtain ⟨na, ns, rfl, _⟩ := h; rfl) (fun cdv A outer s H vs Q E hr h => ⟨_, (pss_cons (ps_set (i := 1) sc_read_fields.nd rfl (Or.inl rfl) (pmake t.d_Reader_init t.k_Reader.g G_Reader_init (hr.mono (by omega)) rfl (pa_cons (pv 0) pa_nil)))
  (pss_cons (ps_set (i := 2) sc_read_fields.nd rfl (Or.inl rfl) (pmethS (pv 1) t.k_Reader.cl t.d_Reader_take_within G_Reader_take_within (hr.mono (by omega)) (takes_of rfl rfl rfl rfl) (by exact (pa_cons pe_int (pa_cons (pe_cst rfl t.c_FIELDS) pa_nil)))))
  (pss_cons (ps_set (i := 3) sc_read_fields.nd rfl (Or.inl rfl) (pe_lst pa_nil))
  (pss_cons (ps_for (passes_of rfl) rfl (pi_range1 rfl t.z_range (pa_cons (pv 2) pa_nil)) (pg_name (i := 4) sc_read_fields.nd rfl (Or.inl rfl)) (pss_one (ps_expr (pe_bm PySem.F.plainAttrs_list PySem.F.slot_list_append PySem.F.type_list_append mt_append (pv 3) (pa_cons (pcallS t.d_read_field G_read_field (hr.mono (by omega)) rfl (takes_of rfl rfl rfl rfl) (pa_cons (pv 1) pa_nil)) pa_nil)))))
  (pss_cons (ps_expr (pmethS0 (pv 1) t.k_Reader.cl t.d_Reader_finish G_Reader_finish (hr.mono (by omega)) (takes_of rfl rfl rfl rfl)))
  (pss_one (ps_ret (pv 3)))))))), ?_⟩)
  obtain ⟨na, ns, rfl, hq, hsz, kN, kS⟩ := h
  refine ⟨_, rfl, fun r dr hr0 hd0 hne => ⟨rfl, r, dr, [.ref na], rfl, upd_same, rfl, ?_⟩⟩
  obtain ⟨e1, d1⟩ := made_ex (C := t.k_Reader.C) (f0 := []) (fs := fs_Reader (.ref na) (.int 0)) hr0 hd0 hne
  dsimp only [gName]
  generalize L2.upd _ _ _ = H1 at e1 d1 ⊢
  refine q_asgM (ev_var rfl) d1 m_Reader_take_within (ea_cons ev_c (ea_cons ev_c ea_nil)) fun H2 e2 => ⟨r, na, r, ns, 0, 0, 3, rfl, ⟨⟨dr, e2 _ _ d1⟩, far_ex e2 (far_ex e1 (far_new hq hr0)), Nat.zero_le _, hsz⟩, fun e H3 b3 => kN (whole_none (by show Option.bind (VamacBase.readNat 0 3 (ns.drop 0)) _ = none; rw [nat_none (lo := 0) (hi := 3) e]; rfl)) H3 (b3.exr (e1.trans e2) hr0), fun n j e H3 v b3 hR3 hv => ?_⟩
  obtain rfl : v = .int n := hv
  obtain ⟨n1, n2, n3, n4⟩ := nat_some (lo := 0) (hi := 3) e
  have e03 : Ex H H3 := b3.exr (e1.trans e2) hr0
  have oe : fieldsM ns = VamacBase.readTimes VamacBase.readField n.toNat (ns.drop j) := by
    show (VamacBase.readNat 0 3 (ns.drop 0)).bind _ = _
    rw [n1]
    rfl
  refine q_asgL (el_lst ea_nil (by decide)) fun l H4 hl e4 hl4 => ?_
  have hlr : l ≠ r := by
    rintro rfl
    obtain ⟨d2, q⟩ := hR3.o
    rw [hl] at q
    cases q
  have hl0 : H l = none := fresh_back e03 hl
  have hR4 := hR3.ex e4
  refine q_forR1 (n := n) (ea_cons (ev_var rfl) ea_nil) ⟨by omega, by omega⟩ (fun m σ' H' => ∃ pv q j', σ' = [some (.ref na), some (.ref r), some (.int n), some (.ref l), pv] ∧ Ex H H' ∧ RdAt t H' r na r ns j' ∧ H' l = some (.lst (nats q)) ∧ q.length ≤ m ∧ m ≤ 3 ∧
    fieldsM ns = (VamacBase.readTimes VamacBase.readField (n.toNat - m) (ns.drop j')).map fun u => (q ++ u.1, u.2))
    (fun H5 e5 => ⟨none, [], j, rfl, (e03.trans e4).trans e5, hR4.ex e5, e5 _ _ hl4, Nat.le_refl _, by omega, by rw [oe]; exact readTimes_start⟩) ?_ ?_
  · rintro m σ' H' hm ⟨pv, q, j', rfl, e', hR', hl', hq1, hm3, hoe⟩
    obtain ⟨k', hk'⟩ : ∃ k', n.toNat - m = k' + 1 := ⟨n.toNat - m - 1, by omega⟩
    rw [hk'] at hoe
    obtain ⟨turnN, turnS⟩ := readTimes_turn hoe
    refine ⟨_, rfl, .inl ⟨rfl, _, SqL.of hl'⟩, _, rfl, r, na, r, ns, j', rfl, hR', fun e' H6 b6 => kN (whole_none (turnN e')) H6 (b6.exr ‹_› hr0), fun u j2 eu H6 v b6 hR6 hv => ?_⟩
    obtain rfl : v = .int (u : Nat) := hv
    have hl6 : H6 l = some (.lst (nats q)) := b6 _ _ hl' hlr
    have e6 : Ex H (L2.upd H6 l (.lst (nats q ++ [.int (u : Nat)]))) := (b6.exr e' hr0).mut hl0
    refine ⟨l, _, .int (u : Nat), rfl, rfl, hl6, ?_, some (.int m), q ++ [u], j2, rfl, e6, ?_, ?_, ?_, by omega, ?_⟩
    · unfold nats
      rw [List.length_map]
      exact sz_lt (by omega)
    · exact ⟨hR6.o.imp fun _ z => by rw [upd_ne (Ne.symm hlr)]; exact z, far_ex e6 (far_new hq hr0), hR6.le, hR6.sz⟩
    · rw [upd_same]
      unfold nats
      rw [List.map_append]
      rfl
    · rw [List.length_append]
      show q.length + 1 ≤ m + 1
      omega
    · rw [turnS u _ eu]
      congr 2
      omega
  · rintro σ' H' ⟨pv, q, j', rfl, e', hR', hl', hq1, hm3, hoe⟩
    rw [Nat.sub_self] at hoe
    have hoe' : fieldsM ns = some (q, ns.drop j') := by
      rw [hoe]
      show some (q ++ [], _) = _
      rw [List.append_nil]
    obtain ⟨dx', d'⟩ := hR'.o
    refine q_dropM (ev_var rfl) d' m_Reader_finish ea_nil fun H5 e5 => ⟨r, na, r, ns, j', rfl, hR'.ex e5, fun e H6 e6 => kN (whole_more hoe' e) H6 ((e'.trans e5).trans e6), fun e H6 e6 => ?_⟩
    exact ⟨_, rfl, kS q (whole_some (by rw [hoe', e])) H6 l ((e'.trans e5).trans e6) hl0 ((e5.trans e6) _ _ hl')⟩
end
end G
/-! The desk. -/
namespace G
open PySem PySem.Spec PyProof.Rows L2 Evl My
section
variable {K : PySem.W.Frag} {mg : Str → Option Value} {P : Program} {w : World} {base : Heap}
def DeskAt (t : T K mg) (N : Addr → Prop) (H : Hp) (d : Addr) (p : VamacBase.Prog) : Prop := ∃ dx a, H d = some (.ins t.k_Desk.C dx (fs_Desk (.ref a))) ∧ ProgAt t N H a p
/-- N, or new -/
def Or0 (N : Addr → Prop) (H : Hp) : Addr → Prop := fun b => N b ∨ H b = none
theorem ProgAt.any {t : T K mg} {N : Addr → Prop} {H : Hp} {a : Addr} {p : VamacBase.Prog} (h : ProgAt t N H a p) : ProgAt t Any H a p := h.mono (fun _ _ _ z => z) fun _ _ => True.intro
/-- a call on the desk: what it answers, a new list; what the desk holds then; all else stands -/
def spStep (t : T K mg) (n : Nat) (R : List V → Hp → Vamacf.Call → Addr → Prop) : Sp := fun vs H Q _ => vs.length = n ∧ ∃ N d p c, R vs H c d ∧ DeskAt t N H d p ∧
  ∀ H' l, But d H H' → DeskAt t (Or0 N H) H' d (Vamacf.step ⟨p⟩ c).1.program → H l = none → H' l = some (.lst ((Vamacf.step ⟨p⟩ c).2.map V.int)) → Q (.ref l) H'
/-- one that doesn't change the desk -/
theorem step_same {t : T K mg} {N : Addr → Prop} {H : Hp} {d : Addr} {p : VamacBase.Prog} {c : Vamacf.Call} {Q : VK} {ans : List Int} (hd : DeskAt t N H d p) (e : Vamacf.step ⟨p⟩ c = (⟨p⟩, ans))
    (k : ∀ H' l, But d H H' → DeskAt t (Or0 N H) H' d (Vamacf.step ⟨p⟩ c).1.program → H l = none → H' l = some (.lst ((Vamacf.step ⟨p⟩ c).2.map V.int)) → Q (.ref l) H') :
    ∀ l H', H l = none → Ex H H' → H' l = some (.lst (ans.map V.int)) → Q (.ref l) H' := fun l H' hl ex h => by
  obtain ⟨dx, a, h1, h2⟩ := hd
  refine k H' l (.of ex) ?_ hl ?_
  · rw [e]
    exact ⟨dx, a, ex _ _ h1, (h2.ex ex).mono (fun _ _ _ z => z) fun _ z => .inl z⟩
  · rw [e]
    exact h
def RD0 (c : Vamacf.Call) : List V → Hp → Vamacf.Call → Addr → Prop := fun vs H c' d => vs = [.ref d] ∧ c' = c
def RD1 (K : PySem.W.Frag) (c : List Int → Vamacf.Call) : List V → Hp → Vamacf.Call → Addr → Prop := fun vs H c' d => ∃ na ns, vs = [.ref d, .ref na] ∧ SqL K H na (ns.map V.int) ∧ ns.length ≤ 100000 ∧ c' = c ns
theorem zero_prog : VamacBase.whole VamacBase.readProg [0] = some .done := rfl
def spDeskInit (t : T K mg) : Sp := fun vs H Q _ => vs.length = 1 ∧ ∃ x dx, vs = [.ref x] ∧ H x = some (.ins t.k_Desk.C dx []) ∧ ∀ H', But x H H' → DeskAt t (fun b => H b = none) H' x .done → Q .non H'
theorem ok_Desk_init (t : T K mg) : FnOk P w K mg base CX0 18 t.d_Desk_init.f t.d_Desk_init.d ["self"] (spDeskInit t) := by
  have G_read_program := ok_read_program (P := P) (w := w) (base := base) t
  refine t.d_Desk_init.F.ok sc_Desk_init (fun vs H Q E h => h.1) (fun cdv A outer s H vs Q E hr h => ⟨_, (pss_one (ps_fld (pv 0) (pcallL t.d_read_program G_read_program (hr.mono (by omega)) rfl (pa_cons (pe_lst (pa_cons pe_int pa_nil)) pa_nil)) rfl)), ?_⟩)
  obtain ⟨_, x, dx, rfl, h1, q⟩ := h
  refine ⟨by decide, fun l hl => ⟨l, [0], rfl, .of upd_same, by decide, fun e => (by rw [zero_prog] at e; cases e), fun p e H2 a e2 hp => ?_⟩⟩
  rw [zero_prog] at e
  cases e
  have e02 : Ex H H2 := (Ex.new hl).trans e2
  refine ⟨_, rfl, x, _, dx, _, rfl, e02 _ _ h1, t.k_Desk.cl, t.n_Desk_program, (by show 0 < 1000; decide), q _ (But.upd (.of e02)) ⟨dx, a, ?_, ?_⟩⟩
  · rw [upd_same, w_Desk]
  · refine hp.mono (fun b o z q => ?_) fun b z => fresh_back (Ex.new hl) z
    rw [upd_ne]
    · exact q
    · rintro rfl
      rw [(Ex.new (o := .lst [.int 0]) hl) _ _ h1] at z
      cases z
theorem ok_Desk_told (t : T K mg) : FnOk P w K mg base CX0 1 t.d_Desk_told.f t.d_Desk_told.d ["self"] (spStep t 1 (RD0 .told)) := by
  refine t.d_Desk_told.F.ok sc_Desk_told (fun vs H Q E h => h.1) (fun cdv A outer s H vs Q E hr h => ⟨_, (pss_one (ps_ret (pe_callTy call_list_of rfl t.z_list (by decide +kernel) (pa_cons (pe_fld (pe_fld (pv 0) rfl) rfl) pa_nil)))), ?_⟩)
  obtain ⟨_, N, d, p, c, ⟨rfl, rfl⟩, hd, k⟩ := h
  have k' := step_same hd rfl k
  obtain ⟨dx, a, h1, hpa⟩ := hd
  obtain ⟨⟨dp, ln, lr, lp, vr, vp, q1, q2, q3, q4, q5, q6, _⟩, ok⟩ := hpa.any
  exact s_retL (el_list (ev_fld (ev_fld (ev_var rfl) h1 t.k_Desk.cl t.n_Desk_program l_Desk_program) q1 t.k_Program.cl t.n_Program_numbers l_Program_numbers) (.of q2)) fun l H1 hl e1 h => k' l H1 hl e1 h
theorem ok_Desk_ends (t : T K mg) : FnOk P w K mg base CX0 12 t.d_Desk_ends.f t.d_Desk_ends.d ["self"] (spStep t 1 (RD0 .ends)) := by
  have G_first_endless := ok_first_endless (P := P) (w := w) (base := base) t
  have G_most_deeds := ok_most_deeds (P := P) (w := w) (base := base) t 4
  refine t.d_Desk_ends.F.ok sc_Desk_ends (fun vs H Q E h => h.1) (fun cdv A outer s H vs Q E hr h => ⟨_, (pss_cons (ps_set (i := 1) sc_Desk_ends.nd rfl (Or.inl rfl) (pcall t.d_first_endless G_first_endless (hr.mono (by omega)) rfl (pa_cons (pe_fld (pe_fld (pv 0) rfl) rfl) pa_nil)))
  (pss_cons (ps_if (pt_cmpR op_isN (pv 1) pe_non (nomark _)) (pss_one (ps_ret (pe_lst (pa_cons pe_int (pa_cons (pcall t.d_most_deeds G_most_deeds (hr.mono (by omega)) rfl (pa_cons (pe_fld (pe_fld (pv 0) rfl) rfl) pa_nil)) pa_nil))))) pss_nil)
  (pss_one (ps_ret (pe_lst (pa_cons pe_int (pa_cons (pv 1) pa_nil))))))), ?_⟩)
  obtain ⟨_, N, d, p, c, ⟨rfl, rfl⟩, hd, k⟩ := h
  have k' := step_same hd rfl k
  obtain ⟨dx, a, h1, hpa⟩ := hd
  obtain ⟨⟨dp, ln, lr, lp, vr, vp, q1, q2, q3, q4, q5, q6, _⟩, ok⟩ := hpa.any
  obtain ⟨o1, o2, o3⟩ := okProg_parts ok
  have pe : ∀ {σ H'}, Ex H H' → Ev (tFld K (tVar 0) "program") (some (V.ref d) :: σ) H' (.ref a) := fun e => ev_fld (ev_var rfl) (e _ _ h1) t.k_Desk.cl t.n_Desk_program l_Desk_program
  refine q_asg (ev_call (ea_cons (ev_fld (pe (Ex.refl H)) q1 t.k_Program.cl t.n_Program_pieces l_Program_pieces) ea_nil) (spV_use (z := optN (Vamacf.loose 0 p)) rfl fun H1 e1 => ⟨lp, vp, p, rfl, e1 _ _ q4, q6.ex e1, ok, rfl⟩)) fun H1 e1 => ?_
  cases el : Vamacf.loose 0 p with
  | none =>
    refine q_when (b := true) (et_test (ev_op (ev_var rfl) ev_c (rv_val fun H4 e4 Q q => ⟨rfl, q⟩))) (fun _ H2 e2 => ?_) (fun c _ _ => by cases c)
    have e12 := e1.trans e2
    refine s_retL (el_lst (ea_cons ev_c (ea_cons (ev_call (ea_cons (ev_fld (pe e12) (e12 _ _ q1) t.k_Program.cl t.n_Program_row l_Program_row) ea_nil) (spV_use rfl fun H3 e3 => ⟨lr, vr, p, rfl, (e12.trans e3) _ _ q3, q5.ex (e12.trans e3), by omega, o1, o2, rfl⟩)) ea_nil)) (by show 2 ≤ 100000; decide)) fun l H3 hl e3 h => k' l H3 (fresh_back e12 hl) (e12.trans e3) ?_
    rw [h]
    show _ = some (HO.lst ((match Vamacf.loose 0 p with | some k => [0, Vamacf.int k] | none => [1, Vamacf.int (Vamacf.most p)]).map V.int))
    rw [el]
    rfl
  | some j =>
    refine q_when (b := false) (et_test (ev_op (ev_var rfl) ev_c (rv_val fun H4 e4 Q q => ⟨rfl, q⟩))) (fun c _ _ => by cases c) (fun _ H2 e2 => ?_)
    have e12 := e1.trans e2
    refine s_retL (el_lst (ea_cons ev_c (ea_cons (ev_var rfl) ea_nil)) (by show 2 ≤ 100000; decide)) fun l H3 hl e3 h => k' l H3 (fresh_back e12 hl) (e12.trans e3) ?_
    rw [h]
    show _ = some (HO.lst ((match Vamacf.loose 0 p with | some k => [0, Vamacf.int k] | none => [1, Vamacf.int (Vamacf.most p)]).map V.int))
    rw [el]
    rfl
theorem ok_Desk_put_program (t : T K mg) : FnOk P w K mg base CX0 18 t.d_Desk_put_program.f t.d_Desk_put_program.d ["self", "numbers"] (spStep t 2 (RD1 K .program)) := by
  have G_read_program := ok_read_program (P := P) (w := w) (base := base) t
  have G_depth_of := ok_depth_of (P := P) (w := w) (base := base) t 4
  refine t.d_Desk_put_program.F.ok sc_Desk_put_program (fun vs H Q E h => h.1) (fun cdv A outer s H vs Q E hr h => ⟨_, (pss_cons (ps_try_only rfl rfl ⟨rfl, by decide, Or.inl t.x_NotWhole.g⟩ takes0 (fun W pn xe tk _ => (pss_one (ps_set (i := 2) sc_Desk_put_program.nd rfl (Or.inl rfl) (pcallS t.d_read_program G_read_program (hr.mono (by omega)) rfl tk (pa_cons (pv 1) pa_nil))))) (fun _ _ _ _ _ _ _ => (pss_one (ps_ret (pe_lst (pa_cons (pe_un un_neg pe_int) pa_nil))))))
  (pss_cons (ps_fld (pv 0) (pv 2) rfl)
  (pss_one (ps_ret (pe_lst (pa_cons (pe_callB call_len_seq rfl t.z_len PySem.boot_len (pa_cons (pe_fld (pv 2) rfl) pa_nil)) (pa_cons (pcall t.d_depth_of G_depth_of (hr.mono (by omega)) rfl (pa_cons (pe_fld (pv 2) rfl) pa_nil)) pa_nil))))))), ?_⟩)
  obtain ⟨_, N, d, p, c, ⟨na, ns, rfl, hq, hsz, rfl⟩, hd, k⟩ := h
  obtain ⟨dx, a0, h1, hp0⟩ := id hd
  refine ⟨_, rfl, na, ns, rfl, hq, hsz, fun e H2 e2 => ⟨true, t.x_NotWhole.e, fun _ _ _ => ?_, fun q => Bool.noConfusion q⟩, fun p' e H2 a e2 hp => ?_⟩
  · have es : Vamacf.step ⟨p⟩ (.program ns) = (⟨p⟩, [-1]) := by
      show (match VamacBase.whole VamacBase.readProg ns with | none => _ | some p => _) = _
      rw [e]
    exact s_retL (el_lst (ea_cons (ev_un ev_c ru_neg) ea_nil) (by decide)) fun l H3 hl e3 h => step_same hd es k l H3 (fresh_back e2 hl) (e2.trans e3) h
  · have es : Vamacf.step ⟨p⟩ (.program ns) = (⟨p'⟩, [(p'.size : Int), (p'.depth : Int)]) := by
      show (match VamacBase.whole VamacBase.readProg ns with | none => _ | some p => _) = _
      rw [e]
      rfl
    rw [es] at k
    have hd2 := e2 _ _ h1
    refine ⟨_, rfl, _, rfl, d, _, dx, _, rfl, hd2, t.k_Desk.cl, t.n_Desk_program, (by show 1 < 1000; decide), ?_⟩
    rw [p_Desk_program]
    have hp3 : ProgAt t (fun b => H b = none) (L2.upd H2 d (.ins t.k_Desk.C dx (fs_Desk (.ref a)))) a p' := hp.mono (fun b o z q => by
      rw [upd_ne]
      · exact q
      · rintro rfl
        rw [h1] at z
        cases z) fun b z => z
    have b3 : But d H (L2.upd H2 d (.ins t.k_Desk.C dx (fs_Desk (.ref a)))) := (But.of e2).upd
    have hd3 : L2.upd H2 d (.ins t.k_Desk.C dx (fs_Desk (.ref a))) d = some (.ins t.k_Desk.C dx (fs_Desk (.ref a))) := upd_same
    have n3 : ∀ l, L2.upd H2 d (.ins t.k_Desk.C dx (fs_Desk (.ref a))) l = none → H l = none := fun l z => fresh_but b3 z (by rintro rfl; rw [hd3] at z; cases z)
    generalize L2.upd H2 d (.ins t.k_Desk.C dx (fs_Desk (.ref a))) = H3 at hp3 b3 hd3 n3 ⊢
    obtain ⟨⟨dp, ln, lr, lp, vr, vp, q1, q2, q3, q4, q5, q6, _⟩, ok⟩ := id hp3
    obtain ⟨o1, o2, o3⟩ := okProg_parts ok
    refine s_retL (el_lst (ea_cons (ev_len (ev_fld (ev_var rfl) q1 t.k_Program.cl t.n_Program_pieces l_Program_pieces) (.of q4)) (ea_cons (ev_call (ea_cons (ev_fld (ev_var rfl) q1 t.k_Program.cl t.n_Program_row l_Program_row) ea_nil)
      (spV_use rfl fun H4 e4 => ⟨lr, vr, p', rfl, e4 _ _ q3, (q5.ex e4).mono (fun _ _ _ z => z) fun _ _ => True.intro, by omega, rfl⟩)) ea_nil)) (by show 2 ≤ 100000; decide)) fun l H4 hl e4 h => k H4 l (b3.trans (.of e4)) ⟨dx, a, e4 _ _ hd3, (hp3.ex e4).mono (fun _ _ _ z => z) fun _ z => .inr z⟩ (n3 l hl) ?_
    rw [h, q6.len]
    rfl
theorem el_catLL {ta tb : TE} {σ : L2.St} {H : Hp} {xs ys : List V} (ha : EvL ta σ H xs) (hb : EvL tb σ H ys) (hz : xs.length + ys.length ≤ 100000) : EvL (tOp rCat ta tb) σ H (xs ++ ys) := fun H1 e Q q =>
  ha H1 e _ fun p H2 hp e2 h2 => hb H2 (e.trans e2) _ fun p' H3 hp' e3 h3 => ⟨p, p', xs, ys, rfl, rfl, e3 _ _ h2, h3, sz_of hz, fun l hl => q l _ (fresh_back (e2.trans e3) hl) ((e2.trans e3).trans (Ex.new hl)) upd_same⟩
theorem el_catLV {ta tb : TE} {σ : L2.St} {H : Hp} {xs ys : List V} {b : Addr} (ha : EvL ta σ H xs) (hb : Ev tb σ H (.ref b)) (h : H b = some (.lst ys)) (hz : xs.length + ys.length ≤ 100000) : EvL (tOp rCat ta tb) σ H (xs ++ ys) := fun H1 e Q q =>
  ha H1 e _ fun p H2 hp e2 h2 => hb H2 (e.trans e2) _ fun H3 e3 => ⟨p, b, xs, ys, rfl, rfl, e3 _ _ h2, ((e.trans e2).trans e3) _ _ h, sz_of hz, fun l hl => q l _ (fresh_back (e2.trans e3) hl) ((e2.trans e3).trans (Ex.new hl)) upd_same⟩
theorem ev_bit {tt : TT} {σ : L2.St} {H : Hp} {b : Bool} (h : EvT tt σ H b) : Ev (tIf tt (tC (.int 1)) (tC (.int 0))) σ H (.int (Vamacf.bool b)) := ev_if h (fun c => by subst c; exact ev_c) (fun c => by subst c; exact ev_c)
theorem rising3_len (l : List Nat) : (rising3 l).length ≤ 3 := Nat.le_trans (List.length_filter_le _ _) (by rw [List.length_range]; exact Nat.le_refl _)
theorem nats_int (l : List Nat) : nats l = (l.map Vamacf.int).map V.int := by rw [List.map_map]; rfl
theorem ok_Desk_touches (t : T K mg) : FnOk P w K mg base CX0 11 t.d_Desk_touches.f t.d_Desk_touches.d ["self"] (spStep t 1 (RD0 .touches)) := by
  have G_fields_written := ok_fields_written (P := P) (w := w) (base := base) t
  have G_fields_read := ok_fields_read (P := P) (w := w) (base := base) t
  have G_rows_may_change := ok_rows_may_change (P := P) (w := w) (base := base) t
  have G_reads_old_clipboard := ok_reads_old_clipboard (P := P) (w := w) (base := base) t 4
  refine t.d_Desk_touches.F.ok sc_Desk_touches (fun vs H Q E h => h.1) (fun cdv A outer s H vs Q E hr h => ⟨_, (pss_cons (ps_set (i := 1) sc_Desk_touches.nd rfl (Or.inl rfl) (pe_fld (pv 0) rfl))
  (pss_cons (ps_set (i := 2) sc_Desk_touches.nd rfl (Or.inl rfl) (pcall t.d_fields_written G_fields_written (hr.mono (by omega)) rfl (pa_cons (pe_fld (pv 1) rfl) pa_nil)))
  (pss_cons (ps_set (i := 3) sc_Desk_touches.nd rfl (Or.inl rfl) (pcall t.d_fields_read G_fields_read (hr.mono (by omega)) rfl (pa_cons (pe_fld (pv 1) rfl) pa_nil)))
  (pss_cons (ps_set (i := 4) sc_Desk_touches.nd rfl (Or.inl rfl) (pe_ifExp (pt_val (pcall t.d_rows_may_change G_rows_may_change (hr.mono (by omega)) rfl (pa_cons (pe_fld (pv 1) rfl) pa_nil))) pe_int pe_int))
  (pss_cons (ps_set (i := 5) sc_Desk_touches.nd rfl (Or.inl rfl) (pe_ifExp (pt_val (pcall t.d_reads_old_clipboard G_reads_old_clipboard (hr.mono (by omega)) rfl (pa_cons (pe_fld (pv 1) rfl) (pa_cons pe_bl pa_nil)))) pe_int pe_int))
  (pss_one (ps_ret (pe_op op_cat (pe_op op_cat (pe_op op_cat (pe_op op_cat (pe_lst (pa_cons (pe_callB call_len_seq rfl t.z_len PySem.boot_len (pa_cons (pv 2) pa_nil)) pa_nil)) (pv 2)) (pe_lst (pa_cons (pe_callB call_len_seq rfl t.z_len PySem.boot_len (pa_cons (pv 3) pa_nil)) pa_nil))) (pv 3)) (pe_lst (pa_cons (pv 4) (pa_cons (pv 5) pa_nil))))))))))), ?_⟩)
  obtain ⟨_, N, d, p, c, ⟨rfl, rfl⟩, hd, k⟩ := h
  have k' := step_same hd rfl k
  obtain ⟨dx, a, h1, hpa⟩ := hd
  obtain ⟨⟨dp, ln, lr, lp, vr, vp, q1, q2, q3, q4, q5, q6, _⟩, ok⟩ := hpa.any
  obtain ⟨o1, o2, o3⟩ := okProg_parts ok
  have w3 : (nats (Vamacf.writes p)).length ≤ 3 := by
    rw [writes_rising p o1]
    unfold nats
    rw [List.length_map]
    exact rising3_len _
  have r3 : (nats (Vamacf.reads p)).length ≤ 3 := by
    rw [reads_rising p o1]
    unfold nats
    rw [List.length_map]
    exact rising3_len _
  have pc : ∀ {σ H'}, Ex H H' → Ev (tFld K (tVar 1) "pieces") (some (V.ref d) :: some (.ref a) :: σ) H' (.ref lp) := fun e => ev_fld (ev_var rfl) (e _ _ q1) t.k_Program.cl t.n_Program_pieces l_Program_pieces
  refine q_asg (ev_fld (ev_var rfl) h1 t.k_Desk.cl t.n_Desk_program l_Desk_program) fun H1 e1 => ?_
  refine q_asgL (el_call (ea_cons (pc e1) ea_nil) (spL_use rfl fun H2 e2 => ⟨lp, vp, p, rfl, (e1.trans e2) _ _ q4, q6.ex (e1.trans e2), ok, rfl⟩)) fun lw H2 _ e2 hw => ?_
  have e02 := e1.trans e2
  refine q_asgL (el_call (ea_cons (pc e02) ea_nil) (spL_use rfl fun H3 e3 => ⟨lp, vp, p, rfl, (e02.trans e3) _ _ q4, q6.ex (e02.trans e3), ok, rfl⟩)) fun lre H3 _ e3 hre => ?_
  have e03 := e02.trans e3
  refine q_asg (ev_bit (et_B (ev_call (ea_cons (pc e03) ea_nil) (spV_use (z := .bl (Vamacf.reshapes p)) rfl fun H4 e4 => ⟨lp, vp, p, rfl, (e03.trans e4) _ _ q4, q6.ex (e03.trans e4), ok, rfl⟩)))) fun H4 e4 => ?_
  have e04 := e03.trans e4
  refine q_asg (ev_bit (et_B (ev_call (ea_cons (ev_fld (ev_var rfl) (e04 _ _ q1) t.k_Program.cl t.n_Program_row l_Program_row) (ea_cons ev_c ea_nil)) (spV_use (z := .bl (oldL (rowL p) false)) rfl fun H5 e5 => ⟨lr, vr, p, false, rfl, (e04.trans e5) _ _ q3, q5.ex (e04.trans e5), o2, by omega, o3, rfl⟩)))) fun H5 e5 => ?_
  have e05 := e04.trans e5
  have e25 := (e3.trans e4).trans e5
  have e35 := e4.trans e5
  refine s_retL (el_catLL (el_catLV (el_catLL (el_catLV (el_lst (ea_cons (ev_len (ev_var rfl) (.of (e25 _ _ hw))) ea_nil) (by show 1 ≤ 100000; decide)) (ev_var rfl) (e25 _ _ hw) (by show 1 + _ ≤ _; omega))
    (el_lst (ea_cons (ev_len (ev_var rfl) (.of (e35 _ _ hre))) ea_nil) (by show 1 ≤ 100000; decide)) (by rw [List.length_append]; show 1 + _ + 1 ≤ _; omega)) (ev_var rfl) (e35 _ _ hre) (by rw [List.length_append, List.length_append]; show 1 + _ + 1 + _ ≤ _; omega))
    (el_lst (ea_cons (ev_var rfl) (ea_cons (ev_var rfl) ea_nil)) (by show 2 ≤ 100000; decide)) (by rw [List.length_append, List.length_append, List.length_append]; show 1 + _ + 1 + _ + 2 ≤ _; omega)) fun l H6 hl e6 h => k' l H6 (fresh_back e05 hl) (e05.trans e6) ?_
  rw [h]
  congr 2
  rw [nats_int, nats_int, List.length_map, List.length_map, ← clip_old]
  simp only [List.map_append, List.append_assoc, List.length_map]
  rfl
theorem ok_Desk_allowed (t : T K mg) : FnOk P w K mg base CX0 7 t.d_Desk_allowed.f t.d_Desk_allowed.d ["self", "rows", "numbers"] (spStep t 3 fun vs H c d => ∃ rw na ns, vs = [.ref d, .int rw, .ref na] ∧ SqL K H na (ns.map V.int) ∧ ns.length ≤ 100000 ∧ c = .allowed rw ns) := by
  have G_read_fields := ok_read_fields (P := P) (w := w) (base := base) t
  have G_is_against := ok_is_against (P := P) (w := w) (base := base) t
  refine t.d_Desk_allowed.F.ok sc_Desk_allowed (fun vs H Q E h => h.1) (fun cdv A outer s H vs Q E hr h => ⟨_, (pss_cons (ps_if (pt_cmpR op_notIn_seq (pv 1) (pe_tup (pa_cons pe_int (pa_cons pe_int pa_nil))) (by rfl)) (pss_one (ps_ret (pe_lst (pa_cons (pe_un un_neg pe_int) pa_nil)))) pss_nil)
  (pss_cons (ps_try_only rfl rfl ⟨rfl, by decide, Or.inl t.x_NotWhole.g⟩ takes0 (fun W pn xe tk _ => (pss_one (ps_set (i := 3) sc_Desk_allowed.nd rfl (Or.inl rfl) (pcallS t.d_read_fields G_read_fields (hr.mono (by omega)) rfl tk (pa_cons (pv 2) pa_nil))))) (fun _ _ _ _ _ _ _ => (pss_one (ps_ret (pe_lst (pa_cons (pe_un un_neg pe_int) pa_nil))))))
  (pss_cons (ps_for PassesOwn.never rfl (pi_enum rfl t.z_enumerate (pa_cons (pe_fld (pe_fld (pv 0) rfl) rfl) pa_nil)) (pg_tup rfl (pgs_cons (pg_name (i := 4) sc_Desk_allowed.nd rfl (Or.inl rfl)) (pgs_cons (pg_name (i := 5) sc_Desk_allowed.nd rfl (Or.inl rfl)) pgs_nil))) (pss_one (ps_if (pt_val (pcall t.d_is_against G_is_against (hr.mono (by omega)) rfl (pa_cons (pv 5) (pa_cons (pv 1) (pa_cons (pv 3) pa_nil))))) (pss_one (ps_ret (pe_lst (pa_cons pe_int (pa_cons (pv 4) pa_nil))))) pss_nil)))
  (pss_one (ps_ret (pe_lst (pa_cons pe_int pa_nil))))))), ?_⟩)
  obtain ⟨_, N, d, p, c, ⟨rw', na, ns, rfl, hq, hsz, rfl⟩, hd, k⟩ := h
  obtain ⟨dx, a, h1, hpa⟩ := id hd
  obtain ⟨⟨dp, ln, lr, lp, vr, vp, q1, q2, q3, q4, q5, q6, _⟩, ok⟩ := hpa.any
  obtain ⟨o1, o2, o3⟩ := okProg_parts ok
  have es : Vamacf.step ⟨p⟩ (.allowed rw' ns) = (⟨p⟩, match VamacBase.whole fieldsM ns, VamacBase.readNat 0 1 [rw'] with
      | some fs, some q => (match Vamacf.outside fs (q.1 == 1) 0 p with
        | none => [1]
        | some k => [0, Vamacf.int k])
      | _, _ => [-1]) := rfl
  refine q_when (b := !decide (rw' ∈ ([0, 1] : List Int))) (et_test (ev_is (ev_niU (ev_var rfl) (eu_tup (ea_cons ev_c (ea_cons ev_c ea_nil)) (by decide)) rfl rfl) (congrArg V.bl (congrArg (!·) (inV_ints rw' [0, 1]))))) (fun c H1 e1 => ?_) (fun c H1 e1 => ?_)
  · have c' : ¬ rw' ∈ ([0, 1] : List Int) := by simpa using c
    have er : VamacBase.readNat 0 1 [rw'] = none := by
      show (if VamacBase.int 0 ≤ rw' ∧ rw' ≤ VamacBase.int 1 then _ else none) = none
      rw [if_neg]
      unfold VamacBase.int
      intro z
      simp only [List.mem_cons, List.not_mem_nil, or_false] at c'
      omega
    have es' : Vamacf.step ⟨p⟩ (.allowed rw' ns) = (⟨p⟩, [-1]) := by
      rw [es, er]
      cases VamacBase.whole fieldsM ns <;> rfl
    exact s_retL (el_lst (ea_cons (ev_un ev_c ru_neg) ea_nil) (by decide)) fun l H3 hl e3 h => step_same hd es' k l H3 (fresh_back e1 hl) (e1.trans e3) h
  have c' : rw' = 0 ∨ rw' = 1 := by
    simp at c
    omega
  refine ⟨_, rfl, na, ns, rfl, ex_l e1 hq, hsz, fun e H2 e2 => ⟨true, t.x_NotWhole.e, fun _ _ _ => ?_, fun q => Bool.noConfusion q⟩, fun fs e H2 fl e2 hfl0 hfl => ?_⟩
  · have es' : Vamacf.step ⟨p⟩ (.allowed rw' ns) = (⟨p⟩, [-1]) := by
      rw [es, e]
    exact s_retL (el_lst (ea_cons (ev_un ev_c ru_neg) ea_nil) (by decide)) fun l H3 hl e3 h => step_same hd es' k l H3 (fresh_back (e1.trans e2) hl) ((e1.trans e2).trans e3) h
  have e12 := e1.trans e2
  have es' : Vamacf.step ⟨p⟩ (.allowed rw' ns) = (⟨p⟩, match firstAt (isOutside fs (decide (rw' = 1))) 0 (pre p) with
        | none => [1]
        | some k => [0, Vamacf.int k]) := by
    rw [es, e, ← outside_pre]
    rcases c' with rfl | rfl <;> rfl
  have k' := step_same hd es' k
  refine q_enum (ev_fld (ev_fld (ev_var rfl) (e12 _ _ h1) t.k_Desk.cl t.n_Desk_program l_Desk_program) (e12 _ _ q1) t.k_Program.cl t.n_Program_pieces l_Program_pieces) (e12 _ _ q4) (q6.ex e12).paired
    (fun i σ' => ∃ nv pv, σ' = [some (.ref d), some (.int rw'), some (.ref na), some (.ref fl), nv, pv] ∧ ∀ j, j < i → ∀ y, (pre p)[j]? = some y → isOutside fs (decide (rw' = 1)) y = false) ⟨none, none, rfl, fun j hj => absurd hj (Nat.not_lt_zero _)⟩ ?_ ?_
  · rintro i x pv σ' H' e' hx ⟨b, rfl, hpc⟩ ⟨_, _, rfl, hm⟩
    refine s_when (b := isOutside fs (decide (rw' = 1)) x) (et_B (ev_call (ea_cons (ev_var rfl) (ea_cons (ev_var rfl) (ea_cons (ev_var rfl) ea_nil))) (spV_use rfl fun H3 e3 => ⟨b, x, rw', fl, fs, rfl, PcR.ex e3 ⟨b, rfl, hpc⟩, (e'.trans e3) _ _ hfl, c', rfl⟩))) (fun c H3 e3 => ?_) (fun c H3 e3 => ⟨e'.trans e3, _, _, rfl, fun j hj y hy => ?_⟩)
    · rw [firstAt_hit _ _ 0 i x hx c hm, Nat.zero_add] at k'
      exact s_retL (el_lst (ea_cons ev_c (ea_cons (ev_var rfl) ea_nil)) (by show 2 ≤ 100000; decide)) fun l H4 hl e4 h => k' l H4 (fresh_back (e12.trans (e'.trans e3)) hl) ((e12.trans (e'.trans e3)).trans e4) h
    · rcases Nat.lt_succ_iff_lt_or_eq.mp hj with hj | rfl
      · exact hm j hj y hy
      · rw [hx] at hy
        cases hy
        exact c
  · rintro σ' H' e' ⟨nv, pv, rfl, hm⟩
    rw [firstAt_miss _ _ 0 fun x hx => by
      obtain ⟨j, hj, e⟩ := List.getElem_of_mem hx
      exact hm j hj x (by rw [List.getElem?_eq_getElem hj, e])] at k'
    exact s_retL (el_lst (ea_cons ev_c ea_nil) (by decide)) fun l H4 hl e4 h => k' l H4 (fresh_back (e12.trans e') hl) ((e12.trans e').trans e4) h
end
end G
/-! Tables in the heap. -/
namespace G
open PySem PySem.Spec PyProof.Rows L2 Evl My
section
variable {X : Cx}
theorem u65 {k : Nat} {A : Around} (r : Room k A) : A.units + 65 < cLine := by
  have := r.un
  omega
/-- o.f, its reading over a K that stands outside -/
theorem pe_fldK (K0 : PySem.W.Frag) {X : Cx} {o : Expr} {ta : TE} {f : Str} {pos : Pos} (he : PE X o ta) (hb : attributeBase o f X.env (eval o X.env) = eval o X.env) (hK : X.K = K0 := by rfl) : PE X (.Attribute o f pos) (tFld K0 ta f) := by
  subst hK
  exact pe_fld he hb
/-- x in ((..), ..), data at any depth -/
def rInTD (K : PySem.W.Frag) : R2 := fun x y H Q => ∃ d ds, Dp K H x d ∧ Dp K H y (.tuple ds) ∧ SeqAt.shaped d = true ∧ SeqAt.shaped (.tuple ds) = true ∧ Q (.bl (ds.any fun z => PyData.eqv z d)) H
theorem op_inTD (hu : X.A.units + 65 < cLine) : OpR X (compareOp .In) (rInTD X.K) := fun pins s σ H x y v u Q I rx ry h => by
  obtain ⟨d, ds, g1, g2, g3, g4, q⟩ := h
  exact (Dp.reads I d x v g1 rx).elim fun _ r1 => (Dp.reads I (.tuple ds) y u g2 ry).elim fun _ r2 =>
    SeqAt.in_tuple_reads r2 r1 (SeqAt.canLay_of_shaped g4) (SeqAt.canLay_of_shaped g3) (room_in_shaped g3 hu) ⟨.bl _, H, I, rfl, q⟩
end
section
variable {K : PySem.W.Frag} {mg : Str → Option Value} {P : Program} {w : World} {base : Heap}
/-- all stands that M doesn't name -/
def Keep (M : Addr → Prop) (H H' : Hp) : Prop := ∀ b o, H b = some o → ¬ M b → H' b = some o
theorem Keep.of {M : Addr → Prop} {H H' : Hp} (e : Ex H H') : Keep M H H' := fun b o h _ => e b o h
theorem Keep.refl (M : Addr → Prop) (H : Hp) : Keep M H H := fun _ _ h _ => h
theorem Keep.trans {M : Addr → Prop} {H H1 H2 : Hp} (a : Keep M H H1) (b : Keep (Or0 M H) H1 H2) : Keep M H H2 := fun c o h n => b c o (a c o h n) fun z => z.elim n fun z => by rw [h] at z; cases z
theorem Keep.upd {M : Addr → Prop} {H H' : Hp} {a : Addr} {o : HO} (k : Keep M H H') (m : Or0 M H a) : Keep M H (L2.upd H' a o) := fun c u h n => by
  rw [upd_ne (by rintro rfl; exact m.elim n fun z => by rw [h] at z; cases z)]
  exact k c u h n
theorem or0_back {M : Addr → Prop} {H H1 : Hp} (k : Keep M H H1) {b : Addr} (h : Or0 (Or0 M H) H1 b) : Or0 M H b := by
  rcases h with h | h
  · exact h
  · by_cases m : M b
    · exact .inl m
    · cases q : H b with
      | none => exact .inr q
      | some o => rw [k b o q m] at h; cases h
theorem Keep.ex {M : Addr → Prop} {H H1 H2 : Hp} (a : Keep M H H1) (b : Ex H1 H2) : Keep M H H2 := fun c o h n => b _ _ (a c o h n)
/-- a table's rows -/
def RowsAt (N : Addr → Prop) (H : Hp) (rs : List Addr) (rows : List (List Int)) : Prop := Paired (fun r row => N r ∧ H r = some (.lst (row.map V.int))) rs rows
theorem RowsAt.mono {N N' : Addr → Prop} {H H' : Hp} {rs : List Addr} {rows : List (List Int)} (k : ∀ b l, N b → H b = some (.lst l) → H' b = some (.lst l)) (n : ∀ b, N b → N' b) (h : RowsAt N H rs rows) : RowsAt N' H' rs rows := paired_mono (fun r row q => ⟨n _ q.1, k _ _ q.1 q.2⟩) h
structure TabAt (t : T K mg) (N : Addr → Prop) (H : Hp) (a : Addr) (tb : VamacBase.Table) : Prop where
  at_ : ∃ (dx lr : Addr) (rs : List Addr), H a = some (.ins t.k_Table.C dx (fs_Table (.ref lr) (.int (tb.at_ : Nat)) (.int tb.clip))) ∧ H lr = some (.lst (rs.map V.ref)) ∧ RowsAt N H rs tb.rows ∧ rs.Nodup ∧ N a ∧ N lr ∧ lr ∉ rs
  ok : VamacBase.okTable tb = true
theorem TabAt.mono {t : T K mg} {N N' : Addr → Prop} {H H' : Hp} {a : Addr} {tb : VamacBase.Table} (k : ∀ b o, N b → H b = some o → H' b = some o) (n : ∀ b, N b → N' b) (h : TabAt t N H a tb) : TabAt t N' H' a tb := by
  obtain ⟨⟨dx, lr, rs, h1, h2, h3, h4, h5, h6, h7⟩, ok⟩ := h
  exact ⟨⟨dx, lr, rs, k _ _ h5 h1, k _ _ h6 h2, h3.mono (fun b l z q => k b _ z q) n, h4, n _ h5, n _ h6, h7⟩, ok⟩
theorem TabAt.mono2 {t : T K mg} {N N' : Addr → Prop} {H H' : Hp} {a : Addr} {tb : VamacBase.Table} (k : ∀ b o, N b → H b = some o → H' b = some o) (n : ∀ b o, N b → H b = some o → N' b) (h : TabAt t N H a tb) : TabAt t N' H' a tb := by
  obtain ⟨⟨dx, lr, rs, h1, h2, h3, h4, h5, h6, h7⟩, ok⟩ := h
  exact ⟨⟨dx, lr, rs, k _ _ h5 h1, k _ _ h6 h2, paired_mono (fun r row q => ⟨n _ _ q.1 q.2, k _ _ q.1 q.2⟩) h3, h4, n _ _ h5 h1, n _ _ h6 h2, h7⟩, ok⟩
theorem TabAt.ex {t : T K mg} {N : Addr → Prop} {H H' : Hp} {a : Addr} {tb : VamacBase.Table} (e : Ex H H') (h : TabAt t N H a tb) : TabAt t N H' a tb := h.mono (fun b o _ q => e b o q) fun _ z => z
theorem RowsAt.len {N : Addr → Prop} {H : Hp} {rs : List Addr} {rows : List (List Int)} (h : RowsAt N H rs rows) : rs.length = rows.length := Paired.length h
/-! ### has_row_here -/
def RHas (t : T K mg) : List V → Hp → V → Prop := fun vs H z => ∃ a N tb, vs = [.ref a] ∧ TabAt t N H a tb ∧ z = .bl (decide (tb.at_ < tb.rows.length))
theorem ok_Table_init (t : T K mg) : FnOk P w K mg base CX0 1 t.d_Table_init.f t.d_Table_init.d ["self", "rows", "cursor", "clipboard"] (spI 4 t.k_Table.C fun r => match r with | [n, l, p] => fs_Table n l p | _ => []) := by
  refine t.d_Table_init.F.ok sc_Table_init (fun vs H Q E h => h.1) (fun cdv A outer s H vs Q E hr h => ⟨_, (pss_cons (ps_fld (pv 0) (pv 1) rfl)
  (pss_cons (ps_fld (pv 0) (pv 2) rfl)
  (pss_one (ps_fld (pv 0) (pv 3) rfl)))), ?_⟩)
  obtain ⟨hl, x, dx, r, rfl, h1, q⟩ := h
  match r, hl with
  | [n, l, p], _ =>
    refine ⟨_, rfl, _, rfl, x, _, dx, [], rfl, h1, t.k_Table.cl, t.n_Table_rows, (by show 0 < 1000; decide), ?_⟩
    refine ⟨_, rfl, _, rfl, x, _, dx, _, rfl, upd_same, t.k_Table.cl, t.n_Table_cursor, (by show 1 < 1000; decide), ?_⟩
    refine ⟨_, rfl, _, rfl, x, _, dx, _, rfl, upd_same, t.k_Table.cl, t.n_Table_clipboard, (by show 2 < 1000; decide), ?_⟩
    rw [upd_upd, upd_upd, w_Table]
    exact q
theorem int_lt_nat (a b : Nat) : decide ((a : Int) < (b : Int)) = decide (a < b) := by
  by_cases c : a < b
  · rw [decide_eq_true c, decide_eq_true (by omega)]
  · rw [decide_eq_false c, decide_eq_false (by omega)]
theorem ok_Table_has_row_here (t : T K mg) : FnOk P w K mg base CX0 1 t.d_Table_has_row_here.f t.d_Table_has_row_here.d ["self"] (spV 1 (RHas t)) := by
  refine t.d_Table_has_row_here.F.ok sc_Table_has_row_here (fun vs H Q E h => h.1) (fun cdv A outer s H vs Q E hr h => ⟨_, (pss_one (ps_ret (pe_cmpR op_lt (pe_fld (pv 0) rfl) (pe_callB call_len_seq rfl t.z_len PySem.boot_len (pa_cons (pe_fld (pv 0) rfl) pa_nil)) (nomark _)))), ?_⟩)
  obtain ⟨_, z, ⟨a, N, tb, rfl, ⟨⟨dx, lr, rs, h1, h2, h3, h4, h5, h6, h7⟩, ok⟩, rfl⟩, q⟩ := h
  refine s_ret (ev_is (ev_op (ev_fld (ev_var rfl) h1 t.k_Table.cl t.n_Table_cursor l_Table_cursor) (ev_len (ev_fld (ev_var rfl) h1 t.k_Table.cl t.n_Table_rows l_Table_rows) (.of h2)) rv_I0) (congrArg V.bl ?_)) q
  rw [List.length_map, h3.len]
  exact int_lt_nat _ _
end
end G
/-! Deeds done. -/
namespace G
open PySem PySem.Spec PyProof.Rows L2 Evl My
section
variable {K : PySem.W.Frag} {mg : Str → Option Value} {P : Program} {w : World} {base : Heap}
theorem RowsAt.updI {N : Addr → Prop} {H : Hp} {rs : List Addr} {rows : List (List Int)} {a C dx : Addr} {fs : List (Str × V)} {u : HO} (h : RowsAt N H rs rows) (o : H a = some (.ins C dx fs)) : RowsAt N (L2.upd H a u) rs rows :=
  h.mono (fun b l _ q => by
    rw [upd_ne (by rintro rfl; rw [o] at q; cases q)]
    exact q) fun _ z => z
/-- the table's object, with another cursor or clipboard -/
theorem TabAt.put {t : T K mg} {N : Addr → Prop} {H : Hp} {a dx lr : Addr} {rs : List Addr} {tb : VamacBase.Table} {i : Nat} {c : Int} (h1 : H a = some (.ins t.k_Table.C dx (fs_Table (.ref lr) (.int (tb.at_ : Nat)) (.int tb.clip)))) (h2 : H lr = some (.lst (rs.map V.ref))) (h3 : RowsAt N H rs tb.rows)
    (h4 : rs.Nodup) (h5 : N a) (h6 : N lr) (h7 : lr ∉ rs) (ok : VamacBase.okTable { tb with at_ := i, clip := c } = true) : TabAt t N (L2.upd H a (.ins t.k_Table.C dx (fs_Table (.ref lr) (.int (i : Nat)) (.int c)))) a { tb with at_ := i, clip := c } :=
  ⟨⟨dx, lr, rs, upd_same, by rw [upd_ne (by rintro rfl; rw [h1] at h2; cases h2)]; exact h2, h3.updI h1, h4, h5, h6, h7⟩, ok⟩
/-- a deed done on the table: what it answers, the table then -/
def spDo (t : T K mg) (n : Nat) (R : List V → Hp → Addr → VamacBase.Table → Int × VamacBase.Table → Prop) : Sp := fun vs H Q _ => vs.length = n ∧ ∃ M ta tb r, R vs H ta tb r ∧ TabAt t M H ta tb ∧ ∀ H', Keep M H H' → TabAt t (Or0 M H) H' ta r.2 → Q (.int r.1) H'
theorem TabAt.or0 {t : T K mg} {M : Addr → Prop} {H H' : Hp} {a : Addr} {tb : VamacBase.Table} (h : TabAt t M H' a tb) : TabAt t (Or0 M H) H' a tb := h.mono (fun _ _ _ z => z) fun _ z => .inl z
theorem ok_go_up (t : T K mg) : FnOk P w K mg base CX0 1 t.d_go_up.f t.d_go_up.d ["table"] (spDo t 1 fun vs _ ta tb r => vs = [.ref ta] ∧ r = codeOf tb (VamacBase.doneBy tb .up)) := by
  refine t.d_go_up.F.ok sc_go_up (fun vs H Q E h => h.1) (fun cdv A outer s H vs Q E hr h => ⟨_, (pss_cons (ps_if (pt_cmpR op_eq (pe_fld (pv 0) rfl) pe_int (nomark _)) (pss_one (ps_ret (pe_cst rfl t.c_AT_FIRST_ROW))) pss_nil)
  (pss_cons (ps_fld (pv 0) (pe_op op_sub (pe_fld (pv 0) rfl) pe_int) rfl)
  (pss_one (ps_ret (pe_cst rfl t.c_WELL))))), ?_⟩)
  obtain ⟨_, M, ta, tb, r, ⟨rfl, rfl⟩, hT, k⟩ := h
  obtain ⟨⟨dx, lr, rs, h1, h2, h3, h4, h5, h6, h7⟩, ok⟩ := id hT
  have cur : ∀ {H'}, Ex H H' → Ev (tFld K (tVar 0) "cursor") [some (V.ref ta)] H' (.int (tb.at_ : Nat)) := fun e => ev_fld (ev_var rfl) (e _ _ h1) t.k_Table.cl t.n_Table_cursor l_Table_cursor
  refine q_when (b := decide (V.int (tb.at_ : Nat) = V.int 0)) (et_test (ev_op (cur (Ex.refl H)) ev_c (rv_eq rfl))) (fun c H1 e1 => ?_) (fun c H1 e1 => ?_)
  · have c' : tb.at_ = 0 := by have := V.int.inj (of_decide_eq_true c); omega
    have e : VamacBase.doneBy tb .up = .error .first := by simp only [VamacBase.doneBy, if_pos c']
    rw [e] at k
    exact k H1 (.of e1) (hT.ex e1).or0
  · have c' : tb.at_ ≠ 0 := fun z => of_decide_eq_false c (by rw [z]; rfl)
    have e : VamacBase.doneBy tb .up = .ok { tb with at_ := tb.at_ - 1 } := by simp only [VamacBase.doneBy, if_neg c']
    have ok' := ok_doneBy .up ok e
    rw [e] at k
    refine s_fld (D := _) (v := .int ((tb.at_ - 1 : Nat) : Int)) (ev_is (ev_op (cur e1) ev_c rv_I0) (congrArg V.int (by omega))) (ev_var rfl) (e1 _ _ h1) t.k_Table.cl t.n_Table_cursor (by show 3 < 1000; decide) fun H2 e2 => ?_
    rw [p_Table_cursor]
    have e02 := e1.trans e2
    exact k _ ((Keep.of e02).upd (.inl h5)) (TabAt.put (e02 _ _ h1) (e02 _ _ h2) (h3.mono (fun b l _ q => e02 _ _ q) fun _ z => z) h4 h5 h6 h7 ok').or0
/-! ### find -/
theorem RowsAt.get {N : Addr → Prop} {H : Hp} {rs : List Addr} {rows : List (List Int)} {i : Nat} (h : RowsAt N H rs rows) (hi : i < rows.length) : ∃ r, rs[i]? = some r ∧ N r ∧ H r = some (.lst (rows[i].map V.int)) := by
  have hl := h.len
  have h1 : rs[i]? = some rs[i] := List.getElem?_eq_getElem (by omega)
  obtain ⟨row, q1, q2, q3⟩ := paired_get h h1
  rw [List.getElem?_eq_getElem hi] at q1
  cases q1
  exact ⟨_, h1, q2, q3⟩
theorem ok_find_below (t : T K mg) : FnOk P w K mg base CX0 1 t.d_find_below.f t.d_find_below.d ["table", "field", "value"] (spDo t 3 fun vs _ ta tb r => ∃ f v, vs = [.ref ta, .int (f : Nat), .int v] ∧ f < 3 ∧ r = codeOf tb (VamacBase.doneBy tb (.find f v))) := by
  refine t.d_find_below.F.ok sc_find_below (fun vs H Q E h => h.1) (fun cdv A outer s H vs Q E hr h => ⟨_, (pss_cons (ps_for PassesOwn.never rfl (pi_range2 rfl t.z_range (pa_cons (pe_op op_add (pe_fld (pv 0) rfl) pe_int) (pa_cons (pe_callB call_len_seq rfl t.z_len PySem.boot_len (pa_cons (pe_fld (pv 0) rfl) pa_nil)) pa_nil))) (pg_name (i := 3) sc_find_below.nd rfl (Or.inl rfl)) (pss_one (ps_if (pt_cmpR op_eq (pe_ix ix_list (pe_ix ix_list (pe_fld (pv 0) rfl) (pv 3) (fun _ _ => rfl)) (pv 1) (fun _ _ => rfl)) (pv 2) (nomark _)) (pss_cons (ps_fld (pv 0) (pv 3) rfl)
  (pss_one (ps_ret (pe_cst rfl t.c_WELL)))) pss_nil)))
  (pss_one (ps_ret (pe_cst rfl t.c_NONE_FOUND)))), ?_⟩)
  obtain ⟨_, M, ta, tb, r, ⟨f, v, rfl, hf, rfl⟩, hT, k⟩ := h
  obtain ⟨⟨dx, lr, rs, h1, h2, h3, h4, h5, h6, h7⟩, ok⟩ := id hT
  obtain ⟨k1, k2, k3, _⟩ := okTable_parts ok
  have rw_ : ∀ {σ H'}, Ex H H' → Ev (tFld K (tVar 0) "rows") (some (V.ref ta) :: σ) H' (.ref lr) := fun e => ev_fld (ev_var rfl) (e _ _ h1) t.k_Table.cl t.n_Table_rows l_Table_rows
  refine q_forR2 (lo := ((tb.at_ + 1 : Nat) : Int)) (n := ((tb.rows.length : Nat) : Int)) (ea_cons (ev_is (ev_op (ev_fld (ev_var rfl) h1 t.k_Table.cl t.n_Table_cursor l_Table_cursor) ev_c rv_I0) (congrArg V.int (by omega))) (ea_cons (ev_is (ev_len (rw_ (Ex.refl H)) (.of h2)) (by rw [List.length_map, h3.len])) ea_nil)) ⟨by omega, by omega, by omega, by omega⟩
    (fun i σ' H' => Ex H H' ∧ (∃ pv, σ' = [some (.ref ta), some (.int (f : Nat)), some (.int v), pv]) ∧ ∀ j, j < tb.at_ + 1 + i → hits tb f v j = false) (fun H1 e1 => ⟨e1, ⟨none, rfl⟩, fun j hj => hits_low (by omega)⟩) ?_ ?_
  · rintro i σ' H' hi ⟨e', ⟨pv, rfl⟩, hm⟩
    have hi' : tb.at_ + 1 + i < tb.rows.length := by omega
    obtain ⟨ra, q1, q2, q3⟩ := h3.get hi'
    have hr3 : tb.rows[tb.at_ + 1 + i].length = 3 := (k2 _ (List.getElem_mem hi')).1
    have ev : ((tb.at_ + 1 : Nat) : Int) + (i : Int) = ((tb.at_ + 1 + i : Nat) : Int) := by omega
    rw [ev]
    have hh := hits_at (t := tb) (f := f) (v := v) (j := tb.at_ + 1 + i) (by omega) (List.getElem?_eq_getElem hi') (by omega)
    refine s_when (b := decide (V.int (tb.rows[tb.at_ + 1 + i][f]'(by omega)) = V.int v)) (et_test (ev_op (ev_op (ev_op (rw_ e') (ev_var rfl) (rv_ixL (v := .ref ra) (.of (e' _ _ h2)) (atI_nat (by rw [List.getElem?_map, q1]; rfl)))) (ev_var rfl) (rv_ixL (.of (e' _ _ q3)) (atI_nat (by rw [List.getElem?_map, List.getElem?_eq_getElem (by omega)]; rfl)))) (ev_var rfl) (rv_eq rfl))) (fun c H1 e1 => ?_) (fun c H1 e1 => ?_)
    · have c' := V.int.inj (of_decide_eq_true c)
      have hd := find_hit hi' (by rw [hh]; exact decide_eq_true c') hm
      have ok' := ok_doneBy (.find f v) ok hd
      rw [hd] at k
      have e01 := e'.trans e1
      refine s_fld (D := _) (ev_var rfl) (ev_var rfl) (e01 _ _ h1) t.k_Table.cl t.n_Table_cursor (by show 3 < 1000; decide) fun H2 e2 => ?_
      rw [p_Table_cursor]
      have e02 := e01.trans e2
      exact k _ ((Keep.of e02).upd (.inl h5)) (TabAt.put (e02 _ _ h1) (e02 _ _ h2) (h3.mono (fun b l _ q => e02 _ _ q) fun _ z => z) h4 h5 h6 h7 ok').or0
    · have c' : ¬ tb.rows[tb.at_ + 1 + i][f]'(by omega) = v := fun z => of_decide_eq_false c (congrArg V.int z)
      refine ⟨e'.trans e1, ⟨_, rfl⟩, fun j hj => ?_⟩
      rcases Nat.lt_succ_iff_lt_or_eq.mp (show j < (tb.at_ + 1 + i) + 1 by omega) with hj | rfl
      · exact hm j hj
      · rw [hh]
        exact decide_eq_false c'
  · rintro σ' H' ⟨e', ⟨pv, rfl⟩, hm⟩
    rw [find_miss fun j hj => hm j (by omega)] at k
    exact k H' (.of e') (hT.ex e').or0
/-! ### a value put into a field -/
def spPut (K : PySem.W.Frag) : Sp := fun vs H Q _ => ∃ (r : Addr) (f : Nat) (v : Int) (row : List Int), vs = [.ref r, .int (f : Nat), .int v] ∧ H r = some (.lst (row.map V.int)) ∧ f < row.length ∧ (VamacBase.okValue v = false → ∀ H', Ex H H' → Q (.int 3) H') ∧
  (VamacBase.okValue v = true → ∀ H', Ex H H' → Q (.int 0) (L2.upd H' r (.lst ((row.set f v).map V.int))))
theorem ok_put_value (t : T K mg) : FnOk P w K mg base CX0 1 t.d_put_value.f t.d_put_value.d ["row", "field", "value"] (spPut K) := by
  refine t.d_put_value.F.ok sc_put_value (fun vs H Q E h => by obtain ⟨r, f, v, row, rfl, _⟩ := h; rfl) (fun cdv A outer s H vs Q E hr h => ⟨_, (pss_cons (ps_if (PW.pt (pw_or (pt_cmpR op_lt (pv 2) (pe_un un_neg (pe_cst rfl t.c_FARTHEST_VALUE)) (nomark _)) (pw_or1 (pt_cmpR op_gt (pv 2) (pe_cst rfl t.c_FARTHEST_VALUE) (nomark _))))) (pss_one (ps_ret (pe_cst rfl t.c_VALUE_BEYOND))) pss_nil)
  (pss_cons (ps_asg (pv 2) (pg_sub (pv 0) (pv 1) set_list))
  (pss_one (ps_ret (pe_cst rfl t.c_WELL))))), ?_⟩)
  obtain ⟨r, f, v, row, rfl, ho, hf, k1, k2⟩ := h
  refine q_when (b := decide (v < -999) || decide (999 < v)) (et_or2 (et_test (ev_op (ev_var rfl) (ev_un ev_c ru_neg) rv_I0)) (et_test (ev_op (ev_var rfl) ev_c rv_I0))) (fun c H1 e1 => ?_) (fun c H1 e1 => ?_)
  · refine k1 ?_ H1 e1
    rw [Bool.or_eq_true, decide_eq_true_eq, decide_eq_true_eq] at c
    cases z : VamacBase.okValue v with
    | false => rfl
    | true =>
      rw [okValue_iff] at z
      omega
  · rw [Bool.or_eq_false_iff, decide_eq_false_iff_not, decide_eq_false_iff_not] at c
    refine q_setL (xs := row.map V.int) (j := f) (e1 _ _ ho) (ev_var (v := .int v) rfl) (ev_var rfl) (ev_var rfl) (by rw [List.length_map]; exact hf) fun H2 e2 => ?_
    have := k2 (okValue_iff.mpr (by omega)) H2 (e1.trans e2)
    rw [List.map_set] at this
    exact this
end
end G
/-! Deeds done with the row here. -/
namespace G
open PySem PySem.Spec PyProof.Rows L2 Evl My
section
variable {K : PySem.W.Frag} {mg : Str → Option Value} {P : Program} {w : World} {base : Heap}
theorem q_asgN {C a dx : Addr} {m : Str} {fs : List (Str × V)} {sp : Sp} {E : XK} {to : TE} {ta : TA} {i : Nat} {tz : TS} {D : Ends} {σ : L2.St} {H : Hp} {vs : List V} (ho : Ev to σ H (.ref a)) (o : H a = some (.ins C dx fs)) (l : fs.lookup m = none)
    (ha : EvA ta σ H vs) (k : ∀ H1, Ex H H1 → sp (.ref a :: (vs ++ [])) H1 (fun v H2 => tz D (σ.set i (some v)) H2) E) : tSeq (tAsg (tMeth C m sp [] E to ta) (gName i)) tz D σ H :=
  ho H (Ex.refl H) _ fun H1 e1 => ⟨a, dx, fs, rfl, e1 a _ o, l, ha H1 e1 _ fun H2 e2 => k H2 (e1.trans e2)⟩
theorem s_retN {C a dx : Addr} {m : Str} {fs : List (Str × V)} {sp : Sp} {E : XK} {to : TE} {ta : TA} {D : Ends} {σ : L2.St} {H : Hp} {vs : List V} (ho : Ev to σ H (.ref a)) (o : H a = some (.ins C dx fs)) (l : fs.lookup m = none)
    (ha : EvA ta σ H vs) (k : ∀ H1, Ex H H1 → sp (.ref a :: (vs ++ [])) H1 D.rt E) : tRet (tMeth C m sp [] E to ta) D σ H :=
  ho H (Ex.refl H) _ fun H1 e1 => ⟨a, dx, fs, rfl, e1 a _ o, l, ha H1 e1 _ fun H2 e2 => k H2 (e1.trans e2)⟩
theorem q_asgC {sp : Sp} {E : XK} {ta : TA} {i : Nat} {tz : TS} {D : Ends} {σ : L2.St} {H : Hp} {vs : List V} (ha : EvA ta σ H vs) (k : ∀ H1, Ex H H1 → sp (vs ++ []) H1 (fun v H2 => tz D (σ.set i (some v)) H2) E) :
    tSeq (tAsg (tCall sp [] E ta) (gName i)) tz D σ H := ha H (Ex.refl H) _ fun H1 e1 => k H1 e1
theorem s_retC {sp : Sp} {E : XK} {ta : TA} {D : Ends} {σ : L2.St} {H : Hp} {vs : List V} (ha : EvA ta σ H vs) (k : ∀ H1, Ex H H1 → sp (vs ++ []) H1 D.rt E) : tRet (tCall sp [] E ta) D σ H := ha H (Ex.refl H) _ fun H1 e1 => k H1 e1
/-! lists changed at a place -/
theorem seq_nat {n j : Nat} (h : j < n) : seqIndex? ((j : Nat) : Int) n = some j := by
  have e : (if ((j : Nat) : Int) < 0 then ((j : Nat) : Int) + (n : Int) else ((j : Nat) : Int)) = ((j : Nat) : Int) := if_neg (by omega)
  unfold seqIndex?
  dsimp only
  rw [e, if_pos (by rw [Bool.and_eq_true, decide_eq_true_eq, decide_eq_true_eq]; omega), Int.toNat_natCast]
theorem s_popAt {ta te : TE} {σ : L2.St} {H : Hp} {D : Ends} {l : Addr} {xs : List V} {j : Nat} (hl : H l = some (.lst xs)) (ha : Ev ta σ H (.ref l)) (hi : Ev te σ H (.int (j : Nat))) (hj : j < xs.length) (hz : xs.length < 100000)
    (k : ∀ H1, Ex H H1 → D.nx σ (L2.upd H1 l (.lst (xs.eraseIdx j)))) : tDrop (tBM K "list" rPopAt ta (tCons te tNil)) D σ H := ha H (Ex.refl H) _ fun H1 e1 =>
  ⟨.inl ⟨rfl, xs, .of (e1 _ _ hl)⟩, hi H1 e1 _ fun H2 e2 => ⟨l, xs, _, j, _, rfl, rfl, e2 _ _ (e1 _ _ hl), by omega, by omega, seq_nat hj, List.getElem?_eq_getElem hj, k H2 (e1.trans e2)⟩⟩
theorem s_insL {ta ti te : TE} {σ : L2.St} {H : Hp} {D : Ends} {l : Addr} {xs ys : List V} {j : Nat} (hl : H l = some (.lst xs)) (ha : Ev ta σ H (.ref l)) (hi : Ev ti σ H (.int (j : Nat))) (h : EvL te σ H ys) (hz : xs.length < 100000) (hj : j < 100000)
    (k : ∀ p H1, H p = none → Ex H H1 → H1 p = some (.lst ys) → D.nx σ (L2.upd H1 l (.lst (xs.take j ++ [.ref p] ++ xs.drop j)))) :
    tDrop (tBM K "list" (fun x vs H Q => ∃ (l : Addr) (xs : List V) (i : Int) (y : V), x = .ref l ∧ vs = [.int i, y] ∧ H l = some (.lst xs) ∧ xs.length < sizeLine ∧ 0 ≤ i ∧ i < 2 ^ 63 ∧ Q .non (L2.upd H l (.lst (xs.take i.toNat ++ [y] ++ xs.drop i.toNat)))) ta (tCons ti (tCons te tNil))) D σ H :=
  ha H (Ex.refl H) _ fun H1 e1 => ⟨.inl ⟨rfl, xs, .of (e1 _ _ hl)⟩, hi H1 e1 _ fun H2 e2 => h H2 (e1.trans e2) _ fun p H3 hp e3 h3 =>
    ⟨l, xs, _, .ref p, rfl, rfl, e3 _ _ (e2 _ _ (e1 _ _ hl)), sz_lt hz, by omega, by omega, by rw [Int.toNat_natCast]; exact k p H3 (fresh_back (e1.trans e2) hp) ((e1.trans e2).trans e3) h3⟩⟩
/-! rows changed -/
theorem RowsAt.frame {N N' : Addr → Prop} {H H' : Hp} : ∀ {rs : List Addr} {rows : List (List Int)}, (∀ b ∈ rs, ∀ l, H b = some (.lst l) → H' b = some (.lst l)) → (∀ b ∈ rs, N b → N' b) → RowsAt N H rs rows → RowsAt N' H' rs rows
  | _, _, _, _, .nil => .nil
  | _, _, k, n, .cons q t => .cons ⟨n _ List.mem_cons_self q.1, k _ List.mem_cons_self _ q.2⟩ (RowsAt.frame (fun b hb => k b (List.mem_cons_of_mem _ hb)) (fun b hb => n b (List.mem_cons_of_mem _ hb)) t)
theorem RowsAt.set {N : Addr → Prop} {H : Hp} {r : Addr} {new : List Int} : ∀ {rs : List Addr} {rows : List (List Int)} {k : Nat}, RowsAt N H rs rows → rs.Nodup → rs[k]? = some r → RowsAt N (L2.upd H r (.lst (new.map V.int))) rs (rows.set k new)
  | _, _, _, .nil, _, h => by simp at h
  | r0 :: rs, _, 0, .cons q t, nd, h => by
    obtain rfl : r0 = r := Option.some.inj h
    refine .cons ⟨q.1, upd_same⟩ (RowsAt.frame (fun b hb l z => ?_) (fun _ _ z => z) t)
    rw [upd_ne (by rintro rfl; exact (List.nodup_cons.mp nd).1 hb)]
    exact z
  | r0 :: rs, _, k + 1, .cons q t, nd, h => by
    have h' : rs[k]? = some r := by simpa using h
    refine .cons ⟨q.1, ?_⟩ (RowsAt.set t (List.nodup_cons.mp nd).2 h')
    rw [upd_ne (by rintro rfl; exact (List.nodup_cons.mp nd).1 (List.mem_of_getElem? h'))]
    exact q.2
theorem paired_erase {α β : Type} {R : α → β → Prop} : ∀ {l : List α} {m : List β} {k : Nat}, Paired R l m → Paired R (l.eraseIdx k) (m.eraseIdx k)
  | _, _, _, .nil => .nil
  | _, _, 0, .cons r t => t
  | _, _, k + 1, .cons r t => .cons r (paired_erase t)
theorem paired_take {α β : Type} {R : α → β → Prop} : ∀ {l : List α} {m : List β} {k : Nat}, Paired R l m → Paired R (l.take k) (m.take k)
  | _, _, 0, _ => .nil
  | _, _, _, .nil => by simp only [List.take_nil]; exact .nil
  | _, _, k + 1, .cons r t => .cons r (paired_take t)
theorem paired_drop {α β : Type} {R : α → β → Prop} : ∀ {l : List α} {m : List β} {k : Nat}, Paired R l m → Paired R (l.drop k) (m.drop k)
  | _, _, 0, h => h
  | _, _, k + 1, .nil => .nil
  | _, _, k + 1, .cons r t => paired_drop (k := k) t
/-- the table behind another value in the row here -/
theorem TabAt.row {t : T K mg} {M : Addr → Prop} {H H1 : Hp} {a dx lr ra : Addr} {rs : List Addr} {tb : VamacBase.Table} {new : List Int} {i : Nat} (e : Ex H H1) (h1 : H a = some (.ins t.k_Table.C dx (fs_Table (.ref lr) (.int (tb.at_ : Nat)) (.int tb.clip)))) (h2 : H lr = some (.lst (rs.map V.ref)))
    (h3 : RowsAt M H rs tb.rows) (h4 : rs.Nodup) (h5 : M a) (h6 : M lr) (h7 : lr ∉ rs) (hr : rs[i]? = some ra) (ho : ∃ l, H ra = some (.lst l)) (ok : VamacBase.okTable { tb with rows := tb.rows.set i new } = true) :
    TabAt t M (L2.upd H1 ra (.lst (new.map V.int))) a { tb with rows := tb.rows.set i new } := by
  obtain ⟨l, ho⟩ := ho
  refine ⟨⟨dx, lr, rs, ?_, ?_, (h3.mono (fun b l _ q => e _ _ q) fun _ z => z).set h4 hr, h4, h5, h6, h7⟩, ok⟩
  · rw [upd_ne (by rintro rfl; rw [h1] at ho; cases ho)]
    exact e _ _ h1
  · rw [upd_ne (by rintro rfl; exact h7 (List.mem_of_getElem? hr))]
    exact e _ _ h2
theorem written_code {t : VamacBase.Table} {f : Nat} {v : Int} (h : t.at_ < t.rows.length) : codeOf t (VamacBase.written t f v) = if VamacBase.okValue v = true then (0, { t with rows := t.rows.set t.at_ (t.rows[t.at_].set f v) }) else (3, t) := by
  unfold VamacBase.written
  rw [isEnd_false h, if_neg (by decide)]
  split
  · rw [setHere_some (List.getElem?_eq_getElem h)]
    rfl
  · rfl
def RWith (t : T K mg) (ks : List Int) : List V → Hp → Addr → VamacBase.Table → Int × VamacBase.Table → Prop := fun vs H ta tb r => ∃ da d s v, vs = [.ref ta, .ref da, .int v] ∧ DeedAt t H da d s ∧ kindOf d ∈ ks ∧ okFld d = true ∧ tb.at_ < tb.rows.length ∧ r = codeOf tb (VamacBase.doneBy tb (VamacBase.withNumber v d))
theorem okField_lt {f : Nat} (h : VamacBase.okField f = true) : f < 3 := of_decide_eq_true h
theorem ok_do_with_field (t : T K mg) : FnOk P w K mg base CX0 2 t.d_do_with_field.f t.d_do_with_field.d ["table", "deed", "value"] (spDo t 3 (RWith t [3, 4, 5, 6])) := by
  have G_put_value := ok_put_value (P := P) (w := w) (base := base) t
  refine t.d_do_with_field.F.ok sc_do_with_field (fun vs H Q E h => h.1) (fun cdv A outer s H vs Q E hr h => ⟨_, (pss_cons (ps_set (i := 3) sc_do_with_field.nd rfl (Or.inl rfl) (pe_ix ix_list (pe_fld (pv 0) rfl) (pe_fld (pv 0) rfl) (fun _ _ => rfl)))
  (pss_cons (ps_if (pt_cmpR op_eq (pe_fld (pv 1) rfl) (pe_cst rfl t.c_WRITE) (nomark _)) (pss_one (ps_ret (pcall t.d_put_value G_put_value (hr.mono (by omega)) rfl (pa_cons (pv 3) (pa_cons (pe_fld (pv 1) rfl) (pa_cons (pv 2) pa_nil)))))) pss_nil)
  (pss_cons (ps_if (pt_cmpR op_eq (pe_fld (pv 1) rfl) (pe_cst rfl t.c_ADD) (nomark _)) (pss_one (ps_ret (pcall t.d_put_value G_put_value (hr.mono (by omega)) rfl (pa_cons (pv 3) (pa_cons (pe_fld (pv 1) rfl) (pa_cons (pe_op op_add (pe_ix ix_list (pv 3) (pe_fld (pv 1) rfl) (fun _ _ => rfl)) (pv 2)) pa_nil)))))) pss_nil)
  (pss_cut (ps_if (pt_cmpR op_eq (pe_fld (pv 1) rfl) (pe_cst rfl t.c_COPY) (nomark _)) (pss_one (ps_fld (pv 0) (pe_ix ix_list (pv 3) (pe_fld (pv 1) rfl) (fun _ _ => rfl)) rfl)) (pss_one (ps_asg (pe_fld (pv 0) rfl) (pg_sub (pv 3) (pe_fld (pv 1) rfl) set_list))))
  (pss_one (ps_ret (pe_cst rfl t.c_WELL))))))), ?_⟩)
  obtain ⟨_, M, ta, tb, r, ⟨da, d, s, v, rfl, ⟨dd, hd⟩, hk, hf, hlt, rfl⟩, hT, k⟩ := h
  obtain ⟨⟨dx, lr, rs, h1, h2, h3, h4, h5, h6, h7⟩, ok⟩ := id hT
  obtain ⟨k1, k2, k3, kc⟩ := okTable_parts ok
  obtain ⟨ra, q1, q2, q3⟩ := h3.get hlt
  have hr3 : tb.rows[tb.at_].length = 3 := (k2 _ (List.getElem_mem hlt)).1
  have kd : ∀ {σ H'}, Ex H H' → Ev (tFld K (tVar 1) "kind") (some (V.ref ta) :: some (V.ref da) :: σ) H' (.int (kindOf d)) := fun e => ev_fld (ev_var rfl) (e _ _ hd) t.k_Deed.cl t.n_Deed_kind l_Deed_kind
  have fd : ∀ {σ H'}, Ex H H' → Ev (tFld K (tVar 1) "field") (some (V.ref ta) :: some (V.ref da) :: σ) H' (.int (fieldOf d : Nat)) := fun e => ev_fld (ev_var rfl) (e _ _ hd) t.k_Deed.cl t.n_Deed_field l_Deed_field
  have cell : ∀ {σ H'} {f : Nat} (hf3 : f < 3), Ex H H' → fieldOf d = f → Ev (tOp (rIxL K) (tVar 3) (tFld K (tVar 1) "field")) (some (V.ref ta) :: some (V.ref da) :: some (V.int v) :: some (V.ref ra) :: σ) H' (.int (tb.rows[tb.at_][f]'(by omega))) := fun hf3 e ef => by
    subst ef
    exact ev_op (ev_var rfl) (fd e) (rv_ixL (.of (e _ _ q3)) (atI_nat (by rw [List.getElem?_map, List.getElem?_eq_getElem (by omega)]; rfl)))
  -- a value put: what follows of the promise
  have fin : ∀ {H1 : Hp} {f : Nat} {u : Int} {E'}, Ex H H1 → f < 3 → VamacBase.doneBy tb (VamacBase.withNumber v d) = VamacBase.written tb f u → spPut K [.ref ra, .int (f : Nat), .int u] H1 Q E' := fun {H1 f u E'} e1 hf3 ew => by
    rw [ew, written_code hlt] at k
    refine ⟨ra, f, u, tb.rows[tb.at_], rfl, e1 _ _ q3, by omega, fun ov H2 e2 => ?_, fun ov H2 e2 => ?_⟩
    · rw [if_neg (by rw [ov]; decide)] at k
      exact k H2 (.of (e1.trans e2)) (hT.ex (e1.trans e2)).or0
    · rw [if_pos ov] at k
      exact k _ ((Keep.of (e1.trans e2)).upd (.inl q2)) (TabAt.row (e1.trans e2) h1 h2 h3 h4 h5 h6 h7 q1 ⟨_, q3⟩ (ok_set ok (List.getElem?_eq_getElem hlt) ov)).or0
  refine q_asg (v := .ref ra) (ev_op (ev_fld (ev_var rfl) h1 t.k_Table.cl t.n_Table_rows l_Table_rows) (ev_fld (ev_var rfl) h1 t.k_Table.cl t.n_Table_cursor l_Table_cursor) (rv_ixL (.of h2) (atI_nat (by rw [List.getElem?_map, q1]; rfl)))) fun H1 e1 => ?_
  refine q_when (b := decide (V.int (kindOf d) = V.int 3)) (et_test (ev_op (kd e1) ev_c (rv_eq rfl))) (fun c H2 e2 => ?_) (fun c3 H2 e2 => ?_)
  · have c' := V.int.inj (of_decide_eq_true c)
    cases d with
    | write f u => exact s_retC (ea_cons (ev_var rfl) (ea_cons (fd (e1.trans e2)) (ea_cons (ev_var rfl) ea_nil))) fun H3 e3 => fin ((e1.trans e2).trans e3) (okField_lt hf) rfl
    | _ => exact absurd c' (by simp [My.kindOf])
  refine q_when (b := decide (V.int (kindOf d) = V.int 4)) (et_test (ev_op (kd (e1.trans e2)) ev_c (rv_eq rfl))) (fun c H3 e3 => ?_) (fun c4 H3 e3 => ?_)
  · have c' := V.int.inj (of_decide_eq_true c)
    have e13 := (e1.trans e2).trans e3
    cases d with
    | add f u =>
      have hf3 := okField_lt hf
      refine s_retC (ea_cons (ev_var rfl) (ea_cons (fd e13) (ea_cons (ev_op (cell hf3 e13 rfl) (ev_var rfl) rv_I0) ea_nil))) fun H4 e4 => fin (e13.trans e4) hf3 ?_
      show VamacBase.written tb f (((VamacBase.here tb f).getD 0) + v) = _
      rw [here_some (List.getElem?_eq_getElem hlt) (by omega)]
      rfl
    | _ => exact absurd c' (by simp [My.kindOf])
  have e13 := (e1.trans e2).trans e3
  refine q_cut (M := fun σ' H' => (codeOf tb (VamacBase.doneBy tb (VamacBase.withNumber v d))).1 = 0 ∧ Keep M H H' ∧ TabAt t (Or0 M H) H' ta (codeOf tb (VamacBase.doneBy tb (VamacBase.withNumber v d))).2) ?_ fun σ' H' ⟨m1, m2, m3⟩ => ?_
  · refine s_if (b := decide (V.int (kindOf d) = V.int 5)) (et_test (ev_op (kd e13) ev_c (rv_eq rfl))) (fun c H4 e4 => ?_) (fun c5 H4 e4 => ?_)
    · have c' := V.int.inj (of_decide_eq_true c)
      have e14 := e13.trans e4
      cases d with
      | copy f =>
        have hf3 := okField_lt hf
        have ed : VamacBase.doneBy tb (.copy f) = .ok { tb with clip := tb.rows[tb.at_][f]'(by omega) } := by
          simp only [VamacBase.doneBy, here_some (List.getElem?_eq_getElem hlt) (show f < tb.rows[tb.at_].length by omega)]
        have ok' := ok_doneBy (.copy f) ok ed
        refine s_fld (cell hf3 e14 rfl) (ev_var rfl) (e14 _ _ h1) t.k_Table.cl t.n_Table_clipboard (by show 3 < 1000; decide) fun H5 e5 => ?_
        rw [p_Table_clipboard]
        have e15 := e14.trans e5
        show (codeOf tb (VamacBase.doneBy tb (.copy f))).1 = 0 ∧ _ ∧ TabAt t _ _ ta (codeOf tb (VamacBase.doneBy tb (.copy f))).2
        rw [ed]
        exact ⟨rfl, (Keep.of e15).upd (.inl h5), (TabAt.put (e15 _ _ h1) (e15 _ _ h2) (h3.mono (fun b l _ q => e15 _ _ q) fun _ z => z) h4 h5 h6 h7 ok').or0⟩
      | _ => exact absurd c' (by simp [My.kindOf])
    · have e14 := e13.trans e4
      cases d with
      | paste f =>
        have hf3 := okField_lt hf
        have ed : codeOf tb (VamacBase.doneBy tb (.paste f)) = (0, { tb with rows := tb.rows.set tb.at_ (tb.rows[tb.at_].set f tb.clip) }) := by
          show codeOf tb (VamacBase.written tb f tb.clip) = _
          rw [written_code hlt, if_pos kc]
        refine s_setL (xs := tb.rows[tb.at_].map V.int) (j := f) (e14 _ _ q3) (ev_fld (v := .int tb.clip) (ev_var rfl) (e14 _ _ h1) t.k_Table.cl t.n_Table_clipboard l_Table_clipboard) (ev_var rfl) (fd e14) (by rw [List.length_map]; omega) fun H5 e5 => ?_
        have e15 := e14.trans e5
        show (codeOf tb (VamacBase.doneBy tb (.paste f))).1 = 0 ∧ _ ∧ TabAt t _ _ ta (codeOf tb (VamacBase.doneBy tb (.paste f))).2
        rw [ed, ← List.map_set]
        exact ⟨rfl, (Keep.of e15).upd (.inl q2), (TabAt.row e15 h1 h2 h3 h4 h5 h6 h7 q1 ⟨_, q3⟩ (ok_set ok (List.getElem?_eq_getElem hlt) kc)).or0⟩
      | write f u => exact absurd rfl (of_decide_eq_false c3)
      | add f u => exact absurd rfl (of_decide_eq_false c4)
      | copy f => exact absurd rfl (of_decide_eq_false c5)
      | _ => exact absurd hk (by simp [My.kindOf])
  · have := k H' m2 m3
    rw [m1] at this
    exact this
end
end G
/-! Deeds with rows; any deed. -/
namespace G
open PySem PySem.Spec PyProof.Rows L2 Evl My
section
variable {K : PySem.W.Frag} {mg : Str → Option Value} {P : Program} {w : World} {base : Heap}
def RRowDeed (t : T K mg) : List V → Hp → Addr → VamacBase.Table → Int × VamacBase.Table → Prop := fun vs H ta tb r => ∃ da d s, vs = [.ref ta, .ref da] ∧ DeedAt t H da d s ∧ kindOf d ∈ ([0, 7, 8] : List Int) ∧ tb.at_ < tb.rows.length ∧ r = codeOf tb (VamacBase.doneBy tb d)
theorem map_erase {α β : Type} (f : α → β) : ∀ (l : List α) (k : Nat), (l.map f).eraseIdx k = (l.eraseIdx k).map f
  | [], _ => rfl
  | _ :: _, 0 => rfl
  | x :: l, k + 1 => congrArg (f x :: ·) (map_erase f l k)
theorem RowsAt.ex {N : Addr → Prop} {H H' : Hp} {rs : List Addr} {rows : List (List Int)} (e : Ex H H') (h : RowsAt N H rs rows) : RowsAt N H' rs rows := h.mono (fun b l _ q => e _ _ q) fun _ z => z
theorem ok_do_with_row (t : T K mg) : FnOk P w K mg base CX0 1 t.d_do_with_row.f t.d_do_with_row.d ["table", "deed"] (spDo t 2 (RRowDeed t)) := by
  refine t.d_do_with_row.F.ok sc_do_with_row (fun vs H Q E h => h.1) (fun cdv A outer s H vs Q E hr h => ⟨_, (pss_cut (ps_if (pt_cmpR op_eq (pe_fld (pv 1) rfl) (pe_cst rfl t.c_DOWN) (nomark _)) (pss_one (ps_fld (pv 0) (pe_op op_add (pe_fld (pv 0) rfl) pe_int) rfl)) (pss_one (ps_if (pt_cmpR op_eq (pe_fld (pv 1) rfl) (pe_cst rfl t.c_DELETE) (nomark _)) (pss_one (ps_expr (pe_bm PySem.F.plainAttrs_list PySem.F.slot_list_pop PySem.F.type_list_pop mt_popAt (pe_fld (pv 0) rfl) (pa_cons (pe_fld (pv 0) rfl) pa_nil)))) (pss_one (ps_if (pt_cmpR op_eq (pe_fld (pv 1) rfl) (pe_cst rfl t.c_DOUBLE) (nomark _)) (pss_cons (ps_if (pt_cmpR op_eq (pe_callB call_len_seq rfl t.z_len PySem.boot_len (pa_cons (pe_fld (pv 0) rfl) pa_nil)) (pe_cst rfl t.c_MOST_ROWS) (nomark _)) (pss_one (ps_ret (pe_cst rfl t.c_NO_ROOM))) pss_nil)
  (pss_one (ps_expr (pe_bm PySem.F.plainAttrs_list PySem.F.slot_list_insert PySem.F.type_list_insert mt_insert (pe_fld (pv 0) rfl) (pa_cons (pe_op op_add (pe_fld (pv 0) rfl) pe_int) (pa_cons (pe_callTy call_list_of rfl t.z_list (by decide +kernel) (pa_cons (pe_ix ix_list (pe_fld (pv 0) rfl) (pe_fld (pv 0) rfl) (fun _ _ => rfl)) pa_nil)) pa_nil)))))) pss_nil)))))
  (pss_one (ps_ret (pe_cst rfl t.c_WELL)))), ?_⟩)
  obtain ⟨_, M, ta, tb, r, ⟨da, d, s, rfl, ⟨dd, hd⟩, hk, hlt, rfl⟩, hT, k⟩ := h
  obtain ⟨⟨dx, lr, rs, h1, h2, h3, h4, h5, h6, h7⟩, ok⟩ := id hT
  obtain ⟨k1, k2, k3, kc⟩ := okTable_parts ok
  have hl := h3.len
  have kd : ∀ {σ H'}, Ex H H' → Ev (tFld K (tVar 1) "kind") (some (V.ref ta) :: some (V.ref da) :: σ) H' (.int (kindOf d)) := fun e => ev_fld (ev_var rfl) (e _ _ hd) t.k_Deed.cl t.n_Deed_kind l_Deed_kind
  have cur : ∀ {σ H'}, Ex H H' → Ev (tFld K (tVar 0) "cursor") (some (V.ref ta) :: σ) H' (.int (tb.at_ : Nat)) := fun e => ev_fld (ev_var rfl) (e _ _ h1) t.k_Table.cl t.n_Table_cursor l_Table_cursor
  have rws : ∀ {σ H'}, Ex H H' → Ev (tFld K (tVar 0) "rows") (some (V.ref ta) :: σ) H' (.ref lr) := fun e => ev_fld (ev_var rfl) (e _ _ h1) t.k_Table.cl t.n_Table_rows l_Table_rows
  have nta : lr ≠ ta := by
    rintro rfl
    rw [h1] at h2
    cases h2
  refine q_cut (M := fun σ' H' => (codeOf tb (VamacBase.doneBy tb d)).1 = 0 ∧ Keep M H H' ∧ TabAt t (Or0 M H) H' ta (codeOf tb (VamacBase.doneBy tb d)).2) ?_ fun σ' H' ⟨m1, m2, m3⟩ => (by
    have := k H' m2 m3
    rw [m1] at this
    exact this)
  refine s_if (b := decide (V.int (kindOf d) = V.int 0)) (et_test (ev_op (kd (Ex.refl H)) ev_c (rv_eq rfl))) (fun c H1 e1 => ?_) (fun c0 H1 e1 => ?_)
  · have c' := V.int.inj (of_decide_eq_true c)
    cases d with
    | down =>
      have ed : VamacBase.doneBy tb .down = .ok { tb with at_ := tb.at_ + 1 } := by simp only [VamacBase.doneBy, isEnd_false hlt]; rfl
      have ok' := ok_doneBy .down ok ed
      refine s_fld (v := .int ((tb.at_ + 1 : Nat) : Int)) (ev_is (ev_op (cur e1) ev_c rv_I0) (congrArg V.int (by omega))) (ev_var rfl) (e1 _ _ h1) t.k_Table.cl t.n_Table_cursor (by show 3 < 1000; decide) fun H2 e2 => ?_
      rw [p_Table_cursor]
      have e02 := e1.trans e2
      rw [ed]
      exact ⟨rfl, (Keep.of e02).upd (.inl h5), (TabAt.put (e02 _ _ h1) (e02 _ _ h2) (h3.ex e02) h4 h5 h6 h7 ok').or0⟩
    | _ => exact absurd c' (by simp [My.kindOf])
  refine s_if (b := decide (V.int (kindOf d) = V.int 7)) (et_test (ev_op (kd e1) ev_c (rv_eq rfl))) (fun c H2 e2 => ?_) (fun c7 H2 e2 => ?_)
  · have c' := V.int.inj (of_decide_eq_true c)
    have e12 := e1.trans e2
    cases d with
    | delete =>
      have ed : VamacBase.doneBy tb .delete = .ok { tb with rows := tb.rows.eraseIdx tb.at_ } := by simp only [VamacBase.doneBy, isEnd_false hlt]; rfl
      have ok' := ok_doneBy .delete ok ed
      refine s_popAt (e12 _ _ h2) (rws e12) (cur e12) (by rw [List.length_map]; omega) (by rw [List.length_map]; omega) fun H3 e3 => ?_
      have e03 := e12.trans e3
      rw [ed, map_erase]
      refine ⟨rfl, (Keep.of e03).upd (.inl h6), TabAt.or0 ⟨⟨dx, lr, rs.eraseIdx tb.at_, ?_, upd_same, ?_, (List.eraseIdx_sublist rs _).nodup h4, h5, h6, fun z => h7 (List.mem_of_mem_eraseIdx z)⟩, ok'⟩⟩
      · rw [upd_ne (Ne.symm nta)]
        exact e03 _ _ h1
      · refine paired_erase (RowsAt.frame (H := H) (fun b hb l z => ?_) (fun _ _ z => z) h3)
        rw [upd_ne (by rintro rfl; exact h7 hb)]
        exact e03 _ _ z
    | _ => exact absurd c' (by simp [My.kindOf])
  have e12 := e1.trans e2
  refine s_when (b := decide (V.int (kindOf d) = V.int 8)) (et_test (ev_op (kd e12) ev_c (rv_eq rfl))) (fun c H3 e3 => ?_) (fun c8 H3 e3 => ?_)
  · have c' := V.int.inj (of_decide_eq_true c)
    have e13 := e12.trans e3
    cases d with
    | double =>
      refine q_when (b := decide (V.int ((rs.map V.ref).length : Nat) = V.int 8)) (et_test (ev_op (ev_len (rws e13) (.of (e13 _ _ h2))) ev_c (rv_eq rfl))) (fun c H4 e4 => ?_) (fun c H4 e4 => ?_)
      · have c' := V.int.inj (of_decide_eq_true c)
        rw [List.length_map, hl] at c'
        have ed : VamacBase.doneBy tb .double = .error .full := by
          simp only [VamacBase.doneBy, isEnd_false hlt]
          rw [if_neg (by decide), if_pos (by unfold VamacBase.ROWS; omega)]
        rw [ed] at k
        exact k H4 (.of (e13.trans e4)) (hT.ex (e13.trans e4)).or0
      · have c' : ¬ tb.rows.length = 8 := fun z => of_decide_eq_false c (by rw [List.length_map, hl, z]; rfl)
        have ed : VamacBase.doneBy tb .double = .ok { tb with rows := tb.rows.take (tb.at_ + 1) ++ tb.rows.drop tb.at_ } := by
          simp only [VamacBase.doneBy, isEnd_false hlt]
          rw [if_neg (by decide), if_neg (by unfold VamacBase.ROWS; omega)]
        have ok' := ok_doneBy .double ok ed
        have e14 := e13.trans e4
        obtain ⟨ra, q1, q2, q3⟩ := h3.get hlt
        refine s_insL (j := tb.at_ + 1) (e14 _ _ h2) (rws e14) (ev_is (ev_op (cur e14) ev_c rv_I0) (congrArg V.int (by omega))) (el_list (ev_op (rws e14) (cur e14) (rv_ixL (v := .ref ra) (.of (e14 _ _ h2)) (atI_nat (by rw [List.getElem?_map, q1]; rfl)))) (.of (e14 _ _ q3))) (by rw [List.length_map]; omega) (by omega) fun p H5 hp e5 hp5 => ?_
        have e05 := e14.trans e5
        have hp0 : H p = none := fresh_back e14 hp
        rw [ed]
        have np : p ∉ rs := fun z => by
          obtain ⟨i, hi⟩ := List.getElem?_of_mem z
          obtain ⟨row, _, _, q⟩ := paired_get h3 hi
          rw [hp0] at q
          cases q
        have nlr : p ≠ lr := by
          rintro rfl
          rw [hp0] at h2
          cases h2
        have em : (rs.map V.ref).take (tb.at_ + 1) ++ [V.ref p] ++ (rs.map V.ref).drop (tb.at_ + 1) = (rs.take (tb.at_ + 1) ++ p :: rs.drop (tb.at_ + 1)).map V.ref := by
          rw [List.map_append, List.map_cons, List.map_take, List.map_drop, List.append_assoc]
          rfl
        have er : tb.rows.drop tb.at_ = tb.rows[tb.at_] :: tb.rows.drop (tb.at_ + 1) := List.drop_eq_getElem_cons hlt
        have nd : (rs.take (tb.at_ + 1) ++ p :: rs.drop (tb.at_ + 1)).Nodup := by
          have h4' := h4
          rw [← List.take_append_drop (tb.at_ + 1) rs] at h4'
          have np' := np
          rw [← List.take_append_drop (tb.at_ + 1) rs, List.mem_append] at np'
          rw [List.nodup_append] at h4' ⊢
          obtain ⟨n1, n2, n3⟩ := h4'
          refine ⟨n1, List.nodup_cons.mpr ⟨fun z => np' (.inr z), n2⟩, fun a ha b hb => ?_⟩
          rcases List.mem_cons.mp hb with rfl | hb
          · rintro rfl
            exact np' (.inl ha)
          · exact n3 a ha b hb
        rw [em]
        refine ⟨rfl, (Keep.of e05).upd (.inl h6), ⟨dx, lr, rs.take (tb.at_ + 1) ++ p :: rs.drop (tb.at_ + 1), ?_, upd_same, ?_, nd, .inl h5, .inl h6, fun z => ?_⟩, ok'⟩
        · rw [upd_ne (Ne.symm nta)]
          exact e05 _ _ h1
        · have hk : RowsAt (Or0 M H) (L2.upd H5 lr (.lst ((rs.take (tb.at_ + 1) ++ p :: rs.drop (tb.at_ + 1)).map V.ref))) rs tb.rows := RowsAt.frame (H := H) (fun b hb l z => by
            rw [upd_ne (by rintro rfl; exact h7 hb)]
            exact e05 _ _ z) (fun _ _ z => .inl z) h3
          show RowsAt _ _ _ (tb.rows.take (tb.at_ + 1) ++ tb.rows.drop tb.at_)
          rw [er]
          refine paired_append (paired_take hk) (.cons ⟨.inr hp0, ?_⟩ (paired_drop hk))
          rw [upd_ne nlr]
          exact hp5
        · rcases List.mem_append.mp z with z | z
          · exact h7 (List.mem_of_mem_take z)
          · rcases List.mem_cons.mp z with rfl | z
            · exact nlr rfl
            · exact h7 (List.mem_of_mem_drop z)
    | _ => exact absurd c' (by simp [My.kindOf])
  · cases d with
    | down => exact absurd rfl (of_decide_eq_false c0)
    | delete => exact absurd rfl (of_decide_eq_false c7)
    | double => exact absurd rfl (of_decide_eq_false c8)
    | _ => exact absurd hk (by simp [My.kindOf])
/-! ### any deed -/
def RDeed (t : T K mg) : List V → Hp → Addr → VamacBase.Table → Int × VamacBase.Table → Prop := fun vs H ta tb r => ∃ da d s v, vs = [.ref ta, .ref da, .int v] ∧ DeedAt t H da d s ∧ okFld d = true ∧ r = codeOf tb (VamacBase.doneBy tb (VamacBase.withNumber v d))
theorem end_code {tb : VamacBase.Table} {d : VamacBase.Deed} (h : ¬ tb.at_ < tb.rows.length) (k1 : kindOf d ≠ 1) (k2 : kindOf d ≠ 2) (k9 : kindOf d ≠ 9) : codeOf tb (VamacBase.doneBy tb d) = (1, tb) := by
  have he : VamacBase.isEnd tb = true := isEnd_true (by omega)
  have hw : ∀ f v, codeOf tb (VamacBase.written tb f v) = (1, tb) := fun f v => by
    unfold VamacBase.written
    rw [if_pos he]
    rfl
  cases d with
  | up => exact absurd rfl k1
  | top => exact absurd rfl k2
  | find f v => exact absurd rfl k9
  | down => simp only [VamacBase.doneBy, if_pos he]; rfl
  | delete => simp only [VamacBase.doneBy, if_pos he]; rfl
  | double => simp only [VamacBase.doneBy, if_pos he]; rfl
  | write f v => exact hw f v
  | add f v => exact hw f _
  | paste f => exact hw f _
  | copy f =>
    have : VamacBase.here tb f = none := by
      unfold VamacBase.here
      rw [List.getElem?_eq_none (by omega)]
      rfl
    simp only [VamacBase.doneBy, this]
    rfl
theorem ok_do_deed (t : T K mg) : FnOk P w K mg base CX0 3 t.d_do_deed.f t.d_do_deed.d ["table", "deed", "value"] (spDo t 3 (RDeed t)) := by
  have G_go_up := ok_go_up (P := P) (w := w) (base := base) t
  have G_find_below := ok_find_below (P := P) (w := w) (base := base) t
  have G_do_with_field := ok_do_with_field (P := P) (w := w) (base := base) t
  have G_do_with_row := ok_do_with_row (P := P) (w := w) (base := base) t
  have G_Table_has_row_here := ok_Table_has_row_here (P := P) (w := w) (base := base) t
  refine t.d_do_deed.F.ok sc_do_deed (fun vs H Q E h => h.1) (fun cdv A outer s H vs Q E hr h => ⟨_, (pss_cons (ps_if (pt_cmpR op_eq (pe_fld (pv 1) rfl) (pe_cst rfl t.c_UP) (nomark _)) (pss_one (ps_ret (pcall t.d_go_up G_go_up (hr.mono (by omega)) rfl (pa_cons (pv 0) pa_nil)))) pss_nil)
  (pss_cons (ps_if (pt_cmpR op_eq (pe_fld (pv 1) rfl) (pe_cst rfl t.c_TOP) (nomark _)) (pss_cons (ps_fld (pv 0) pe_int rfl)
  (pss_one (ps_ret (pe_cst rfl t.c_WELL)))) pss_nil)
  (pss_cons (ps_if (pt_cmpR op_eq (pe_fld (pv 1) rfl) (pe_cst rfl t.c_FIND) (nomark _)) (pss_one (ps_ret (pcall t.d_find_below G_find_below (hr.mono (by omega)) rfl (pa_cons (pv 0) (pa_cons (pe_fld (pv 1) rfl) (pa_cons (pv 2) pa_nil)))))) pss_nil)
  (pss_cons (ps_if (pt_not (pt_val (pmeth0 (pv 0) t.k_Table.cl t.d_Table_has_row_here G_Table_has_row_here (hr.mono (by omega))))) (pss_one (ps_ret (pe_cst rfl t.c_NO_ROW_HERE))) pss_nil)
  (pss_cons (ps_if (pt_cmpR op_in_seq (pe_fld (pv 1) rfl) (pe_tup (pa_cons (pe_cst rfl t.c_WRITE) (pa_cons (pe_cst rfl t.c_ADD) (pa_cons (pe_cst rfl t.c_COPY) (pa_cons (pe_cst rfl t.c_PASTE) pa_nil))))) (by rfl)) (pss_one (ps_ret (pcall t.d_do_with_field G_do_with_field (hr.mono (by omega)) rfl (pa_cons (pv 0) (pa_cons (pv 1) (pa_cons (pv 2) pa_nil)))))) pss_nil)
  (pss_one (ps_ret (pcall t.d_do_with_row G_do_with_row (hr.mono (by omega)) rfl (pa_cons (pv 0) (pa_cons (pv 1) pa_nil)))))))))), ?_⟩)
  obtain ⟨_, M, ta, tb, r, ⟨da, d, s, v, rfl, hd', hf, rfl⟩, hT, k⟩ := h
  obtain ⟨dd, hd⟩ := id hd'
  obtain ⟨⟨dx, lr, rs, h1, h2, h3, h4, h5, h6, h7⟩, ok⟩ := id hT
  have kd : ∀ {σ H'}, Ex H H' → Ev (tFld K (tVar 1) "kind") (some (V.ref ta) :: some (V.ref da) :: σ) H' (.int (kindOf d)) := fun e => ev_fld (ev_var rfl) (e _ _ hd) t.k_Deed.cl t.n_Deed_kind l_Deed_kind
  -- a call that does it: the promise from where it is called
  have fin : ∀ {H1}, Ex H H1 → ∀ H', Keep M H1 H' → TabAt t (Or0 M H1) H' ta (codeOf tb (VamacBase.doneBy tb (VamacBase.withNumber v d))).2 → Q (.int (codeOf tb (VamacBase.doneBy tb (VamacBase.withNumber v d))).1) H' := fun {H1} e H' g1 g2 =>
    k H' (fun b o hb n => g1 b o (e _ _ hb) n) (g2.mono (fun _ _ _ z => z) fun b z => z.imp id (fresh_back e))
  refine q_when (b := decide (V.int (kindOf d) = V.int 1)) (et_test (ev_op (kd (Ex.refl H)) ev_c (rv_eq rfl))) (fun c H1 e1 => ?_) (fun c1 H1 e1 => ?_)
  · have c' := V.int.inj (of_decide_eq_true c)
    cases d with
    | up => exact s_retC (ea_cons (ev_var rfl) ea_nil) fun H2 e2 => ⟨rfl, M, ta, tb, _, ⟨rfl, rfl⟩, hT.ex (e1.trans e2), fin (e1.trans e2)⟩
    | _ => exact absurd c' (by simp [My.kindOf])
  refine q_when (b := decide (V.int (kindOf d) = V.int 2)) (et_test (ev_op (kd e1) ev_c (rv_eq rfl))) (fun c H2 e2 => ?_) (fun c2 H2 e2 => ?_)
  · have c' := V.int.inj (of_decide_eq_true c)
    have e12 := e1.trans e2
    cases d with
    | top =>
      have ok' := ok_doneBy (t' := { tb with at_ := 0 }) .top ok rfl
      refine s_fld (D := _) ev_c (ev_var rfl) (e12 _ _ h1) t.k_Table.cl t.n_Table_cursor (by show 3 < 1000; decide) fun H3 e3 => ?_
      rw [p_Table_cursor]
      have e03 := e12.trans e3
      exact k _ ((Keep.of e03).upd (.inl h5)) (TabAt.put (i := 0) (e03 _ _ h1) (e03 _ _ h2) (h3.ex e03) h4 h5 h6 h7 ok').or0
    | _ => exact absurd c' (by simp [My.kindOf])
  have e12 := e1.trans e2
  refine q_when (b := decide (V.int (kindOf d) = V.int 9)) (et_test (ev_op (kd e12) ev_c (rv_eq rfl))) (fun c H3 e3 => ?_) (fun c9 H3 e3 => ?_)
  · have c' := V.int.inj (of_decide_eq_true c)
    have e13 := e12.trans e3
    cases d with
    | find f u => exact s_retC (ea_cons (ev_var rfl) (ea_cons (ev_fld (v := .int (f : Nat)) (ev_var rfl) (e13 _ _ hd) t.k_Deed.cl t.n_Deed_field l_Deed_field) (ea_cons (ev_var rfl) ea_nil))) fun H4 e4 => ⟨rfl, M, ta, tb, _, ⟨f, v, rfl, okField_lt hf, rfl⟩, hT.ex (e13.trans e4), fin (e13.trans e4)⟩
    | _ => exact absurd c' (by simp [My.kindOf])
  have e13 := e12.trans e3
  have n1 : kindOf d ≠ 1 := fun z => of_decide_eq_false c1 (congrArg V.int z)
  have n2 : kindOf d ≠ 2 := fun z => of_decide_eq_false c2 (congrArg V.int z)
  have n9 : kindOf d ≠ 9 := fun z => of_decide_eq_false c9 (congrArg V.int z)
  refine q_when (b := !decide (tb.at_ < tb.rows.length)) (et_not (et_B (ev_meth (ev_var rfl) (e13 _ _ h1) m_Table_has_row_here ea_nil (spV_use rfl fun H4 e4 => ⟨ta, M, tb, rfl, hT.ex (e13.trans e4), rfl⟩)))) (fun c H4 e4 => ?_) (fun c H4 e4 => ?_)
  · have hlt : ¬ tb.at_ < tb.rows.length := by simpa using c
    rw [end_code hlt (by rw [kind_with]; exact n1) (by rw [kind_with]; exact n2) (by rw [kind_with]; exact n9)] at k
    exact k H4 (.of (e13.trans e4)) (hT.ex (e13.trans e4)).or0
  have hlt : tb.at_ < tb.rows.length := by simpa using c
  have e14 := e13.trans e4
  refine q_when (b := decide (kindOf d ∈ ([3, 4, 5, 6] : List Int))) (et_test (ev_is (ev_inU (kd e14) (eu_tup (ea_cons ev_c (ea_cons ev_c (ea_cons ev_c (ea_cons ev_c ea_nil)))) (by decide)) rfl rfl) (congrArg V.bl (inV_ints (kindOf d) [3, 4, 5, 6])))) (fun c H5 e5 => ?_) (fun c H5 e5 => ?_)
  · have c' := of_decide_eq_true c
    have e15 := e14.trans e5
    exact s_retC (ea_cons (ev_var rfl) (ea_cons (ev_var rfl) (ea_cons (ev_var rfl) ea_nil))) fun H6 e6 => ⟨rfl, M, ta, tb, _, ⟨da, d, s, v, rfl, ⟨dd, (e15.trans e6) _ _ hd⟩, c', hf, hlt, rfl⟩, hT.ex (e15.trans e6), fin (e15.trans e6)⟩
  · have c' : ¬ kindOf d ∈ ([3, 4, 5, 6] : List Int) := of_decide_eq_false c
    have e15 := e14.trans e5
    have hk : kindOf d ∈ ([0, 7, 8] : List Int) := by
      cases d <;> first | (exact absurd rfl n1) | (exact absurd rfl n2) | (exact absurd rfl n9) | (simp [My.kindOf] at c' ⊢; done)
    have hw : VamacBase.withNumber v d = d := by
      cases d <;> first | rfl | (exact absurd rfl n9) | (simp [My.kindOf] at c'; done)
    rw [hw] at fin
    exact s_retC (ea_cons (ev_var rfl) (ea_cons (ev_var rfl) ea_nil)) fun H6 e6 => ⟨rfl, M, ta, tb, _, ⟨da, d, s, rfl, ⟨dd, (e15.trans e6) _ _ hd⟩, hk, hlt, rfl⟩, hT.ex (e15.trans e6), fin (e15.trans e6)⟩
end
end G
/-! Runs: a deed counted; a part asked. -/
namespace G
open PySem PySem.Spec PyProof.Rows L2 Evl My
section
variable {K : PySem.W.Frag} {mg : Str → Option Value} {P : Program} {w : World} {base : Heap}
/-- a run's object: its table (apart from it), how many deeds it did; e: how it ended, as told so far -/
def RunAt (t : T K mg) (M : Addr → Prop) (H : Hp) (ra : Addr) (e : Int) (r : VamacBase.Run) : Prop :=
  (∃ dx ta, H ra = some (.ins t.k_Run.C dx (fs_Run (.ref ta) (.int (r.trace.length : Nat)) (.int e))) ∧ TabAt t (fun b => M b ∧ b ≠ ra) H ta r.table) ∧ M ra ∧ r.trace.length ≤ 60
theorem RunAt.mono {t : T K mg} {M M' : Addr → Prop} {H H' : Hp} {ra : Addr} {e : Int} {r : VamacBase.Run} (k : ∀ b o, M b → H b = some o → H' b = some o) (n : ∀ b, M b → M' b) (h : RunAt t M H ra e r) : RunAt t M' H' ra e r := by
  obtain ⟨⟨dx, ta, h1, h2⟩, h3, h4⟩ := h
  exact ⟨⟨dx, ta, k _ _ h3 h1, h2.mono (fun b o z q => k b o z.1 q) fun b z => ⟨n _ z.1, z.2⟩⟩, n _ h3, h4⟩
theorem RunAt.ex {t : T K mg} {M : Addr → Prop} {H H' : Hp} {ra : Addr} {e : Int} {r : VamacBase.Run} (x : Ex H H') (h : RunAt t M H ra e r) : RunAt t M H' ra e r := h.mono (fun b o _ q => x b o q) fun _ z => z
theorem RunAt.or0 {t : T K mg} {M : Addr → Prop} {H H' : Hp} {ra : Addr} {e : Int} {r : VamacBase.Run} (h : RunAt t M H' ra e r) : RunAt t (Or0 M H) H' ra e r := h.mono (fun _ _ _ z => z) fun _ z => .inl z
theorem RunAt.back {t : T K mg} {M : Addr → Prop} {H H1 H2 : Hp} {ra : Addr} {e : Int} {r : VamacBase.Run} (k : Keep M H H1) (h : RunAt t (Or0 (Or0 M H) H1) H2 ra e r) : RunAt t (Or0 M H) H2 ra e r := h.mono (fun _ _ _ z => z) fun _ z => or0_back k z
/-- the same table, as many deeds -/
theorem RunAt.of {t : T K mg} {M : Addr → Prop} {H : Hp} {ra : Addr} {e : Int} {r r' : VamacBase.Run} (h : RunAt t M H ra e r) (h1 : r'.table = r.table) (h2 : r'.trace = r.trace) : RunAt t M H ra e r' := by
  unfold RunAt
  rw [h1, h2]
  exact h
/-- part of a run: r stands at its beginning, r' behind it -/
def spRun (t : T K mg) (n : Nat) (R : List V → Hp → Addr → (Addr → Prop) → VamacBase.Run → VamacBase.Run → Prop) : Sp := fun vs H Q _ => vs.length = n ∧ ∃ M ra e r r', R vs H ra M r r' ∧ RunAt t M H ra e r ∧ r.bad = none ∧
  ∀ H', Keep M H H' → RunAt t (Or0 M H) H' ra e r' → Q (.int (VamacBase.badNumber r'.bad)) H'
theorem ok_Run_init (t : T K mg) : FnOk P w K mg base CX0 1 t.d_Run_init.f t.d_Run_init.d ["self", "table"] (spI 2 t.k_Run.C fun r => match r with | [a] => fs_Run a (.int 0) (.int 0) | _ => []) := by
  refine t.d_Run_init.F.ok sc_Run_init (fun vs H Q E h => h.1) (fun cdv A outer s H vs Q E hr h => ⟨_, (pss_cons (ps_fld (pv 0) (pv 1) rfl)
  (pss_cons (ps_fld (pv 0) pe_int rfl)
  (pss_one (ps_fld (pv 0) (pe_cst rfl t.c_WELL) rfl)))), ?_⟩)
  obtain ⟨hl, x, dx, r, rfl, h1, q⟩ := h
  match r, hl with
  | [a], _ =>
    refine ⟨_, rfl, _, rfl, x, _, dx, [], rfl, h1, t.k_Run.cl, t.n_Run_table, (by show 0 < 1000; decide), ?_⟩
    refine ⟨_, rfl, x, _, dx, _, rfl, upd_same, t.k_Run.cl, t.n_Run_done, (by show 1 < 1000; decide), ?_⟩
    refine ⟨_, rfl, x, _, dx, _, rfl, upd_same, t.k_Run.cl, t.n_Run_ended, (by show 2 < 1000; decide), ?_⟩
    rw [upd_upd, upd_upd, w_Run]
    exact q
def RCounted (t : T K mg) : List V → Hp → Addr → (Addr → Prop) → VamacBase.Run → VamacBase.Run → Prop := fun vs H ra _ r r' => ∃ da d s i, vs = [.ref ra, .ref da, .int (i : Nat)] ∧ DeedAt t H da d s ∧ okFld d = true ∧ i ≤ 60 ∧ r' = VamacBase.doDeed r (VamacBase.withNumber (VamacBase.numberOf d + s * (i : Int)) d)
theorem ok_Run_do_counted (t : T K mg) : FnOk P w K mg base CX0 4 t.d_Run_do_counted.f t.d_Run_do_counted.d ["self", "deed", "number"] (spRun t 3 (RCounted t)) := by
  have G_do_deed := ok_do_deed (P := P) (w := w) (base := base) t
  refine t.d_Run_do_counted.F.ok sc_Run_do_counted (fun vs H Q E h => h.1) (fun cdv A outer s H vs Q E hr h => ⟨_, (pss_cons (ps_if (pt_cmpR op_eq (pe_fld (pv 0) rfl) (pe_cst rfl t.c_MOST_DEEDS_DONE) (nomark _)) (pss_one (ps_ret (pe_cst rfl t.c_TOO_LONG))) pss_nil)
  (pss_cons (ps_set (i := 3) sc_Run_do_counted.nd rfl (Or.inl rfl) (pcall t.d_do_deed G_do_deed (hr.mono (by omega)) rfl (pa_cons (pe_fld (pv 0) rfl) (pa_cons (pv 1) (pa_cons (pe_op op_add (pe_fld (pv 1) rfl) (pe_op op_mul (pe_fld (pv 1) rfl) (pv 2))) pa_nil)))))
  (pss_cut (ps_if (pt_cmpR op_eq (pv 3) (pe_cst rfl t.c_WELL) (nomark _)) (pss_one (ps_fld (pv 0) (pe_op op_add (pe_fld (pv 0) rfl) pe_int) rfl)) pss_nil)
  (pss_one (ps_ret (pv 3)))))), ?_⟩)
  obtain ⟨_, M, ra, e, r, r', ⟨da, d, s, i, rfl, ⟨dd, hd⟩, hf, hi, rfl⟩, hR, hb, k⟩ := h
  obtain ⟨⟨dx, ta, h1, h2⟩, h3, h4⟩ := id hR
  have dn : ∀ {σ H'}, Ex H H' → Ev (tFld K (tVar 0) "done") (some (V.ref ra) :: σ) H' (.int (r.trace.length : Nat)) := fun e => ev_fld (ev_var rfl) (e _ _ h1) t.k_Run.cl t.n_Run_done l_Run_done
  refine q_when (b := decide (V.int (r.trace.length : Nat) = V.int 60)) (et_test (ev_op (dn (Ex.refl H)) ev_c (rv_eq rfl))) (fun c H1 e1 => ?_) (fun c H1 e1 => ?_)
  · have c' : r.trace.length = 60 := by have := V.int.inj (of_decide_eq_true c); omega
    rw [doDeed_long hb c'] at k
    exact k H1 (.of e1) (((hR.ex e1).or0).of rfl rfl)
  have c' : r.trace.length < 60 := by
    have : r.trace.length ≠ 60 := fun z => of_decide_eq_false c (by rw [z]; rfl)
    omega
  obtain ⟨g1, g2, g3⟩ := doDeed_go (d := VamacBase.withNumber (VamacBase.numberOf d + s * (i : Int)) d) hb c'
  generalize hr' : VamacBase.doDeed r (VamacBase.withNumber (VamacBase.numberOf d + s * (i : Int)) d) = r' at k g1 g2 g3
  generalize hcode : codeOf r.table (VamacBase.doneBy r.table (VamacBase.withNumber (VamacBase.numberOf d + s * (i : Int)) d)) = cd at g1 g2 g3
  have va : ∀ {σ H'}, Ex H H' → Ev (tFld K (tVar 1) "value") (some (V.ref ra) :: some (V.ref da) :: σ) H' (.int (VamacBase.numberOf d)) := fun e => ev_fld (ev_var rfl) (e _ _ hd) t.k_Deed.cl t.n_Deed_value l_Deed_value
  have st : ∀ {σ H'}, Ex H H' → Ev (tFld K (tVar 1) "step") (some (V.ref ra) :: some (V.ref da) :: σ) H' (.int s) := fun e => ev_fld (ev_var rfl) (e _ _ hd) t.k_Deed.cl t.n_Deed_step l_Deed_step
  refine q_asgC (ea_cons (ev_fld (ev_var rfl) (e1 _ _ h1) t.k_Run.cl t.n_Run_table l_Run_table) (ea_cons (ev_var rfl) (ea_cons (ev_op (va e1) (ev_op (st e1) (ev_var rfl) (rv_I (.inr ⟨by omega, by omega⟩))) rv_I0) ea_nil)))
    fun H2 e2 => ⟨rfl, fun b => M b ∧ b ≠ ra, ta, r.table, cd, ⟨da, d, s, _, rfl, ⟨dd, (e1.trans e2) _ _ hd⟩, hf, hcode.symm⟩, h2.ex (e1.trans e2), fun H3 k3 hT3 => ?_⟩
  have e02 := e1.trans e2
  have h13 : H3 ra = _ := k3 _ _ (e02 _ _ h1) fun z => z.2 rfl
  have k03 : Keep M H H3 := fun b o hb n => k3 b o (e02 _ _ hb) fun z => n z.1
  have hT3' : TabAt t (fun b => Or0 M H b ∧ b ≠ ra) H3 ta r'.table := by
    rw [g1]
    refine hT3.mono (fun _ _ _ z => z) fun b z => ?_
    rcases z with z | z
    · exact ⟨.inl z.1, z.2⟩
    · exact ⟨.inr (fresh_back e02 z), by rintro rfl; rw [e02 _ _ h1] at z; cases z⟩
  refine q_cut (M := fun σ' H' => σ'[3]? = some (some (.int cd.1)) ∧ Keep M H H' ∧ RunAt t (Or0 M H) H' ra e r') ?_ fun σ' H' ⟨m0, m1, m2⟩ => ?_
  · refine s_when (b := decide (V.int cd.1 = V.int 0)) (et_test (ev_op (ev_var rfl) ev_c (rv_eq rfl))) (fun c H4 e4 => ?_) (fun c H4 e4 => ?_)
    · have c0 : cd.1 = 0 := V.int.inj (of_decide_eq_true c)
      rw [if_pos c0] at g3
      refine s_fld (v := .int (r'.trace.length : Nat)) (ev_is (ev_op (ev_fld (v := .int (r.trace.length : Nat)) (ev_var rfl) (e4 _ _ h13) t.k_Run.cl t.n_Run_done l_Run_done) ev_c rv_I0) (congrArg V.int (by omega))) (ev_var rfl) (e4 _ _ h13) t.k_Run.cl t.n_Run_done (by show 3 < 1000; decide) fun H5 e5 => ?_
      rw [p_Run_done]
      have e35 := e4.trans e5
      refine ⟨rfl, (k03.ex e35).upd (.inl h3), ⟨⟨dx, ta, upd_same, (hT3'.ex e35).mono (fun b o z q => ?_) fun _ z => z⟩, .inl h3, by omega⟩⟩
      rw [upd_ne z.2]
      exact q
    · have c0 : ¬ cd.1 = 0 := fun z => of_decide_eq_false c (congrArg V.int z)
      rw [if_neg c0] at g3
      refine ⟨rfl, k03.ex e4, ⟨⟨dx, ta, ?_, hT3'.ex e4⟩, .inl h3, by omega⟩⟩
      rw [g3]
      exact e4 _ _ h13
  · have := k H' m1 m2
    rw [g2] at this
    exact ⟨_, m0, this⟩
/-- a part's question -/
def RCalled (t : T K mg) : List V → Hp → V → Prop := fun vs H z => ∃ M ra e r pa dx f v l, vs = [.ref ra, .ref pa] ∧ RunAt t M H ra e r ∧ H pa = some (.ins t.k_Part.C dx (fs_Part (.int (f : Nat)) (.int v) l)) ∧ f < 3 ∧ z = .bl (VamacBase.here r.table f == some v)
theorem ok_Run_is_called_for (t : T K mg) : FnOk P w K mg base CX0 2 t.d_Run_is_called_for.f t.d_Run_is_called_for.d ["self", "part"] (spV 2 (RCalled t)) := by
  have G_Table_has_row_here := ok_Table_has_row_here (P := P) (w := w) (base := base) t
  refine t.d_Run_is_called_for.F.ok sc_Run_is_called_for (fun vs H Q E h => h.1) (fun cdv A outer s H vs Q E hr h => ⟨_, (pss_cons (ps_set (i := 2) sc_Run_is_called_for.nd rfl (Or.inl rfl) (pe_fld (pv 0) rfl))
  (pss_one (ps_ret (pe_and (pmeth0 (pv 2) t.k_Table.cl t.d_Table_has_row_here G_Table_has_row_here (hr.mono (by omega))) (pe_one (pe_cmpR op_eq (pe_ix ix_list (pe_ix ix_list (pe_fld (pv 2) rfl) (pe_fld (pv 2) rfl) (fun _ _ => rfl)) (pe_fld (pv 1) rfl) (fun _ _ => rfl)) (pe_fld (pv 1) rfl) (nomark _))))))), ?_⟩)
  obtain ⟨_, z, ⟨M, ra, e, r, pa, dp, f, v, l, rfl, hR, hp, hf, rfl⟩, q⟩ := h
  obtain ⟨⟨dx, ta, h1, hT⟩, h3, h4⟩ := id hR
  obtain ⟨⟨dt, lr, rs, t1, t2, t3, t4, t5, t6, t7⟩, ok⟩ := id hT
  obtain ⟨k1, k2, k3, kc⟩ := okTable_parts ok
  refine q_asg (ev_fld (ev_var rfl) h1 t.k_Run.cl t.n_Run_table l_Run_table) fun H1 e1 => ?_
  by_cases hlt : r.table.at_ < r.table.rows.length
  · obtain ⟨ra', q1, q2, q3⟩ := t3.get hlt
    have hr3 : r.table.rows[r.table.at_].length = 3 := (k2 _ (List.getElem_mem hlt)).1
    refine s_ret (ev_is (ev_andV (a := true) (b := decide (V.int (r.table.rows[r.table.at_][f]'(by omega)) = V.int v)) (ev_is (ev_meth (ev_var rfl) (e1 _ _ t1) m_Table_has_row_here ea_nil (spV_use rfl fun H2 e2 => ⟨ta, _, r.table, rfl, hT.ex (e1.trans e2), rfl⟩)) (congrArg V.bl (decide_eq_true hlt)))
      fun _ => ev_op (ev_op (ev_op (ev_fld (ev_var rfl) (e1 _ _ t1) t.k_Table.cl t.n_Table_rows l_Table_rows) (ev_fld (ev_var rfl) (e1 _ _ t1) t.k_Table.cl t.n_Table_cursor l_Table_cursor) (rv_ixL (v := .ref ra') (.of (e1 _ _ t2)) (atI_nat (by rw [List.getElem?_map, q1]; rfl)))) (ev_fld (v := .int (f : Nat)) (ev_var rfl) (e1 _ _ hp) t.k_Part.cl t.n_Part_field l_Part_field) (rv_ixL (.of (e1 _ _ q3)) (atI_nat (by rw [List.getElem?_map, List.getElem?_eq_getElem (by omega)]; rfl)))) (ev_fld (ev_var rfl) (e1 _ _ hp) t.k_Part.cl t.n_Part_value l_Part_value) (rv_eq rfl)) (congrArg V.bl ?_)) fun H2 e2 => q H2 (e1.trans e2)
    rw [here_some (List.getElem?_eq_getElem hlt) (show f < r.table.rows[r.table.at_].length by omega), Bool.true_and]
    by_cases c : r.table.rows[r.table.at_][f]'(by omega) = v
    · rw [c]; simp
    · rw [decide_eq_false fun z => c (V.int.inj z)]
      exact (beq_eq_false_iff_ne.mpr fun z => c (Option.some.inj z)).symm
  · refine s_ret (ev_is (ev_andV (a := false) (b := false) (ev_is (ev_meth (ev_var rfl) (e1 _ _ t1) m_Table_has_row_here ea_nil (spV_use rfl fun H2 e2 => ⟨ta, _, r.table, rfl, hT.ex (e1.trans e2), rfl⟩)) (congrArg V.bl (decide_eq_false hlt))) fun z => by cases z) (congrArg V.bl ?_)) fun H2 e2 => q H2 (e1.trans e2)
    have : VamacBase.here r.table f = none := by
      unfold VamacBase.here
      rw [List.getElem?_eq_none (by omega)]
      rfl
    rw [this]
    rfl
end
end G
/-! Runs: rows, rounds, loops to the end, pieces. -/
namespace G
open PySem PySem.Spec PyProof.Rows L2 Evl My
section
variable {K : PySem.W.Frag} {mg : Str → Option Value} {P : Program} {w : World} {base : Heap}
/-- what a run doesn't write -/
abbrev Out (M : Addr → Prop) : Addr → Prop := fun b => ¬ M b
def PcN (t : T K mg) (N : Addr → Prop) (H : Hp) (v : V) (x : Pc) : Prop := ∃ a, v = .ref a ∧ PcAt t N H x.1 (RowAt t N H x.2) a
theorem row_paired {t : T K mg} {N : Addr → Prop} {H : Hp} : ∀ {p : VamacBase.Prog} {vs : List V}, RowAt t N H p vs → Paired (PcN t N H) vs (rowL p)
  | .done, _, e => by
    obtain rfl := e
    exact .nil
  | .deed d s r, _, ⟨a, vr, e, h, q⟩ => by
    subst e
    obtain ⟨n, dx, l, o, _⟩ := h
    exact .cons ⟨a, rfl, n, dx, l, o, fun y => by cases y⟩ (row_paired q)
  | .times m b r, _, ⟨a, vr, e, h, q⟩ => by
    subst e
    exact .cons ⟨a, rfl, h⟩ (row_paired q)
  | .toEnd b r, _, ⟨a, vr, e, h, q⟩ => by
    subst e
    exact .cons ⟨a, rfl, h⟩ (row_paired q)
  | .when f v b r, _, ⟨a, vr, e, h, q⟩ => by
    subst e
    exact .cons ⟨a, rfl, h⟩ (row_paired q)
/-- what the run doesn't write stands behind a part of it -/
theorem out_k {M : Addr → Prop} {H H' : Hp} (k : Keep M H H') : ∀ b o, Out M b → H b = some o → H' b = some o := fun b o n h => k b o h n
theorem out_n {M : Addr → Prop} {H : Hp} : ∀ b o, Out M b → H b = some o → Out (Or0 M H) b := fun b o n h z => z.elim n fun z => by rw [h] at z; cases z
theorem row_out {t : T K mg} {M : Addr → Prop} {H H' : Hp} {p : VamacBase.Prog} {vs : List V} (k : Keep M H H') (h : RowAt t (Out M) H p vs) : RowAt t (Out (Or0 M H)) H' p vs := h.mono2 (out_k k) out_n
theorem pc_out {t : T K mg} {M : Addr → Prop} {H H' : Hp} {h : Head} {b : VamacBase.Prog} {a : Addr} (k : Keep M H H') (x : PcAt t (Out M) H h (RowAt t (Out M) H b) a) : PcAt t (Out (Or0 M H)) H' h (RowAt t (Out (Or0 M H)) H' b) a := x.mono2 (out_k k) out_n fun _ z => row_out k z
def RRunRow (t : T K mg) (n : Nat) : List V → Hp → Addr → (Addr → Prop) → VamacBase.Run → VamacBase.Run → Prop := fun vs H ra M r r' => ∃ la vb p i, vs = [.ref ra, .ref la, .int (i : Nat)] ∧ Out M la ∧ H la = some (.lst vb) ∧ RowAt t (Out M) H p vb ∧ p.depth < n ∧ okR p = true ∧ i ≤ 60 ∧ r' = VamacBase.runFrom p i r
def RRunPc (t : T K mg) (n : Nat) : List V → Hp → Addr → (Addr → Prop) → VamacBase.Run → VamacBase.Run → Prop := fun vs H ra M r r' => ∃ pa h b i, vs = [.ref ra, .ref pa, .int (i : Nat)] ∧ PcAt t (Out M) H h (RowAt t (Out M) H b) pa ∧ (h.isDeed = false → b.depth < n ∧ okR b = true) ∧ okRc (h, b) = true ∧ i ≤ 60 ∧ r' = runPc (h, b) i r
def RRunTimes (t : T K mg) (n : Nat) : List V → Hp → Addr → (Addr → Prop) → VamacBase.Run → VamacBase.Run → Prop := fun vs H ra M r r' => ∃ pa m b, vs = [.ref ra, .ref pa] ∧ PcAt t (Out M) H (.times m) (RowAt t (Out M) H b) pa ∧ b.depth < n ∧ okR b = true ∧ m ≤ 9 ∧ r' = VamacBase.rounds (VamacBase.runFrom b) m 0 r
def RRunToEnd (t : T K mg) (n : Nat) : List V → Hp → Addr → (Addr → Prop) → VamacBase.Run → VamacBase.Run → Prop := fun vs H ra M r r' => ∃ pa b, vs = [.ref ra, .ref pa] ∧ PcAt t (Out M) H .toEnd (RowAt t (Out M) H b) pa ∧ b.depth < n ∧ okR b = true ∧ r' = VamacBase.toEndRounds (VamacBase.runFrom b) 60 0 r
theorem bad_some {r : VamacBase.Run} (h : ¬ VamacBase.badNumber r.bad = 0) : r.bad.isSome = true := by
  cases e : r.bad with
  | none => exact absurd (badNumber_zero.mpr e) h
  | some b => rfl
theorem bad_none {r : VamacBase.Run} (h : VamacBase.badNumber r.bad = 0) : r.bad = none := badNumber_zero.mp h
/-- if ended != WELL: return ended -/
theorem et_ended {σ : L2.St} {H : Hp} {i : Nat} {c : Int} (h : σ[i]? = some (some (.int c))) : EvT (tTest (tOp rNe (tVar i) (tC (.int 0)))) σ H (!decide (c = 0)) :=
  et_is (et_test (ev_op (ev_var h) ev_c (rv_ne rfl))) (by
    by_cases z : c = 0
    · rw [decide_eq_true z, decide_eq_true (congrArg V.int z)]
    · rw [decide_eq_false z, decide_eq_false fun y => z (V.int.inj y)])
theorem ok_Run_do_row_succ (t : T K mg) (n k : Nat) (G_Run_do_piece : FnOk P w K mg base CX0 k t.d_Run_do_piece.f t.d_Run_do_piece.d ["self", "piece", "number"] (spRun t 3 (RRunPc t n))) :
    FnOk P w K mg base CX0 (k + 1) t.d_Run_do_row.f t.d_Run_do_row.d ["self", "row", "number"] (spRun t 3 (RRunRow t (n + 1))) := by
  refine t.d_Run_do_row.F.ok sc_Run_do_row (fun vs H Q E h => h.1) (fun cdv A outer s H vs Q E hr h => ⟨_, (pss_cons (ps_for PassesOwn.never rfl (pi_list (pv 1)) (pg_name (i := 3) sc_Run_do_row.nd rfl (Or.inl rfl)) (pss_cons (ps_set (i := 4) sc_Run_do_row.nd rfl (Or.inl rfl) (pmeth (pv 0) t.k_Run.cl t.d_Run_do_piece G_Run_do_piece (hr.mono (by omega)) (by exact (pa_cons (pv 3) (pa_cons (pv 2) pa_nil)))))
  (pss_one (ps_if (pt_cmpR op_ne (pv 4) (pe_cst rfl t.c_WELL) (nomark _)) (pss_one (ps_ret (pv 4))) pss_nil))))
  (pss_one (ps_ret (pe_cst rfl t.c_WELL)))), ?_⟩)
  obtain ⟨_, M, ra, e, r, r', ⟨la, vb, p, i, rfl, hn, hl, hrow, hd, hok, hi, rfl⟩, hR, hb, kk⟩ := h
  refine q_forLn (ev_var rfl) (.of hl) (fun k σ' H' => ∃ pv ev, σ' = [some (.ref ra), some (.ref la), some (.int (i : Nat)), pv, ev] ∧ Keep M H H' ∧ (((rowL p).take k).foldl (fun r x => runPc x i r) r).bad = none ∧ RunAt t (Or0 M H) H' ra e (((rowL p).take k).foldl (fun r x => runPc x i r) r))
    (fun H1 e1 => ⟨none, none, rfl, .of e1, hb, (hR.ex e1).or0⟩) (fun k σ' H' _ q => ?_) (fun k x σ' H' hx q => ?_) (fun σ' H' q => ?_)
  · obtain ⟨_, _, _, q, _⟩ := q
    exact .of (q _ _ hl hn)
  · obtain ⟨pv, ev, rfl, kH, hbk, hRk⟩ := q
    obtain ⟨x', g1, a, rfl, hpc⟩ := paired_get (row_paired (row_out kH hrow)) hx
    obtain ⟨dx, ta, h1, _⟩ := hRk.1
    have hmem := List.mem_of_getElem? g1
    obtain ⟨o1, o2⟩ := okR_rowL p hok x' hmem
    have hs := row_step (i := i) (r := r) g1
    generalize hrk : ((rowL p).take k).foldl (fun r x => runPc x i r) r = rk at hbk hRk h1 hs
    refine q_asgN (ev_var rfl) h1 m_Run_do_piece (ea_cons (ev_var rfl) (ea_cons (ev_var rfl) ea_nil)) fun H1 e1 => ⟨rfl, Or0 M H, ra, e, rk, _, ⟨a, x'.1, x'.2, i, rfl, hpc.mono (fun b o _ z => e1 _ _ z) (fun _ z => z) (fun _ z => z.ex e1), fun c => ⟨by have := rowL_depth p x' hmem c; omega, o2⟩, o1, hi, rfl⟩, hRk.ex e1, hbk, fun H2 k2 hR2 => ?_⟩
    have k02 : Keep M H H2 := kH.trans fun b o hb n => k2 b o (e1 _ _ hb) n
    have hR2' : RunAt t (Or0 M H) H2 ra e (runPc (x'.1, x'.2) i rk) := hR2.back (kH.ex e1)
    have hs' : ((rowL p).take (k + 1)).foldl (fun r x => runPc x i r) r = runPc (x'.1, x'.2) i rk := hs
    refine s_when (et_ended rfl) (fun c H3 e3 => ?_) (fun c H3 e3 => ?_)
    · have c' : ¬ VamacBase.badNumber (runPc (x'.1, x'.2) i rk).bad = 0 := by simpa using c
      rw [row_stop hs' (bad_some c')] at kk
      exact ⟨_, rfl, kk H3 (k02.ex e3) (hR2'.ex e3)⟩
    · have c' : VamacBase.badNumber (runPc (x'.1, x'.2) i rk).bad = 0 := by simpa using c
      rw [hs']
      exact ⟨_, _, rfl, k02.ex e3, bad_none c', hR2'.ex e3⟩
  · obtain ⟨pv, ev, rfl, kH, hbk, hRk⟩ := q
    rw [hrow.len, ← rowL_len, row_all] at hbk hRk
    rw [hbk] at kk
    exact kk H' kH hRk
theorem ok_Run_do_rounds (t : T K mg) (n k : Nat) (G_Run_do_row : FnOk P w K mg base CX0 k t.d_Run_do_row.f t.d_Run_do_row.d ["self", "row", "number"] (spRun t 3 (RRunRow t n))) :
    FnOk P w K mg base CX0 (k + 1) t.d_Run_do_rounds.f t.d_Run_do_rounds.d ["self", "loop"] (spRun t 2 (RRunTimes t n)) := by
  refine t.d_Run_do_rounds.F.ok sc_Run_do_rounds (fun vs H Q E h => h.1) (fun cdv A outer s H vs Q E hr h => ⟨_, (pss_cons (ps_for PassesOwn.never rfl (pi_range1 rfl t.z_range (pa_cons (pe_fld (pv 1) rfl) pa_nil)) (pg_name (i := 2) sc_Run_do_rounds.nd rfl (Or.inl rfl)) (pss_cons (ps_set (i := 3) sc_Run_do_rounds.nd rfl (Or.inl rfl) (pmeth (pv 0) t.k_Run.cl t.d_Run_do_row G_Run_do_row (hr.mono (by omega)) (by exact (pa_cons (pe_fld (pv 1) rfl) (pa_cons (pv 2) pa_nil)))))
  (pss_one (ps_if (pt_cmpR op_ne (pv 3) (pe_cst rfl t.c_WELL) (nomark _)) (pss_one (ps_ret (pv 3))) pss_nil))))
  (pss_one (ps_ret (pe_cst rfl t.c_WELL)))), ?_⟩)
  obtain ⟨_, M, ra, e, r, r', ⟨pa, m, b, rfl, hpc, hd, hok, hm, rfl⟩, hR, hb, kk⟩ := h
  obtain ⟨np, dp, l, hp, hrow⟩ := id hpc
  obtain ⟨lb, vb, rfl, _, _, _⟩ := hrow rfl
  refine q_forR1 (n := (m : Nat)) (ea_cons (ev_fld (ev_var rfl) hp t.k_Loop.cl t.n_Loop_rounds l_Loop_rounds) ea_nil) ⟨by omega, by omega⟩ (fun j σ' H' => ∃ nv ev, σ' = [some (.ref ra), some (.ref pa), nv, ev] ∧ Keep M H H' ∧ (VamacBase.rounds (VamacBase.runFrom b) j 0 r).bad = none ∧ RunAt t (Or0 M H) H' ra e (VamacBase.rounds (VamacBase.runFrom b) j 0 r))
    (fun H1 e1 => ⟨none, none, rfl, .of e1, hb, (hR.ex e1).or0⟩) ?_ ?_
  · rintro j σ' H' hj ⟨nv, ev, rfl, kH, hbk, hRk⟩
    obtain ⟨np', dp', l', hp', hrow'⟩ := pc_out kH hpc
    obtain ⟨lb', vb', rfl, nl, hlb, hrb⟩ := hrow' rfl
    obtain ⟨dx, ta, h1, _⟩ := hRk.1
    have hs := rounds_succ (body := VamacBase.runFrom b) j 0 r
    rw [Nat.zero_add] at hs
    generalize hrk : VamacBase.rounds (VamacBase.runFrom b) j 0 r = rk at hbk hRk h1 hs
    refine q_asgN (ev_var rfl) h1 m_Run_do_row (ea_cons (ev_fld (ev_var rfl) hp' t.k_Loop.cl t.n_Loop_row l_Loop_row) (ea_cons (ev_var rfl) ea_nil)) fun H1 e1 => ⟨rfl, Or0 M H, ra, e, rk, _, ⟨lb', vb', b, j, rfl, nl, e1 _ _ hlb, hrb.ex e1, hd, hok, by omega, rfl⟩, hRk.ex e1, hbk, fun H2 k2 hR2 => ?_⟩
    have k02 : Keep M H H2 := kH.trans fun b o hb n => k2 b o (e1 _ _ hb) n
    have hR2' := hR2.back (kH.ex e1)
    refine s_when (et_ended rfl) (fun c H3 e3 => ?_) (fun c H3 e3 => ?_)
    · have c' : ¬ VamacBase.badNumber (VamacBase.runFrom b j rk).bad = 0 := by simpa using c
      rw [rounds_all hs (by omega) fun i => runFrom_bad b i _ (bad_some c')] at kk
      exact ⟨_, rfl, kk H3 (k02.ex e3) (hR2'.ex e3)⟩
    · have c' : VamacBase.badNumber (VamacBase.runFrom b j rk).bad = 0 := by simpa using c
      rw [hs]
      exact ⟨_, _, rfl, k02.ex e3, bad_none c', hR2'.ex e3⟩
  · rintro σ' H' ⟨nv, ev, rfl, kH, hbk, hRk⟩
    rw [Int.toNat_natCast] at hbk hRk
    rw [hbk] at kk
    exact kk H' kH hRk
theorem ok_Run_do_to_end (t : T K mg) (n k : Nat) (hk : 1 ≤ k) (G_Run_do_row : FnOk P w K mg base CX0 k t.d_Run_do_row.f t.d_Run_do_row.d ["self", "row", "number"] (spRun t 3 (RRunRow t n))) :
    FnOk P w K mg base CX0 (k + 1) t.d_Run_do_to_end.f t.d_Run_do_to_end.d ["self", "loop"] (spRun t 2 (RRunToEnd t n)) := by
  have G_Table_has_row_here := ok_Table_has_row_here (P := P) (w := w) (base := base) t
  refine t.d_Run_do_to_end.F.ok sc_Run_do_to_end (fun vs H Q E h => h.1) (fun cdv A outer s H vs Q E hr h => ⟨_, (pss_cons (ps_for PassesOwn.never rfl (pi_range1 rfl t.z_range (pa_cons (pe_cst rfl t.c_MOST_ROUNDS_TO_END) pa_nil)) (pg_name (i := 2) sc_Run_do_to_end.nd rfl (Or.inl rfl)) (pss_cons (ps_if (pt_not (pt_val (pmeth0 (pe_fld (pv 0) rfl) t.k_Table.cl t.d_Table_has_row_here G_Table_has_row_here (hr.mono (by omega))))) (pss_one (ps_ret (pe_cst rfl t.c_WELL))) pss_nil)
  (pss_cons (ps_set (i := 3) sc_Run_do_to_end.nd rfl (Or.inl rfl) (pmeth (pv 0) t.k_Run.cl t.d_Run_do_row G_Run_do_row (hr.mono (by omega)) (by exact (pa_cons (pe_fld (pv 1) rfl) (pa_cons (pv 2) pa_nil)))))
  (pss_one (ps_if (pt_cmpR op_ne (pv 3) (pe_cst rfl t.c_WELL) (nomark _)) (pss_one (ps_ret (pv 3))) pss_nil)))))
  (pss_one (ps_ret (pe_ifExp (pt_val (pmeth0 (pe_fld (pv 0) rfl) t.k_Table.cl t.d_Table_has_row_here G_Table_has_row_here (hr.mono (by omega)))) (pe_cst rfl t.c_TOO_LONG) (pe_cst rfl t.c_WELL))))), ?_⟩)
  obtain ⟨_, M, ra, e, r, r', ⟨pa, b, rfl, hpc, hd, hok, rfl⟩, hR, hb, kk⟩ := h
  -- the question whether there's a row here
  have ask : ∀ {σ : L2.St} {H' : Hp} {rk : VamacBase.Run}, RunAt t (Or0 M H) H' ra e rk → Ev (tMeth t.k_Table.C "has_row_here" (spV 1 (RHas t)) [] E0 (tFld K (tVar 0) "table") tNil) (some (V.ref ra) :: σ) H' (.bl (decide (rk.table.at_ < rk.table.rows.length))) := fun {σ H' rk} hRk => by
    obtain ⟨⟨dx, ta, h1, hT⟩, _, _⟩ := hRk
    obtain ⟨⟨dt, lr, rs, t1, t2, t3, t4, t5, t6, t7⟩, ok⟩ := id hT
    exact ev_meth (ev_fld (ev_var rfl) h1 t.k_Run.cl t.n_Run_table l_Run_table) t1 m_Table_has_row_here ea_nil (spV_use rfl fun H2 e2 => ⟨ta, _, rk.table, rfl, hT.ex e2, rfl⟩)
  refine q_forR1 (n := 60) (ea_cons ev_c ea_nil) ⟨by omega, by omega⟩ (fun j σ' H' => ∃ nv ev rk, σ' = [some (.ref ra), some (.ref pa), nv, ev] ∧ Keep M H H' ∧ VamacBase.toEndRounds (VamacBase.runFrom b) 60 0 r = VamacBase.toEndRounds (VamacBase.runFrom b) (60 - j) j rk ∧ rk.bad = none ∧ RunAt t (Or0 M H) H' ra e rk)
    (fun H1 e1 => ⟨none, none, r, rfl, .of e1, rfl, hb, (hR.ex e1).or0⟩) ?_ ?_
  · rintro j σ' H' hj ⟨nv, ev, rk, rfl, kH, hs, hbk, hRk⟩
    refine q_when (b := !decide (rk.table.at_ < rk.table.rows.length)) (et_not (et_B (ask hRk))) (fun c H1 e1 => ?_) (fun c H1 e1 => ?_)
    · have c' : ¬ rk.table.at_ < rk.table.rows.length := by simpa using c
      rw [hs, toEnd_end (isEnd_true (by omega)), hbk] at kk
      exact kk H1 (kH.ex e1) (hRk.ex e1)
    · have c' : rk.table.at_ < rk.table.rows.length := by simpa using c
      have hs2 : VamacBase.toEndRounds (VamacBase.runFrom b) 60 0 r = VamacBase.toEndRounds (VamacBase.runFrom b) (60 - (j + 1)) (j + 1) (VamacBase.runFrom b j rk) := by
        rw [hs, show 60 - j = (60 - (j + 1)) + 1 by omega, toEnd_succ hbk (isEnd_false c')]
      obtain ⟨np', dp', l', hp', hrow'⟩ := pc_out (kH.ex e1) hpc
      obtain ⟨lb', vb', rfl, nl, hlb, hrb⟩ := hrow' rfl
      have hRk1 := hRk.ex e1
      obtain ⟨dx, ta, h1, _⟩ := hRk1.1
      refine q_asgN (ev_var rfl) h1 m_Run_do_row (ea_cons (ev_fld (ev_var rfl) hp' t.k_LoopToEnd.cl t.n_LoopToEnd_row l_LoopToEnd_row) (ea_cons (ev_var rfl) ea_nil)) fun H2 e2 => ⟨rfl, Or0 M H, ra, e, rk, _, ⟨lb', vb', b, j, rfl, nl, e2 _ _ hlb, hrb.ex e2, hd, hok, by omega, rfl⟩, hRk1.ex e2, hbk, fun H3 k3 hR3 => ?_⟩
      have k03 : Keep M H H3 := (kH.ex e1).trans fun b o hb n => k3 b o (e2 _ _ hb) n
      have hR3' := hR3.back ((kH.ex e1).ex e2)
      refine s_when (et_ended rfl) (fun c H4 e4 => ?_) (fun c H4 e4 => ?_)
      · have c' : ¬ VamacBase.badNumber (VamacBase.runFrom b j rk).bad = 0 := by simpa using c
        rw [hs2, toEnd_bad (bad_some c')] at kk
        exact ⟨_, rfl, kk H4 (k03.ex e4) (hR3'.ex e4)⟩
      · have c' : VamacBase.badNumber (VamacBase.runFrom b j rk).bad = 0 := by simpa using c
        exact ⟨_, _, _, rfl, k03.ex e4, hs2, bad_none c', hR3'.ex e4⟩
  · rintro σ' H' ⟨nv, ev, rk, rfl, kH, hs, hbk, hRk⟩
    have hs' : VamacBase.toEndRounds (VamacBase.runFrom b) 60 0 r = if VamacBase.isEnd rk.table then rk else { rk with bad := some .long } := by
      rw [hs]
      exact toEnd_zero hbk
    by_cases c : rk.table.at_ < rk.table.rows.length
    · rw [hs', isEnd_false c] at kk
      exact s_ret (v := .int 6) (ev_if (et_B (ask hRk)) (fun _ => ev_c) (fun z => absurd c (of_decide_eq_false z))) fun H1 e1 => kk H1 (kH.ex e1) ((hRk.ex e1).of rfl rfl)
    · rw [hs', isEnd_true (by omega)] at kk
      have := fun H1 x y => kk H1 x y
      rw [if_pos rfl, hbk] at this
      exact s_ret (v := .int 0) (ev_if (et_B (ask hRk)) (fun z => absurd (of_decide_eq_true z) c) (fun _ => ev_c)) fun H1 e1 => this H1 (kH.ex e1) (hRk.ex e1)
theorem ok_Run_do_piece (t : T K mg) (n k : Nat) (hk : 3 ≤ k) (G_Run_do_row : FnOk P w K mg base CX0 k t.d_Run_do_row.f t.d_Run_do_row.d ["self", "row", "number"] (spRun t 3 (RRunRow t n))) :
    FnOk P w K mg base CX0 (k + 2) t.d_Run_do_piece.f t.d_Run_do_piece.d ["self", "piece", "number"] (spRun t 3 (RRunPc t n)) := by
  have G_Run_do_rounds := ok_Run_do_rounds (P := P) (w := w) (base := base) t n k G_Run_do_row
  have G_Run_do_to_end := ok_Run_do_to_end (P := P) (w := w) (base := base) t n k (by omega) G_Run_do_row
  have G_Run_do_counted := ok_Run_do_counted (P := P) (w := w) (base := base) t
  have G_Run_is_called_for := ok_Run_is_called_for (P := P) (w := w) (base := base) t
  refine t.d_Run_do_piece.F.ok sc_Run_do_piece (fun vs H Q E h => h.1) (fun cdv A outer s H vs Q E hr h => ⟨_, (pss_cons (ps_if (pt_val (pe_callB call_isi rfl t.z_isinstance (by decide +kernel) (pa_cons (pv 1) (pa_cons (pe_cls rfl t.k_Deed.g) pa_nil)))) (pss_one (ps_ret (pmeth (pv 0) t.k_Run.cl t.d_Run_do_counted G_Run_do_counted (hr.mono (by omega)) (by exact (pa_cons (pv 1) (pa_cons (pv 2) pa_nil)))))) pss_nil)
  (pss_cons (ps_if (pt_val (pe_callB call_isi rfl t.z_isinstance (by decide +kernel) (pa_cons (pv 1) (pa_cons (pe_cls rfl t.k_Loop.g) pa_nil)))) (pss_one (ps_ret (pmeth (pv 0) t.k_Run.cl t.d_Run_do_rounds G_Run_do_rounds (hr.mono (by omega)) (by exact (pa_cons (pv 1) pa_nil))))) pss_nil)
  (pss_cons (ps_if (pt_val (pe_callB call_isi rfl t.z_isinstance (by decide +kernel) (pa_cons (pv 1) (pa_cons (pe_cls rfl t.k_LoopToEnd.g) pa_nil)))) (pss_one (ps_ret (pmeth (pv 0) t.k_Run.cl t.d_Run_do_to_end G_Run_do_to_end (hr.mono (by omega)) (by exact (pa_cons (pv 1) pa_nil))))) pss_nil)
  (pss_cons (ps_if (pt_val (pmeth (pv 0) t.k_Run.cl t.d_Run_is_called_for G_Run_is_called_for (hr.mono (by omega)) (by exact (pa_cons (pv 1) pa_nil)))) (pss_one (ps_ret (pmeth (pv 0) t.k_Run.cl t.d_Run_do_row G_Run_do_row (hr.mono (by omega)) (by exact (pa_cons (pe_fld (pv 1) rfl) (pa_cons (pv 2) pa_nil)))))) pss_nil)
  (pss_one (ps_ret (pe_cst rfl t.c_WELL))))))), ?_⟩)
  obtain ⟨_, M, ra, e, r, r', ⟨pa, h, b, i, rfl, hpc, hrest, hok, hi, rfl⟩, hR, hb, kk⟩ := h
  obtain ⟨np, dp, l, hp, hrow⟩ := id hpc
  obtain ⟨⟨dx, ta, h1, hT⟩, h3, h4⟩ := id hR
  -- a part of the run that does it: the promise from where it is called
  have fin : ∀ {H1 : Hp} {r' : VamacBase.Run}, Ex H H1 → runPc (h, b) i r = r' → ∀ H', Keep M H1 H' → RunAt t (Or0 M H1) H' ra e r' → Q (.int (VamacBase.badNumber r'.bad)) H' := fun {H1 r'} e1 er H' g1 g2 => by
    subst er
    exact kk H' (fun b o hb n => g1 b o (e1 _ _ hb) n) (g2.mono (fun _ _ _ z => z) fun b z => z.imp id (fresh_back e1))
  have rex : ∀ {H1 : Hp}, Ex H H1 → PcAt t (Out M) H1 h (RowAt t (Out M) H1 b) pa := fun e1 => hpc.mono (fun b o _ z => e1 _ _ z) (fun _ z => z) fun _ z => z.ex e1
  refine q_when (b := h.isDeed) (et_B (isi_Deed t (ev_var rfl) hp)) (fun c H1 e1 => ?_) (fun c H1 e1 => ?_)
  · cases h with
    | deed d s =>
      have hf : okFld d = true := hok
      exact s_retN (ev_var rfl) (e1 _ _ h1) m_Run_do_counted (ea_cons (ev_var rfl) (ea_cons (ev_var rfl) ea_nil)) fun H2 e2 => ⟨rfl, M, ra, e, r, _, ⟨pa, d, s, i, rfl, ⟨dp, (e1.trans e2) _ _ hp⟩, hf, hi, rfl⟩, hR.ex (e1.trans e2), hb, fin (e1.trans e2) rfl⟩
    | _ => cases c
  obtain ⟨hn1, hn2⟩ := hrest c
  refine q_when (b := isTimes h) (et_B (isi_Loop t (ev_var rfl) (e1 _ _ hp))) (fun c2 H2 e2 => ?_) (fun c2 H2 e2 => ?_)
  · cases h with
    | times m =>
      have hm : m ≤ 9 := of_decide_eq_true hok
      have e12 := e1.trans e2
      exact s_retN (ev_var rfl) (e12 _ _ h1) m_Run_do_rounds (ea_cons (ev_var rfl) ea_nil) fun H3 e3 => ⟨rfl, M, ra, e, r, _, ⟨pa, m, b, rfl, rex (e12.trans e3), hn1, hn2, hm, rfl⟩, hR.ex (e12.trans e3), hb, fin (e12.trans e3) rfl⟩
    | _ => cases c2
  have e12 := e1.trans e2
  refine q_when (b := isToEnd h) (et_B (isi_LoopToEnd t (ev_var rfl) (e12 _ _ hp))) (fun c3 H3 e3 => ?_) (fun c3 H3 e3 => ?_)
  · cases h with
    | toEnd =>
      have e13 := e12.trans e3
      exact s_retN (ev_var rfl) (e13 _ _ h1) m_Run_do_to_end (ea_cons (ev_var rfl) ea_nil) fun H4 e4 => ⟨rfl, M, ra, e, r, _, ⟨pa, b, rfl, rex (e13.trans e4), hn1, hn2, rfl⟩, hR.ex (e13.trans e4), hb, fin (e13.trans e4) rfl⟩
    | _ => cases c3
  have e13 := e12.trans e3
  cases h with
  | deed d s => cases c
  | times m => cases c2
  | toEnd => cases c3
  | when f v =>
    have hf : f < 3 := okField_lt hok
    have er : runPc (.when f v, b) i r = if VamacBase.here r.table f == some v then VamacBase.runFrom b i r else r := by
      show (if r.bad.isNone && VamacBase.here r.table f == some v then _ else _) = _
      rw [hb]
      rfl
    refine q_when (b := VamacBase.here r.table f == some v) (et_B (ev_meth (ev_var rfl) (e13 _ _ h1) m_Run_is_called_for (ea_cons (ev_var rfl) ea_nil) (spV_use rfl fun H4 e4 => ⟨M, ra, e, r, pa, dp, f, v, l, rfl, hR.ex (e13.trans e4), (e13.trans e4) _ _ hp, hf, rfl⟩))) (fun c4 H4 e4 => ?_) (fun c4 H4 e4 => ?_)
    · rw [if_pos c4] at er
      have e14 := e13.trans e4
      obtain ⟨_, _, l2, hp2, hrow2⟩ := rex e14
      obtain ⟨lb, vb, rfl, nl, hlb, hrb⟩ := hrow2 rfl
      exact s_retN (ev_var rfl) (e14 _ _ h1) m_Run_do_row (ea_cons (ev_fld (ev_var rfl) hp2 t.k_Part.cl t.n_Part_row l_Part_row) (ea_cons (ev_var rfl) ea_nil)) fun H5 e5 => ⟨rfl, M, ra, e, r, _, ⟨lb, vb, b, i, rfl, nl, e5 _ _ hlb, hrb.ex e5, hn1, hn2, hi, rfl⟩, hR.ex (e14.trans e5), hb, fin (e14.trans e5) er⟩
    · rw [if_neg (by rw [c4]; decide)] at er
      have := fin (e13.trans e4) er H4 (.refl _ _) ((hR.ex (e13.trans e4)).or0)
      rw [hb] at this
      exact this
theorem ok_Run_do_row (t : T K mg) : ∀ n : Nat, FnOk P w K mg base CX0 (3 * n + 4) t.d_Run_do_row.f t.d_Run_do_row.d ["self", "row", "number"] (spRun t 3 (RRunRow t n))
  | 0 => never_of fun vs H Q E h => by
    obtain ⟨_, M, ra, e, r, r', ⟨la, vb, p, i, _, _, _, _, hn, _⟩, _⟩ := h
    exact Nat.not_lt_zero _ hn
  | n + 1 => ok_Run_do_row_succ t n (3 * n + 6) (ok_Run_do_piece t n (3 * n + 4) (by omega) (ok_Run_do_row t n))
end
end G
/-! A table copied; a run; a table as numbers. -/
namespace G
open PySem PySem.Spec PyProof.Rows L2 Evl My
section
variable {K : PySem.W.Frag} {mg : Str → Option Value} {P : Program} {w : World} {base : Heap}
def spCopied (t : T K mg) : Sp := fun vs H Q _ => ∃ ta N tb, vs = [.ref ta] ∧ TabAt t N H ta tb ∧ ∀ H' a, Ex H H' → TabAt t (fun b => H b = none) H' a tb → Q (.ref a) H'
theorem nodup_snoc {α : Type} {l : List α} {x : α} (h : l.Nodup) (n : x ∉ l) : (l ++ [x]).Nodup := by
  rw [List.nodup_append]
  refine ⟨h, List.nodup_cons.mpr ⟨fun z => (List.not_mem_nil z).elim, List.nodup_nil⟩, fun a ha b hb => ?_⟩
  rcases List.mem_cons.mp hb with rfl | hb
  · rintro rfl
    exact n ha
  · exact (List.not_mem_nil hb).elim
theorem RowsAt.known {N : Addr → Prop} {H : Hp} {rs : List Addr} {rows : List (List Int)} {b : Addr} (h : RowsAt N H rs rows) (hb : b ∈ rs) : N b ∧ ∃ l, H b = some (.lst l) := by
  obtain ⟨i, hi⟩ := List.getElem?_of_mem hb
  obtain ⟨row, _, q1, q2⟩ := paired_get h hi
  exact ⟨q1, _, q2⟩
theorem lc_go {σ : L2.St} {H : Hp} {a : Addr} {xs : List V} {tl te : TE} {tt : TT} {g : TG} {vs : List Nat} {Q : VK} (h : Ev tl σ H (.ref a)) (hx : SqL K H a xs)
    (k : ∀ H1, Ex H H1 → ∀ D, H1 D = none → ∃ W : Nat → Nat → Hp → Prop, (∃ m, W 0 m (L2.upd H1 D (.lst []))) ∧ ∀ i m H, W i m H → ((Itl K a).stop i H ∧ Q (.ref D) H) ∨ ((Itl K a).go i H ∧ ∃ Nx : Hp → Prop, (∀ H', Nx H' → ∃ m', m' < m ∧ W (i + 1) m' H') ∧ ∀ x H', (Itl K a).yld i H x H' → g x (wipe σ vs) H' fun σ2 H2 => wipe σ2 vs = wipe σ vs ∧ tt σ2 H2 fun b H3 =>
      if b = true then te σ2 H3 fun y H4 => ∃ acc, H4 D = some (.lst acc) ∧ acc.length < sizeLine ∧ Nx (L2.upd H4 D (.lst (acc ++ [y]))) else Nx H3)) : tLc (iList K tl) g tt te vs σ H Q := h H (Ex.refl H) _ fun H1 e1 => ⟨a, rfl, ⟨xs, ex_l e1 hx⟩, k H1 e1⟩
theorem s_retMk {C : Addr} {sp : Sp} {E : XK} {ta : TA} {D : Ends} {σ : L2.St} {H : Hp} (h : ta σ H fun vs H1 => ∀ x dx, H1 x = none → H1 dx = none → dx ≠ x → sp (.ref x :: (vs ++ [])) (L2.upd (L2.upd H1 dx (.own x)) x (.ins C dx [])) (fun v H2 => v = .non ∧ D.rt (.ref x) H2) E) : tRet (tMake C sp [] E ta) D σ H := h
theorem c_cons {te : TE} {ta : TA} {σ : L2.St} {H : Hp} {Q : List V → Hp → Prop} (h : te σ H fun x H1 => ta σ H1 fun vs H2 => Q (x :: vs) H2) : tCons te ta σ H Q := h
theorem ok_Table_copied (t : T K mg) : FnOk P w K mg base CX0 3 t.d_Table_copied.f t.d_Table_copied.d ["self"] (spCopied t) := by
  have G_Table_init := ok_Table_init (P := P) (w := w) (base := base) t
  refine t.d_Table_copied.F.ok sc_Table_copied (fun vs H Q E h => by obtain ⟨ta, N, tb, rfl, _⟩ := h; rfl) (fun cdv A outer s H vs Q E hr h => ⟨_, (pss_one (ps_ret (pmake t.d_Table_init t.k_Table.g G_Table_init (hr.mono (by omega)) rfl (pa_cons (pe_lc (te := tCB (rListS K) (tCons (tVar 1) tNil)) (tt := tYes) (own := [("row", 1)]) (g := gName 1) rfl sc_Table_copied.nd (pi_list (pe_fld (pv 0) rfl)) (blkOk_by (N := ["self", "row"]) (sc := defScope s_Table_copied) (by decide +kernel)) (fun _ _ _ _ _ => pg_name (i := 1) sc_Table_copied.nd rfl (Or.inl rfl)) (fun _ _ _ _ _ => pts_nil) (fun _ _ _ _ _ => (pe_callTy call_list_of rfl t.z_list (by decide +kernel) (pa_cons (pv 1) pa_nil)))) (pa_cons (pe_fld (pv 0) rfl) (pa_cons (pe_fld (pv 0) rfl) pa_nil)))))), ?_⟩)
  obtain ⟨ta, N, tb, rfl, hT, kk⟩ := h
  obtain ⟨⟨dx, lr, rs, h1, h2, h3, h4, h5, h6, h7⟩, ok⟩ := id hT
  refine s_retMk (c_cons (lc_go (ev_fld (ev_var rfl) h1 t.k_Table.cl t.n_Table_rows l_Table_rows) (.of h2) fun H1 e1 Dl hD => ?_))
  refine lc_list (xs := rs.map V.ref) (fun i H' => Ex H1 H' ∧ ∃ rs', H' Dl = some (.lst (rs'.map V.ref)) ∧ RowsAt (fun b => H1 b = none ∧ b ≠ Dl) H' rs' (tb.rows.take i) ∧ rs'.Nodup) ⟨Ex.new hD, [], upd_same, .nil, List.nodup_nil⟩ (fun i H' _ q => .of (q.1 _ _ (e1 _ _ h2))) (fun i x H' hi q => ?_) (fun H' q => ?_)
  · obtain ⟨e', rs', hl', hr', nd⟩ := q
    rw [List.getElem?_map] at hi
    obtain ⟨r0, hi2, rfl⟩ := Option.map_eq_some_iff.mp hi
    obtain ⟨row, g1, _, g2⟩ := paired_get h3 hi2
    refine ⟨rfl, ?_⟩
    show tCB (rListS K) (tCons (tVar 1) tNil) [some (.ref ta), some (.ref r0)] H' _
    refine el_list (ev_var rfl) (.of (e' _ _ (e1 _ _ g2))) H' (Ex.refl H') _ fun p H4 hp e4 hp4 => ⟨rs'.map V.ref, e4 _ _ hl', ?_, (e'.trans e4).mut hD, rs' ++ [p], by rw [upd_same, List.map_append]; rfl, ?_, nodup_snoc nd fun z => ?_⟩
    · rw [List.length_map, hr'.len, List.length_take]
      have := (okTable_parts ok).1
      exact sz_lt (by omega)
    · have hlt : i < tb.rows.length := (List.getElem?_eq_some_iff.mp g1).1
      have nD : p ≠ Dl := by
        rintro rfl
        rw [hl'] at hp
        cases hp
      rw [List.take_add_one, g1]
      refine paired_append (hr'.mono (fun b l z q => ?_) fun _ z => z) (.cons ⟨⟨fresh_back e' hp, nD⟩, ?_⟩ .nil)
      · rw [upd_ne z.2]
        exact e4 _ _ q
      · rw [upd_ne nD]
        exact hp4
    · obtain ⟨_, l, q⟩ := hr'.known z
      rw [hp] at q
      cases q
  · obtain ⟨e', rs', hl', hr', nd⟩ := q
    rw [List.length_map, h3.len, List.take_length] at hr'
    have e0 := e1.trans e'
    refine ev_fld (ev_var rfl) (e0 _ _ h1) t.k_Table.cl t.n_Table_cursor l_Table_cursor H' (Ex.refl H') _ fun H2 e2 => ?_
    refine ev_fld (ev_var rfl) ((e0.trans e2) _ _ h1) t.k_Table.cl t.n_Table_clipboard l_Table_clipboard H2 (Ex.refl H2) _ fun H3 e3 => fun a da ha hda hne => ⟨rfl, a, da, _, rfl, upd_same, rfl, ?_⟩
    obtain ⟨e4, d4⟩ := made_ex (C := t.k_Table.C) (f0 := []) (fs := fs_Table (.ref Dl) (.int (tb.at_ : Nat)) (.int tb.clip)) ha hda hne
    have e24 := (e2.trans e3).trans e4
    refine kk _ a (e0.trans e24) ⟨⟨da, Dl, rs', d4, e24 _ _ hl', (hr'.mono (fun b l _ q => e24 _ _ q) fun b z => fresh_back e1 z.1), nd, fresh_back (e0.trans (e2.trans e3)) ha, fresh_back e1 hD, fun z => (hr'.known z).1.2 rfl⟩, ok⟩
/-! ### a run -/
def spRunAll (t : T K mg) : Sp := fun vs H Q _ => ∃ la ta vb p N N' tb, vs = [.ref la, .ref ta] ∧ H la = some (.lst vb) ∧ RowAt t N H p vb ∧ p.depth < 4 ∧ okR p = true ∧ TabAt t N' H ta tb ∧
  ∀ H' ra, Ex H H' → RunAt t (fun b => H b = none) H' ra (VamacBase.badNumber (VamacBase.run p tb).bad) (VamacBase.run p tb) → Q (.ref ra) H'
theorem ok_run_row (t : T K mg) : FnOk P w K mg base CX0 18 t.d_run_row.f t.d_run_row.d ["row", "table"] (spRunAll t) := by
  have G_Table_copied := ok_Table_copied (P := P) (w := w) (base := base) t
  have G_Run_init := ok_Run_init (P := P) (w := w) (base := base) t
  have G_Run_do_row := ok_Run_do_row (P := P) (w := w) (base := base) t 4
  refine t.d_run_row.F.ok sc_run_row (fun vs H Q E h => by obtain ⟨la, ta, vb, p, N, N', tb, rfl, _⟩ := h; rfl) (fun cdv A outer s H vs Q E hr h => ⟨_, (pss_cons (ps_set (i := 2) sc_run_row.nd rfl (Or.inl rfl) (pmake t.d_Run_init t.k_Run.g G_Run_init (hr.mono (by omega)) rfl (pa_cons (pmeth0 (pv 1) t.k_Table.cl t.d_Table_copied G_Table_copied (hr.mono (by omega))) pa_nil)))
  (pss_cons (ps_fld (pv 2) (pmeth (pv 2) t.k_Run.cl t.d_Run_do_row G_Run_do_row (hr.mono (by omega)) (by exact (pa_cons (pv 0) (pa_cons pe_int pa_nil)))) rfl)
  (pss_one (ps_ret (pv 2))))), ?_⟩)
  obtain ⟨la, ta, vb, p, N, N', tb, rfl, hl, hrow, hd, hok, hT, kk⟩ := h
  obtain ⟨⟨dt, lr, rs, t1, t2, t3, t4, t5, t6, t7⟩, ok⟩ := id hT
  refine ⟨_, rfl, ta, dt, _, rfl, t1, m_Table_copied, ta, N', tb, rfl, hT, fun H1 a e1 hT1 => fun ra dr hra hdr hne => ⟨rfl, ra, dr, [.ref a], rfl, upd_same, rfl, ?_⟩⟩
  obtain ⟨e2, d2⟩ := made_ex (C := t.k_Run.C) (f0 := []) (fs := fs_Run (.ref a) (.int 0) (.int 0)) hra hdr hne
  dsimp only [gName]
  generalize L2.upd _ _ _ = H2 at e2 d2 ⊢
  have e02 := e1.trans e2
  have hra0 : H ra = none := fresh_back e1 hra
  have hR : RunAt t (fun b => H b = none) H2 ra 0 ⟨tb, [], none⟩ := ⟨⟨dr, a, d2, hT1.mono2 (fun b o _ q => e2 _ _ q) fun b o z q => ⟨z, ne_of_none q hra⟩⟩, hra0, Nat.zero_le _⟩
  have hout : ∀ b o, H b = some o → Out (fun b => H b = none) b := fun b o q z => by
    have z : H b = none := z
    rw [q] at z
    cases z
  refine ⟨_, rfl, ra, dr, _, rfl, d2, m_Run_do_row, _, rfl, rfl, fun b => H b = none, ra, 0, ⟨tb, [], none⟩, _, ⟨la, vb, p, 0, rfl, hout _ _ hl, e02 _ _ hl, hrow.mono2 (fun b o _ q => e02 _ _ q) (fun b o _ q => hout b o q), hd, hok, Nat.zero_le _, rfl⟩, hR, rfl, fun H3 k3 hR3 => ?_⟩
  obtain ⟨⟨dx, ta3, h3, hT3⟩, n3, l3⟩ := hR3
  have er : VamacBase.runFrom p 0 ⟨tb, [], none⟩ = VamacBase.run p tb := rfl
  rw [er] at h3 hT3 l3 ⊢
  refine ⟨_, rfl, ra, _, dx, _, rfl, h3, t.k_Run.cl, t.n_Run_ended, (by show 3 < 1000; decide), ?_⟩
  rw [p_Run_ended]
  have bk : ∀ b, Or0 (fun b => H b = none) H2 b → H b = none := fun b z => z.elim id (fresh_back e02)
  refine ⟨_, rfl, kk _ ra ?_ ⟨⟨dx, ta3, upd_same, hT3.mono (fun b o z q => ?_) fun b z => ⟨bk b z.1, z.2⟩⟩, hra0, l3⟩⟩
  · exact Ex.mut (fun b o hb => k3 b o (e02 _ _ hb) (hout b o hb)) hra0
  · rw [upd_ne z.2]
    exact q
/-! ### a table as numbers -/
def RNumbers (t : T K mg) : List V → Hp → List V → Prop := fun vs H xs => ∃ ta N tb, vs = [.ref ta] ∧ TabAt t N H ta tb ∧ xs = (VamacBase.flatTable tb).map V.int
theorem s_extend {ta te : TE} {σ : L2.St} {H : Hp} {D : Ends} {l b : Addr} {xs ys : List V} (hl : H l = some (.lst xs)) (ha : Ev ta σ H (.ref l)) (h : Ev te σ H (.ref b)) (hb : H b = some (.lst ys)) (hz : xs.length + ys.length ≤ 100000)
    (k : ∀ H1, Ex H H1 → D.nx σ (L2.upd H1 l (.lst (xs ++ ys)))) : tDrop (tBM K "list" rExtend ta (tCons te tNil)) D σ H := ha H (Ex.refl H) _ fun H1 e1 =>
  ⟨.inl ⟨rfl, xs, .of (e1 _ _ hl)⟩, h H1 e1 _ fun H2 e2 => ⟨l, b, xs, ys, rfl, rfl, e2 _ _ (e1 _ _ hl), (e1.trans e2) _ _ hb, sz_of hz, k H2 (e1.trans e2)⟩⟩
theorem s_extendL {ta te : TE} {σ : L2.St} {H : Hp} {D : Ends} {l : Addr} {xs ys : List V} (hl : H l = some (.lst xs)) (ha : Ev ta σ H (.ref l)) (h : EvL te σ H ys) (hz : xs.length + ys.length ≤ 100000)
    (k : ∀ H1, Ex H H1 → D.nx σ (L2.upd H1 l (.lst (xs ++ ys)))) : tDrop (tBM K "list" rExtend ta (tCons te tNil)) D σ H := ha H (Ex.refl H) _ fun H1 e1 =>
  ⟨.inl ⟨rfl, xs, .of (e1 _ _ hl)⟩, h H1 e1 _ fun b H2 _ e2 hb => ⟨l, b, xs, ys, rfl, rfl, e2 _ _ (e1 _ _ hl), hb, sz_of hz, k H2 (e1.trans e2)⟩⟩
theorem ok_Table_as_numbers (t : T K mg) : FnOk P w K mg base CX0 1 t.d_Table_as_numbers.f t.d_Table_as_numbers.d ["self"] (spL 1 (RNumbers t)) := by
  refine t.d_Table_as_numbers.F.ok sc_Table_as_numbers (fun vs H Q E h => h.1) (fun cdv A outer s H vs Q E hr h => ⟨_, (pss_cons (ps_set (i := 1) sc_Table_as_numbers.nd rfl (Or.inl rfl) (pe_lst (pa_cons (pe_callB call_len_seq rfl t.z_len PySem.boot_len (pa_cons (pe_fld (pv 0) rfl) pa_nil)) pa_nil)))
  (pss_cons (ps_for PassesOwn.never rfl (pi_list (pe_fld (pv 0) rfl)) (pg_name (i := 2) sc_Table_as_numbers.nd rfl (Or.inl rfl)) (pss_one (ps_expr (pe_bm PySem.F.plainAttrs_list PySem.F.slot_list_extend PySem.F.type_list_extend mt_extend (pv 1) (pa_cons (pv 2) pa_nil)))))
  (pss_one (ps_ret (pe_op op_cat (pv 1) (pe_lst (pa_cons (pe_fld (pv 0) rfl) (pa_cons (pe_fld (pv 0) rfl) pa_nil)))))))), ?_⟩)
  obtain ⟨_, xs, ⟨ta, N, tb, rfl, hT, rfl⟩, kk⟩ := h
  obtain ⟨⟨dx, lr, rs, h1, h2, h3, h4, h5, h6, h7⟩, ok⟩ := id hT
  obtain ⟨k1, k2, k3, kc⟩ := okTable_parts ok
  have rws : ∀ {σ H'}, Ex H H' → Ev (tFld K (tVar 0) "rows") (some (V.ref ta) :: σ) H' (.ref lr) := fun e => ev_fld (ev_var rfl) (e _ _ h1) t.k_Table.cl t.n_Table_rows l_Table_rows
  have fl : ∀ i, (tb.rows.take i).flatten.length ≤ 24 := fun i => by
    rw [flatten_len fun r hr => (k2 r (List.mem_of_mem_take hr)).1, List.length_take]
    omega
  refine q_asgL (el_lst (ea_cons (ev_len (rws (Ex.refl H)) (.of h2)) ea_nil) (by show 1 ≤ 100000; decide)) fun g H1 hg e1 hg1 => ?_
  refine q_forLn (rws e1) (.of (e1 _ _ h2)) (fun i σ' H' => ∃ pv, σ' = [some (.ref ta), some (.ref g), pv] ∧ Ex H H' ∧ H' g = some (.lst (((tb.rows.length : Int) :: (tb.rows.take i).flatten).map V.int)))
    (fun H2 e2 => ⟨none, rfl, e1.trans e2, by rw [e2 _ _ hg1, List.length_map, h3.len]; rfl⟩) (fun i σ' H' _ q => ?_) (fun i x σ' H' hx q => ?_) (fun σ' H' q => ?_)
  · obtain ⟨_, _, e', _⟩ := q
    exact .of (e' _ _ h2)
  · obtain ⟨pv, rfl, e', hg'⟩ := q
    rw [List.getElem?_map] at hx
    obtain ⟨r0, hi2, rfl⟩ := Option.map_eq_some_iff.mp hx
    obtain ⟨row, g1, _, g2⟩ := paired_get h3 hi2
    have hm := k2 _ (List.mem_of_getElem? g1)
    have ht : (tb.rows.take (i + 1)).flatten = (tb.rows.take i).flatten ++ row := by
      rw [List.take_add_one, g1, List.flatten_append]
      show _ ++ (row ++ []) = _
      rw [List.append_nil]
    refine s_extend hg' (ev_var rfl) (ev_var rfl) (e' _ _ g2) ?_ fun H2 e2 => ⟨_, rfl, (e'.trans e2).mut hg, ?_⟩
    · rw [List.length_map, List.length_cons, List.length_map, hm.1]
      have := fl i
      omega
    · rw [upd_same, ht, ← List.map_append]
      rfl
  · obtain ⟨pv, rfl, e', hg'⟩ := q
    rw [List.length_map, h3.len, List.take_length] at hg'
    have fl' : tb.rows.flatten.length ≤ 24 := by
      have := fl tb.rows.length
      rw [List.take_length] at this
      exact this
    have ct : EvL (tOp rCat (tVar 1) (tLst (tCons (tFld K (tVar 0) "cursor") (tCons (tFld K (tVar 0) "clipboard") tNil)))) [some (V.ref ta), some (.ref g), pv] H' ((((tb.rows.length : Int) :: tb.rows.flatten).map V.int) ++ [.int (tb.at_ : Nat), .int tb.clip]) := fun H2 e2 Q q =>
      ⟨_, rfl, el_lst (ea_cons (ev_fld (ev_var rfl) ((e'.trans e2) _ _ h1) t.k_Table.cl t.n_Table_cursor l_Table_cursor) (ea_cons (ev_fld (ev_var rfl) ((e'.trans e2) _ _ h1) t.k_Table.cl t.n_Table_clipboard l_Table_clipboard) ea_nil)) (by show 2 ≤ 100000; decide) H2 (Ex.refl H2) _ fun p H3 hp e3 hp3 =>
        ⟨g, p, _, _, rfl, rfl, e3 _ _ (e2 _ _ hg'), hp3, sz_of (by rw [List.length_map, List.length_cons]; show _ + 2 ≤ _; omega), fun l hl => q l _ (fresh_back e3 hl) (e3.trans (Ex.new hl)) upd_same⟩⟩
    refine s_retL ct fun l H3 hl e3 hl3 => kk l H3 (fresh_back e' hl) (e'.trans e3) ?_
    rw [hl3]
    congr 2
    unfold VamacBase.flatTable VamacBase.int
    rw [List.map_cons, List.map_cons, List.map_append]
    rfl
end
end G
/-! A list comprehension whose element calls a def that may raise. -/
namespace G
open PySem PySem.Spec PyProof.Rows L2
/-- the wish about exceptions put in another's place -/
theorem inv_xe {X : Cx} {xe : Value → Shared → Prop} {pins : List (Addr × Obj)} {σ : L2.St} {H : Hp} {s : Shared} (I : Inv X pins σ H s) : Inv { X with xe := xe } pins σ H s := by
  obtain ⟨k, b1, b2, b3, b4, b5, b6, b7, b8, b9, b10⟩ := I
  obtain ⟨c1, c2, c3, c4, c5, c6, c7, c8, c9, c10, c11, c12, c13, c14, c15, c16, c17, c18⟩ := k
  exact ⟨⟨c1, c2, c3, c4, c5, c6, c7, c8, c9, c10, c11, c12, c13, c14, c15, c16, c17, c18⟩, b1, b2, b3, b4, b5, b6, b7, b8, b9, b10⟩
/-- the block of a comprehension, with a wish about exceptions -/
abbrev Blk (X : Cx) (s : Shared) (H : Hp) (scope : Scope) (cenv : Env) (fp : List Addr) (xe : Value → Shared → Prop) : Cx := { X.blk s H scope cenv fp with xe := xe }
/-- what the block wishes: an exception in its air, that flies (it came out of a call) -/
def BlkXe (X : Cx) (s : Shared) (H : Hp) (scope : Scope) (cenv : Env) (fp : List Addr) (W : WX) : Value → Shared → Prop := fun u s' =>
  XE (X.blk s H scope cenv fp) W u s' ∧ ∃ (a : Addr) (B : Heap) (Z : Obj → Prop), u = .ref a ∧ HandSPX.TracedZ s'.heap B a Z .none
theorem blk_passes {X : Cx} {s : Shared} {H : Hp} {scope : Scope} {cenv : Env} {fp : List Addr} {W : WX} (σ : L2.St) : PassesAt (L2.CX X.prog X.w) (Blk X s H scope cenv fp (BlkXe X s H scope cenv fp W)) σ (WE W σ) := fun pins H' s1 u s' I c => by
  have I0 : Inv (X.blk s H scope cenv fp) pins σ H' s1 := inv_xe (xe := fun _ _ => False) I
  refine ⟨XE.of_call (X := X.blk s H scope cenv fp) (E := WE W σ) I0 (fun _ _ _ z => z) c, ?_⟩
  obtain ⟨a, B, H2, cls, d, e, fl, _⟩ := c
  exact ⟨a, B, _, e, fl.2.2.2⟩
/-- a heap without one of its objects -/
theorem hide_keeps {h : Heap} {C b : Addr} {o : Obj} (e : h.get? b = some o) (n : b ≠ C) : (PySem.W.hideAll h [C]).get? b = some o := PySem.W.hideAll_get [C] e (by simpa using n)
theorem hide_of {h : Heap} {C b : Addr} {o : Obj} (e : (PySem.W.hideAll h [C]).get? b = some o) : h.get? b = some o ∧ b ≠ C := by
  refine ⟨PySem.W.of_hideAll _ e, ?_⟩
  rintro rfl
  rw [PySem.W.hideAll_none [b] (List.mem_singleton.mpr rfl)] at e
  cases e
/-- out of the block: the names let go, the exception noted by the def's own frame -/
theorem blk_fails {X : Cx} {W : WX} {pins : List (Addr × Obj)} {σ : L2.St} {H : Hp} {s s' : Shared} {scope : Scope} {cenv : Env} {fp : List Addr} {u : Value} (hs : X.stack = X.env :: X.outer) (hf : X.env.frame = some X.env.locals) (tk : Takes X W)
    (hW : ∀ cls d σ1 σ2 H, W cls d σ1 H → W cls d σ2 H) (I : Inv X pins σ H s) (hce : cenv.frame = X.env.frame) (hC : s.heap.objs.size ≤ cenv.locals)
    (hfp : ∀ b ∈ fp, (b ∈ X.ex ∨ X.s_0.heap.objs.size ≤ b) ∧ b ≠ X.env.locals ∧ (∀ x c, X.env.cells.lookup x = some c → c ≠ b) ∧ ∀ p ∈ X.pn ++ pins, p.1 ≠ b)
    (x : BlkXe X s H scope cenv fp W u s') : notedBy (model X.prog X.w) X.A cenv (CompFails (model X.prog X.w) X.A X.xe cenv) u s' := by
  obtain ⟨⟨a, B, sI, pb, σb, H', cls, d, rfl, J, nb, up, sky, na, os, ag, w⟩, a2, B2, Z2, e2, oe2, vs2, T2, oT2, ts2, g1, _, g2, g3, _, _, g4, g5, g6⟩ := x
  cases e2
  -- it flies
  have fl : HandSPX.FlyingZ B X.stack a (Zc cls d) s'.heap := by
    rcases sky with ⟨_, _, _, oe, vs, k1, _, k2, k3⟩ | k | ⟨_, _, _, oe, vs, T, oT, ts, k1, _, k2, k3, _, _, k4, k5, k6⟩
    · rw [g1] at k1; cases k1
      rw [g2] at k2; cases k2
      rw [g3] at k3; cases k3
    · exact k
    · rw [g1] at k1; cases k1
      rw [g2] at k2; cases k2
      rw [g3] at k3; cases k3
      rw [g4] at k4; cases k4
      rw [g5] at k5; cases k5
      rw [g6] at k6; cases k6
  have hfr : X.A.frames = some (X.env :: X.outer) := by rw [I.ok.frames, hs]
  -- the block's names
  obtain ⟨m, hn, _⟩ := J.loc
  have hn : sI.heap.Ns cenv.locals m := hn
  have hCn : H' cenv.locals = none := J.free
  have hCf : cenv.locals ∉ frs X.stack := fun z => by
    obtain ⟨_, o, ho, _⟩ := I.stack.mem z
    exact absurd (Nat.lt_of_lt_of_le (Heap.lt_size ho) hC) (Nat.lt_irrefl _)
  rw [hs] at fl
  show wpAny _ _ (noteFrame (.ref a) cenv) _ _ s'
  rw [noteFrame_env _ hce]
  refine HandSPX.looks_onZ Zc.steady hfr hf fl fun h1 held up1 => ?_
  have hn1 : h1.Ns cenv.locals m := (hn.upToSlots up).upToSlots up1
  refine ⟨m, hn1, fun h2 m2 hn2 sb => ?_⟩
  obtain ⟨f1, f2, f3, oe, vs, T, oT, ts, q1, qz, q2, q3, q4, q5, q6, q7, q8⟩ := held
  have noC : ∀ {b : Addr} {o : Obj} {vs : Array Value}, h1.get? b = some o → o.data = .fields vs → b ≠ cenv.locals := fun {b o vs} e1 e2 z => by
    obtain ⟨o', _, _, eo, ed, _⟩ := hn1
    rw [z, eo] at e1
    cases e1
    rw [ed] at e2
    cases e2
  -- the ground without the names
  have k1 : (PySem.W.hideAll B [cenv.locals]).StaysIn h2 := fun b o e => (sb.2 b (hide_of e).2).trans (f1 b o (hide_of e).1)
  have none_of : ∀ {b : Addr}, B.get? b = none → (PySem.W.hideAll B [cenv.locals]).get? b = none := fun {b} e => by
    cases z : (PySem.W.hideAll B [cenv.locals]).get? b with
    | none => rfl
    | some o => rw [(hide_of z).1] at e; cases e
  have k3 : h2.FunFrames (PySem.W.hideAll B [cenv.locals]) (X.env :: X.outer) := funFrames_none (Heap.FunFrames.sameBut sb hn2 f3) fun b hb => none_of (Heap.FunFrames.mem f3 hb).1
  have held2 : HandSPX.HeldZ (PySem.W.hideAll B [cenv.locals]) (X.env :: X.outer) a (Zc cls d) X.env.locals h2 :=
    ⟨k1, none_of f2, k3, oe, vs, T, oT, ts, (sb.2 _ (noC q1 q2)).trans q1, qz, q2, q3, none_of q4, q5, (sb.2 _ (noC q6 q7)).trans q6, q7, q8⟩
  unfold PySem.passOn
  refine wpAny_bind (wpAny_field ((sb.2 _ (noC q1 q2)).trans q1) q2 q3 ?_)
  rw [if_neg (by simp), hce, hf]
  refine wpAny_bind (HandSPX.setFlight_onZ (s := { s' with heap := h2 }) held2 fun h3 held3 up3 => wpAny_throw ?_)
  -- what the def's own wish takes
  refine tk _ _ ⟨a, PySem.W.hideAll B [cenv.locals], { sI with heap := PySem.W.hideAll sI.heap [cenv.locals] }, pins, σ, H', cls, d, rfl, ?_, fun b o e n => hide_keeps (nb b o (hide_of e).1 n) (hide_of e).2, fun b o e nd => ?_, .inr (.inr (by rw [hs]; exact held3)), na, os, ag, hW _ _ _ _ _ w⟩
  · have nC : ∀ b o, s.heap.get? b = some o → b ≠ cenv.locals := fun b o e => Nat.ne_of_lt (Nat.lt_of_lt_of_le (Heap.lt_size e) hC)
    have bse : Un (frs X.stack) fp H H' s.heap sI.heap := J.base
    refine I.call' (ch := fp) J.os ⟨fun b o e n1 n2 n3 => hide_keeps (bse.keep b o e n1 n2 n3) (nC b o e), fun b o e n1 n2 n3 => (bse.slot b o e n1 n2 n3).imp fun _ z => hide_keeps z (nC b o e), bse.free, fun b o e n => (bse.there b o e n).imp fun _ z => hide_keeps z (nC b o e), bse.tups, bse.frzs, bse.tbls⟩ (fun b o q => ?_) J.bare hfp
    refine (J.hok b o q).stay (fun c v z r => hide_keeps r ?_) (fun _ r => r) fun _ _ r => r
    rintro rfl
    rcases z with rfl | z
    · rw [hCn] at q; cases q
    · rw [hCn] at z; cases z
  · obtain ⟨e0, ne⟩ := hide_of e
    obtain ⟨_, e1⟩ := up b o e0 nd
    obtain ⟨_, e2⟩ := up1 b _ e1 nd
    obtain ⟨s3, e3⟩ := up3 b _ ((sb.2 b ne).trans e2) nd
    exact ⟨s3, e3⟩
/-- [elt for target in iter], elt a call that may raise: read as the library's comprehension, what it raises wished for in elt's reading -/
theorem pe_lcX {X : Cx} {W : WX} {elt tg iter : Expr} {scope : Scope} {own : List (Str × Nat)} {pos : Pos} {wi : TI} {g : TG} {te : TE} (hs : X.stack = X.env :: X.outer) (hf : X.env.frame = some X.env.locals) (tk : Takes X W) (hW : ∀ cls d σ1 σ2 H, W cls d σ1 H → W cls d σ2 H)
    (hc : X.calm = true) (hN : X.N.Nodup) (hi : PI X tg iter wi) (ok : BlkOk X.N X.env.scope scope own)
    (hg : ∀ (s : Shared) (H : Hp) (C : Addr) (cl : List (Str × Addr)) (fp : List Addr) (xe : Value → Shared → Prop), PG (Blk X s H scope (compEnvC scope cl C X.env) fp xe) tg g)
    (he : ∀ (s : Shared) (H : Hp) (C : Addr) (cl : List (Str × Addr)) (fp : List Addr) (xe : Value → Shared → Prop), (∀ σ, PassesAt (L2.CX X.prog X.w) (Blk X s H scope (compEnvC scope cl C X.env) fp xe) σ (WE W σ)) → PE (Blk X s H scope (compEnvC scope cl C X.env) fp xe) elt te)
    (hfi : ∀ x, foldedSetIterable iter X.env x = pure x := by intro _; rfl) : PE X (.ListComp elt [⟨tg, iter, [], 0⟩] scope pos) (tLc wi g tYes te (own.map (·.2))) := by
  constructor
  intro pins s σ H Q I h
  rw [eval_ListComp]
  have cellsOf : ∀ y ∈ scope.names, y.2 = .free → ∃ c, X.env.cells.lookup y.1 = some c := fun y hy e => I.ok.has _ (ok.free y hy e)
  refine comprehension_at (use := none) rfl hfi (closure_ok cellsOf) ok.kind (fun y hy e => by rw [ok.uniq y hy, e]) (thn (hi.run pins s σ H _ I h) fun xv s1 hx => thn hx fun itv s2 hit => ?_)
  obtain ⟨it, fp, tn, J, H2, rfl, I2, T, st2, f2, q⟩ := hit
  refine wpAny_newObj_type (newEnv_comp ?_) (Nat.zero_le _)
  generalize hD : s2.heap.objs.size = D
  have newD : H2 D = none := I2.hok.fresh (Nat.le_of_eq hD)
  obtain ⟨Wv, ⟨m0, w0⟩, turn⟩ := q D newD
  generalize hs3 : ({ s2 with heap := s2.heap.push { cls := .type "list", data := .seq ([] : List Value).toArray } } : Shared) = s3
  have h3 : s3.heap = s2.heap.push { cls := .type "list", data := .seq ([] : List Value).toArray } := by
    rw [← hs3]
  have old3 : ∀ b o, s2.heap.get? b = some o → s3.heap.get? b = some o := fun b o e => by
    rw [h3]
    exact Heap.get?_push_of_some _ e
  -- the list, tracked
  have I3 : Inv X pins σ (L2.upd H2 D (.lst [])) s3 := by
    subst hs3
    subst hD
    exact I2.laid (t' := s2.toks) (fun b o e => Heap.get?_push_of_some _ e) (Nat.le_refl _) ⟨Nat.zero_le _, [], 0, .nil, Heap.get?_push_size _ rfl⟩
  have low : ∀ b ∈ fp, b < s2.heap.objs.size := fun b hb => (T.obj _ _ st2 b hb).elim fun _ z => Heap.lt_size z.1
  have f3 : ∀ b ∈ fp, FpOk X pins (L2.upd H2 D (.lst [])) b ∧ b < s3.heap.objs.size := fun b hb => by
    have lt := low b hb
    have nD : b ≠ D := by
      rw [← hD]
      exact Nat.ne_of_lt lt
    refine ⟨⟨(upd_ne nD).trans (f2 b hb).1, (f2 b hb).2⟩, ?_⟩
    rw [h3, Heap.size_push]
    exact Nat.lt_succ_of_lt lt
  have st3 : tn 0 s3.heap := T.keep _ _ _ st2 fun b _ o e => old3 b o e
  -- the block's names, a context of its own
  have I4 := block_start I3 ok hN f3
  have pg := hg s3 (L2.upd H2 D (.lst [])) s3.heap.objs.size (cellsFrom (s3.heap.objs.size + 1) scope.names (cloFrom X.env.cells scope.names [])) fp
  have pe := he s3 (L2.upd H2 D (.lst [])) s3.heap.objs.size (cellsFrom (s3.heap.objs.size + 1) scope.names (cloFrom X.env.cells scope.names [])) fp
  show codeAny _ _ (.compStart (.ListComp elt [⟨tg, iter, [], 0⟩] scope pos) 0 (.ref it) (.ref D) (compEnvC scope (cellsFrom (s3.heap.objs.size + 1) scope.names (cloFrom X.env.cells scope.names [])) s3.heap.objs.size X.env))
    (compEnds (model X.prog X.w) X.A X.xe none (EP X pins σ Q) (.ref D) (compEnvC scope (cellsFrom (s3.heap.objs.size + 1) scope.names (cloFrom X.env.cells scope.names [])) s3.heap.objs.size X.env)) { s3 with heap := pushCells (s3.heap.push { cls := .type "dict", data := .dict #[] }) scope.names }
  generalize hce : compEnvC scope (cellsFrom (s3.heap.objs.size + 1) scope.names (cloFrom X.env.cells scope.names [])) s3.heap.objs.size X.env = ce at I4 pg pe ⊢
  have ceL : ce.locals = s3.heap.objs.size := by rw [← hce]; rfl
  have ceF : ce.frame = X.env.frame := by rw [← hce]; rfl
  generalize hH3 : L2.upd H2 D (.lst []) = H3 at I3 I4 pg pe w0 f3
  generalize hs4 : ({ s3 with heap := pushCells (s3.heap.push { cls := .type "dict", data := .dict #[] }) scope.names } : Shared) = s4 at I4 ⊢
  have st4 : tn 0 s4.heap := T.keep _ _ _ st3 fun b _ o e => by
    subst hs4
    exact pushCells_keeps _ _ _ _ (Heap.get?_push_of_some _ e)
  generalize hxe : BlkXe X s3 H3 scope ce fp W = xe
  have pe := pe xe (by rw [← hxe]; exact fun σ => blk_passes σ)
  have pg := pg xe
  have fpOut : ∀ b ∈ fp, (b ∈ X.ex ∨ X.s_0.heap.objs.size ≤ b) ∧ b ≠ X.env.locals ∧ (∀ x c, X.env.cells.lookup x = some c → c ≠ b) ∧ ∀ p ∈ X.pn ++ pins, p.1 ≠ b := fun b hb =>
    let z := (f3 b hb).1
    ⟨z.2.2.2.1, z.2.1, z.2.2.2.2.1, z.2.2.2.2.2⟩
  have out : ∀ {u : Value} {s' : Shared}, xe u s' → notedBy (model X.prog X.w) X.A ce (fun e s' => compEnds (model X.prog X.w) X.A X.xe none (EP X pins σ Q) (.ref D) ce (.error e) s') u s' := fun {u s'} z => by
    rw [← hxe] at z
    exact blk_fails hs hf tk hW I3 ceF (Nat.le_of_eq ceL.symm) fpOut z
  have stand : ∀ {σ' : L2.St} {H' : Hp} {s' : Shared} {pn : List (Addr × Obj)}, Inv (Blk X s3 H3 scope ce fp xe) pn σ' H' s' → (∀ b ∈ fp, H' b = none) → (∀ b ∈ fp, ∀ p ∈ pn, p.1 ≠ b) → ∀ b ∈ fp, FpOk (Blk X s3 H3 scope ce fp xe) pn H' b := fun {σ' H' s' pn} I' hn hp b hb =>
    ⟨hn b hb, (I'.ok.exf b hb).1, I'.ok.exfs b hb, .inl hb, fun x c e => (I'.ok.exf b hb).2 x c e, fun p z => hp b hb p (by simpa using z)⟩
  refine codeAny_compStart_list ?_ (T.self X.A 0 _ _ _ st4 ?_)
  all_goals
    refine compLoop_any (fun n s' => ∃ i H', Inv (Blk X s3 H3 scope ce fp xe) [] (wipe σ (own.map (·.2))) H' s' ∧ tn i s'.heap ∧ (∀ b ∈ fp, H' b = none) ∧ Wv i n H') ?_ m0 ⟨0, H3, inv_xe I4, st4, fun b hb => (f3 b hb).1.1, w0⟩
    rintro n s5 ⟨i, H5, I5, st5, n5, w5⟩
    have pins0 : ∀ b ∈ fp, ∀ p ∈ ([] : List (Addr × Obj)), p.1 ≠ b := fun _ _ p z => (List.not_mem_nil z).elim
    rcases turn i n H5 w5 with ⟨stop, qq⟩ | ⟨go, Nx, hNx, step⟩
    · refine thnF (T.done (Blk X s3 H3 scope ce fp xe) rfl rfl rfl hc i [] s5 _ H5 (fun _ _ => False) I5 (stand I5 n5 pins0) st5 stop) fun r s6 z => ?_
      obtain ⟨rfl, I6⟩ := z
      have nC : H5 ce.locals = none := I6.free
      obtain ⟨m, hn, _⟩ := I6.loc
      have hn : s6.heap.Ns ce.locals m := hn
      have I7 : Inv X pins σ H5 s6 := I3.call' (ch := fp) I6.os I6.base I6.hok I6.bare fpOut
      have fC : FpOk X pins H5 ce.locals := I3.fpOk (Nat.le_of_eq ceL.symm) nC
      refine ⟨m, hn, fun h' sb => ⟨.ref D, H5, ?_, rfl, qq⟩⟩
      exact I7.turned (t' := s6.toks) (fun b o hb e => (sb.2 b hb).trans e) fC.1 fC.2.1 fC.2.2.2.1 fC.2.2.2.2.1 fC.2.2.2.2.2
    · refine thnF (T.item (Blk X s3 H3 scope ce fp xe) rfl rfl rfl hc i [] s5 _ H5 (fun _ _ => False) I5 (stand I5 n5 pins0) st5 go) fun r s6 z => ?_
      obtain ⟨u, rfl, h6⟩ := z
      refine thnF h6 fun _ s7 ⟨x, H7, I7, r7, y7, st7, n7⟩ => ?_
      have I7' := I7.pinned (stand I7 n7 pins0) (T.obj _ _ st7)
      refine wpAny_mono (pg.run _ s7 _ H7 x u _ I7' r7 (step x H7 y7)) (fun _ s8 z => ?_) fun e s' z => out z
      obtain ⟨σ8, H8, I8, hw8, q8⟩ := z
      refine wpAny_mono ((pts_nil (X := Blk X s3 H3 scope ce fp xe)).run _ s8 σ8 H8 _ I8 q8) (fun b s9 z => ?_) fun e s' z => out z
      obtain ⟨H9, I9, q9⟩ := z
      -- behind a turn
      have again : ∀ {s' : Shared} {H' : Hp}, Inv (Blk X s3 H3 scope ce fp xe) ([] ++ pinsAt fp s7.heap) σ8 H' s' → Nx H' → ∃ m, m < n ∧ ∃ i H', Inv (Blk X s3 H3 scope ce fp xe) [] (wipe σ (own.map (·.2))) H' s' ∧ tn i s'.heap ∧ (∀ b ∈ fp, H' b = none) ∧ Wv i m H' := fun {s' H'} I' nx => by
        obtain ⟨m', lt, w'⟩ := hNx H' nx
        have there : ∀ b ∈ fp, ∀ o, s7.heap.get? b = some o → s'.heap.get? b = some o ∧ H' b = none := fun b hb o e => by
          have z := I'.pin (b, o) (List.mem_append_right _ (List.mem_append_right _ (mem_pinsAt hb e)))
          exact ⟨z.1, z.2.1⟩
        have len8 : (wipe σ (own.map (·.2))).length = σ8.length := by
          rw [← hw8, wipe_length]
        refine ⟨m', lt, i + 1, H', (I'.unpinned (pins := [])).weak len8 (fun j v e => ?_), T.keep _ _ _ st7 fun b hb o e => (there b hb o e).1, fun b hb => ?_, w'⟩
        · rw [← hw8] at e
          exact (wipe_some e).1
        · obtain ⟨o, e, _⟩ := T.obj _ _ st7 b hb
          exact (there b hb o e).2
      cases b with
      | false =>
        rw [if_neg Bool.false_ne_true] at q9 ⊢
        exact again I9 q9
      | true =>
        rw [if_pos rfl] at q9 ⊢
        refine wpAny_mono (pe.run _ s9 σ8 H9 _ I9 q9) (fun z s10 w10 => ?_) fun e s' z => out z
        obtain ⟨yv, H10, I10, r10, acc, hD10, hz10, nx⟩ := w10
        exact wpAny_mono (app_ok (X := Blk X s3 H3 scope ce fp xe) (E := fun _ _ => False) I10 hD10 hz10 r10 fun s11 I11 => again I11 nx) (fun _ _ z => z) fun _ _ z => z.elim
/-- the call within the block -/
theorem pcallP {X : Cx} {k : Nat} {x : Str} {st : Stmt} {ps : List Str} {sp : Sp} {p pos : Pos} {e : Expr} {es : List Expr} {ta : TA} {W : WX} (D : Dg X.K X.mg x st ps) (F : FnOk X.prog X.w X.K X.mg X.base (L2.CX X.prog X.w) k D.f D.d ps sp) (hr : Room k X.A) (hg : Gl X x)
    (hp : ∀ σ, PassesAt (L2.CX X.prog X.w) X σ (WE W σ)) (ha : PA X (e :: es) ta) (hdb : (x == ("__debug__" : Str)) = false := by decide)
    (he : starEach (e :: es) X.env = (false, eval e X.env) :: starEach es X.env := by rfl) (hpl : (backTo pos (starEach es X.env)).any (·.1) = false := by rfl) : PE X (.Call (.Name x p) (e :: es) [] pos) (tCallS sp (WE W) ta) :=
  pe_callS F hr hg D.g D.F.kp D.b hp ha hdb he hpl
end G
/-! A table read. -/
namespace G
open PySem PySem.Spec PyProof.Rows L2 Evl My
section
variable {K : PySem.W.Frag} {mg : Str → Option Value} {P : Program} {w : World} {base : Heap}
def spTable (t : T K mg) : Sp := fun vs H Q E => ∃ na ns, vs = [.ref na] ∧ SqL K H na (ns.map V.int) ∧ ns.length ≤ 100000 ∧ (VamacBase.whole VamacBase.readTable ns = none → ∀ H', Ex H H' → E (.ref t.x_NotWhole.C) none H') ∧
  (∀ tb, VamacBase.whole VamacBase.readTable ns = some tb → ∀ H' a, Ex H H' → TabAt t (fun b => H b = none) H' a tb → Q (.ref a) H')
theorem ok_read_table (t : T K mg) : FnOk P w K mg base (L2.CX P w) 6 t.d_read_table.f t.d_read_table.d ["numbers"] (spTable t) := by
  have G_Reader_init := ok_Reader_init (P := P) (w := w) (base := base) t
  have G_Reader_take_within := ok_Reader_take_within (P := P) (w := w) (base := base) t
  have G_read_value := ok_read_value (P := P) (w := w) (base := base) t
  have G_Reader_finish := ok_Reader_finish (P := P) (w := w) (base := base) t
  have G_Table_init := ok_Table_init (P := P) (w := w) (base := base) t
  refine t.d_read_table.F.okX sc_read_table (fun vs H Q E h => by obtain ⟨na, ns, rfl, _⟩ := h; rfl) (fun cdv A outer s H vs Q E hr h => ⟨_, (pss_cons (ps_set (i := 1) sc_read_table.nd rfl (Or.inr rfl) (pmake t.d_Reader_init t.k_Reader.g G_Reader_init (hr.mono (by omega)) rfl (pa_cons (pv 0) pa_nil)))
  (pss_cons (ps_set (i := 2) sc_read_table.nd rfl (Or.inl rfl) (pmethS (pv 1) t.k_Reader.cl t.d_Reader_take_within G_Reader_take_within (hr.mono (by omega)) (takes_of rfl rfl rfl rfl) (by exact (pa_cons pe_int (pa_cons (pe_cst rfl t.c_MOST_ROWS) pa_nil)))))
  (pss_cons (ps_set (i := 3) sc_read_table.nd rfl (Or.inl rfl) (pe_lst pa_nil))
  (pss_cons (ps_for (passes_of rfl) rfl (pi_range1 rfl t.z_range (pa_cons (pv 2) pa_nil)) (pg_name (i := 4) sc_read_table.nd rfl (Or.inl rfl)) (pss_one (ps_expr (pe_bm PySem.F.plainAttrs_list PySem.F.slot_list_append PySem.F.type_list_append mt_append (pv 3) (pa_cons (pe_lcX (own := [("field", 7)]) (g := gName 7) rfl rfl (takes_of rfl rfl rfl rfl) (fun _ _ _ _ _ h => h) rfl sc_read_table.nd (pi_range1 rfl t.z_range (pa_cons (pe_cst rfl t.c_FIELDS) pa_nil)) (blkOk_by (N := ["numbers", "reader", "count", "rows", "place", "cursor", "clipboard", "field"]) (sc := defScope s_read_table) (by decide +kernel)) (fun _ _ _ _ _ _ => pg_name (i := 7) sc_read_table.nd rfl (Or.inl rfl)) (fun _ _ _ _ _ _ tk => (pcallP t.d_read_value G_read_value (hr.mono (by omega)) rfl tk (pa_cons (pv 1) pa_nil)))) pa_nil)))))
  (pss_cons (ps_set (i := 5) sc_read_table.nd rfl (Or.inl rfl) (pmethS (pv 1) t.k_Reader.cl t.d_Reader_take_within G_Reader_take_within (hr.mono (by omega)) (takes_of rfl rfl rfl rfl) (by exact (pa_cons pe_int (pa_cons (pv 2) pa_nil)))))
  (pss_cons (ps_set (i := 6) sc_read_table.nd rfl (Or.inl rfl) (pcallS t.d_read_value G_read_value (hr.mono (by omega)) rfl (takes_of rfl rfl rfl rfl) (pa_cons (pv 1) pa_nil)))
  (pss_cons (ps_expr (pmethS0 (pv 1) t.k_Reader.cl t.d_Reader_finish G_Reader_finish (hr.mono (by omega)) (takes_of rfl rfl rfl rfl)))
  (pss_one (ps_ret (pmake t.d_Table_init t.k_Table.g G_Table_init (hr.mono (by omega)) rfl (pa_cons (pv 3) (pa_cons (pv 5) (pa_cons (pv 6) pa_nil))))))))))))), ?_⟩)
  obtain ⟨na, ns, rfl, hq, hsz, kN, kS⟩ := h
  refine ⟨_, rfl, fun r dr hr0 hd0 hne => ⟨rfl, r, dr, [.ref na], rfl, upd_same, rfl, ?_⟩⟩
  obtain ⟨e1, d1⟩ := made_ex (C := t.k_Reader.C) (f0 := []) (fs := fs_Reader (.ref na) (.int 0)) hr0 hd0 hne
  dsimp only [gName]
  generalize L2.upd _ _ _ = H1 at e1 d1 ⊢
  -- a reader that stands in a heap that knows what was known
  have rd : ∀ {H' : Hp} {j : Nat}, Ex H H' → (∃ dx, H' r = some (.ins t.k_Reader.C dx (fs_Reader (.ref na) (.int (j : Nat))))) → j ≤ ns.length → RdAt t H' r na r ns j := fun e ho le => ⟨ho, far_ex e (far_new hq hr0), le, hsz⟩
  refine q_asgM (ev_var rfl) d1 m_Reader_take_within (ea_cons ev_c (ea_cons ev_c ea_nil)) fun H2 e2 => ⟨r, na, r, ns, 0, 0, 8, rfl, rd (e1.trans e2) ⟨dr, e2 _ _ d1⟩ (Nat.zero_le _), fun e H3 b3 => kN (whole_none (by rw [readTable_eq]; show Option.bind (VamacBase.readNat 0 8 (ns.drop 0)) _ = none; rw [nat_none (lo := 0) (hi := 8) e]; rfl)) H3 (b3.exr (e1.trans e2) hr0), fun n j e H3 v b3 hR3 hv => ?_⟩
  obtain rfl : v = .int n := hv
  obtain ⟨n1, n2, n3, n4⟩ := nat_some (lo := 0) (hi := 8) e
  have e03 : Ex H H3 := b3.exr (e1.trans e2) hr0
  have tb0 : ∀ {o}, VamacBase.readTimes rowM3 n.toNat (ns.drop j) = o → VamacBase.readTable ns = o.bind fun rs => (VamacBase.readNat 0 n.toNat rs.2).bind fun c => (VamacBase.readValue c.2).map fun v => (⟨rs.1, c.1, v.1⟩, v.2) := fun {o} eo => by
    rw [readTable_eq]
    show (VamacBase.readNat 0 8 (ns.drop 0)).bind _ = _
    rw [n1]
    show (VamacBase.readTimes rowM3 n.toNat (ns.drop j)).bind _ = _
    rw [eo]
  generalize ho : VamacBase.readTimes rowM3 n.toNat (ns.drop j) = o at tb0
  have tb0 := tb0 rfl
  refine q_asgL (el_lst ea_nil (by decide)) fun l H4 hl e4 hl4 => ?_
  have hlr : l ≠ r := by
    rintro rfl
    obtain ⟨d2, q⟩ := hR3.o
    rw [hl] at q
    cases q
  have hl0 : H l = none := fresh_back e03 hl
  have hR4 := hR3.ex e4
  refine q_forR1 (n := n) (ea_cons (ev_var rfl) ea_nil) ⟨by omega, by omega⟩ (fun m σ' H' => ∃ pv rows rs j', σ' = [some (.ref na), some (.ref r), some (.int n), some (.ref l), pv, none, none, none] ∧ Ex H H' ∧ RdAt t H' r na r ns j' ∧ H' l = some (.lst (rs.map V.ref)) ∧ RowsAt (fun b => H b = none ∧ b ≠ l ∧ b ≠ r) H' rs rows ∧ rs.Nodup ∧ rows.length ≤ m ∧ m ≤ 8 ∧
    o = (VamacBase.readTimes rowM3 (n.toNat - m) (ns.drop j')).map fun u => (rows ++ u.1, u.2))
    (fun H5 e5 => ⟨none, [], [], j, rfl, (e03.trans e4).trans e5, hR4.ex e5, e5 _ _ hl4, .nil, List.nodup_nil, Nat.le_refl _, by omega, by rw [← ho]; exact readTimes_start⟩) ?_ ?_
  · rintro m σ' H' hm ⟨pv, rows, rs, j', rfl, e', hR', hl', hrs, nd, hq1, hm8, hoe⟩
    obtain ⟨k', hk'⟩ : ∃ k', n.toNat - m = k' + 1 := ⟨n.toNat - m - 1, by omega⟩
    rw [hk'] at hoe
    obtain ⟨turnN, turnS⟩ := readTimes_turn hoe
    refine ⟨_, rfl, .inl ⟨rfl, _, SqL.of hl'⟩, ⟨3, rfl, by omega, by omega, fun Dl hD => ?_⟩⟩
    have hDr : Dl ≠ r := by
      rintro rfl
      obtain ⟨d2, q⟩ := hR'.o
      rw [hD] at q
      cases q
    have hDl : Dl ≠ l := by
      rintro rfl
      rw [hl'] at hD
      cases hD
    have hD0 : H Dl = none := fresh_back e' hD
    generalize hrow : rowM3 (ns.drop j') = ro at turnN turnS
    refine lc_range (lo := 0) (n := 3) (fun i H5 => ∃ q j2, Ex H H5 ∧ Two r Dl H' H5 ∧ RdAt t H5 r na r ns j2 ∧ H5 Dl = some (.lst (q.map V.int)) ∧ q.length = i ∧ ro = (VamacBase.readTimes VamacBase.readValue (3 - i) (ns.drop j2)).map fun u => (q ++ u.1, u.2))
      ⟨[], j', e'.mut hD0, (Two.of (But.refl r H')).upd, rd (e'.mut hD0) (hR'.o.imp fun _ z => by rw [upd_ne (Ne.symm hDr)]; exact z) hR'.le, upd_same, rfl, by rw [← hrow]; exact readTimes_start⟩ ?_ ?_
    · rintro i H5 hi ⟨q, j2, e5, t5, hR5, hDl5, hqi, hoi⟩
      refine ⟨rfl, ?_⟩
      obtain ⟨ki, hki⟩ : ∃ ki, 3 - i = ki + 1 := ⟨3 - i - 1, by omega⟩
      rw [hki] at hoi
      obtain ⟨tN, tS⟩ := readTimes_turn hoi
      refine ⟨_, rfl, r, na, r, ns, j2, rfl, hR5, fun e6 H6 b6 => kN (whole_none ?_) H6 (b6.exr e5 hr0), fun u j3 eu H6 v b6 hR6 hv => ?_⟩
      · rw [tb0, turnN (tN e6)]
        rfl
      · obtain rfl : v = .int u := hv
        have hDl6 : H6 Dl = some (.lst (q.map V.int)) := b6 _ _ hDl5 hDr
        have e6 : Ex H (L2.upd H6 Dl (.lst (q.map V.int ++ [.int u]))) := (b6.exr e5 hr0).mut hD0
        refine ⟨q.map V.int, hDl6, by rw [List.length_map]; exact sz_lt (by omega), q ++ [u], j3, e6, (t5.trans (Two.of b6)).upd, rd e6 (hR6.o.imp fun _ z => by rw [upd_ne (Ne.symm hDr)]; exact z) hR6.le, ?_, by rw [List.length_append, hqi]; rfl, ?_⟩
        · rw [upd_same, List.map_append]
          rfl
        · rw [tS u _ eu]
          congr 2
          omega
    · rintro H5 ⟨q, j2, e5, t5, hR5, hDl5, hqi, hoi⟩
      have hoi' : ro = some (q, ns.drop j2) := by
        rw [hoi]
        show some (q ++ [], _) = _
        rw [List.append_nil]
      have hl5 : H5 l = some (.lst (rs.map V.ref)) := t5 _ _ hl' hlr (Ne.symm hDl)
      refine ⟨l, _, .ref Dl, rfl, rfl, hl5, ?_, some (.int m), rows ++ [q], rs ++ [Dl], j2, rfl, e5.mut hl0, rd (e5.mut hl0) (hR5.o.imp fun _ z => by rw [upd_ne (Ne.symm hlr)]; exact z) hR5.le, ?_, ?_, ?_, ?_, by omega, ?_⟩
      · rw [List.length_map, hrs.len]
        exact sz_lt (by omega)
      · rw [upd_same, List.map_append]
        rfl
      · refine paired_append (RowsAt.frame (H := H') (fun b hb z hz => ?_) (fun _ _ z => z) hrs) (.cons ⟨⟨hD0, hDl, hDr⟩, ?_⟩ .nil)
        · obtain ⟨⟨_, g2, g3⟩, _⟩ := hrs.known hb
          rw [upd_ne g2]
          refine t5 _ _ hz g3 ?_
          rintro rfl
          rw [hD] at hz
          cases hz
        · rw [upd_ne hDl]
          exact hDl5
      · refine nodup_snoc nd fun z => ?_
        obtain ⟨_, l', q⟩ := hrs.known z
        rw [hD] at q
        cases q
      · rw [List.length_append]
        show rows.length + 1 ≤ m + 1
        omega
      · rw [turnS q _ hoi']
        congr 2
        omega
  · rintro σ' H' ⟨pv, rows, rs, j', rfl, e', hR', hl', hrs, nd, hq1, hm8, hoe⟩
    rw [Nat.sub_self] at hoe
    have hoe' : o = some (rows, ns.drop j') := by
      rw [hoe]
      show some (rows ++ [], _) = _
      rw [List.append_nil]
    rw [hoe'] at tb0
    obtain ⟨dx', d'⟩ := hR'.o
    refine q_asgM (ev_var rfl) d' m_Reader_take_within (ea_cons ev_c (ea_cons (ev_var rfl) ea_nil)) fun H5 e5 => ⟨r, na, r, ns, j', 0, n, rfl, hR'.ex e5, fun e H6 b6 => kN (whole_none ?_) H6 (b6.exr (e'.trans e5) hr0), fun c j2 ec H6 v b6 hR6 hv => ?_⟩
    · rw [← n2] at e
      rw [tb0]
      show (VamacBase.readNat 0 n.toNat (ns.drop j')).bind _ = none
      rw [nat_none (lo := 0) (hi := n.toNat) e]
      rfl
    obtain rfl : v = .int c := hv
    rw [← n2] at ec
    obtain ⟨c1, c2, c3, c4⟩ := nat_some (lo := 0) (hi := n.toNat) ec
    have e06 : Ex H H6 := b6.exr (e'.trans e5) hr0
    refine q_asgS (ea_cons (ev_var rfl) ea_nil) fun H7 e7 => ⟨r, na, r, ns, j2, rfl, hR6.ex e7, fun e H8 b8 => kN (whole_none ?_) H8 (b8.exr (e06.trans e7) hr0), fun u j3 eu H8 v b8 hR8 hv => ?_⟩
    · rw [tb0]
      show (VamacBase.readNat 0 n.toNat (ns.drop j')).bind _ = none
      rw [c1]
      show (VamacBase.readValue (ns.drop j2)).map _ = none
      rw [e]
      rfl
    obtain rfl : v = .int u := hv
    have ert : VamacBase.readTable ns = some (⟨rows, c.toNat, u⟩, ns.drop j3) := by
      rw [tb0]
      show (VamacBase.readNat 0 n.toNat (ns.drop j')).bind _ = _
      rw [c1]
      show (VamacBase.readValue (ns.drop j2)).map _ = _
      rw [eu]
      rfl
    have e08 : Ex H H8 := b8.exr (e06.trans e7) hr0
    obtain ⟨dx8, d8⟩ := hR8.o
    refine q_dropM (ev_var rfl) d8 m_Reader_finish ea_nil fun H9 e9 => ⟨r, na, r, ns, j3, rfl, hR8.ex e9, fun e Ha ea => kN (whole_more ert e) Ha ((e08.trans e9).trans ea), fun e Ha ea => ?_⟩
    have ew : VamacBase.whole VamacBase.readTable ns = some ⟨rows, c.toNat, u⟩ := whole_some (by rw [ert, e])
    have e8a := e9.trans ea
    refine ⟨_, rfl, _, rfl, _, rfl, fun a da ha hda hne2 => ⟨rfl, a, da, _, rfl, upd_same, rfl, ?_⟩⟩
    obtain ⟨eb, db⟩ := made_ex (C := t.k_Table.C) (f0 := []) (fs := fs_Table (.ref l) (.int c) (.int u)) ha hda hne2
    -- the rows and their list, from where they were read
    have st : ∀ b o, H' b = some o → b ≠ r → Ha b = some o := fun b o z nr => e8a _ _ (b8 _ _ (e7 _ _ (b6 _ _ (e5 _ _ z) nr)) nr)
    refine kS _ ew _ a ((e08.trans e8a).trans eb) ⟨⟨da, l, rs, ?_, eb _ _ (st _ _ hl' hlr), (RowsAt.frame (H := H') (fun b hb z hz => eb _ _ (st _ _ hz (hrs.known hb).1.2.2)) (fun _ _ z => z.1) hrs), nd, fresh_back (e08.trans e8a) ha, hl0, fun z => (hrs.known z).1.2.1 rfl⟩, readTable_ok ert⟩
    rw [show ((⟨rows, c.toNat, u⟩ : VamacBase.Table).at_ : Int) = c from c2]
    exact db
end
end G
/-! Recordings: read; as numbers. -/
namespace G
open PySem PySem.Spec PyProof.Rows L2 Evl My
section
variable {K : PySem.W.Frag} {mg : Str → Option Value} {P : Program} {w : World} {base : Heap}
/-- a recording's deeds -/
def DeedsAt (t : T K mg) (N : Addr → Prop) (H : Hp) (rs : List Addr) (ds : List VamacBase.Deed) : Prop := Paired (fun a d => N a ∧ DeedAt t H a d 0) rs ds
theorem DeedsAt.mono {t : T K mg} {N N' : Addr → Prop} {H H' : Hp} {rs : List Addr} {ds : List VamacBase.Deed} (k : ∀ b C dx fs, N b → H b = some (.ins C dx fs) → H' b = some (.ins C dx fs)) (n : ∀ b, N b → N' b) (h : DeedsAt t N H rs ds) : DeedsAt t N' H' rs ds :=
  paired_mono (fun a d q => ⟨n _ q.1, q.2.imp fun dx z => k _ _ _ _ q.1 z⟩) h
theorem DeedsAt.ex {t : T K mg} {N : Addr → Prop} {H H' : Hp} {rs : List Addr} {ds : List VamacBase.Deed} (e : Ex H H') (h : DeedsAt t N H rs ds) : DeedsAt t N H' rs ds := h.mono (fun b _ _ _ _ q => e _ _ q) fun _ z => z
theorem DeedsAt.len {t : T K mg} {N : Addr → Prop} {H : Hp} {rs : List Addr} {ds : List VamacBase.Deed} (h : DeedsAt t N H rs ds) : rs.length = ds.length := Paired.length h
theorem DeedsAt.any {t : T K mg} {N : Addr → Prop} {H : Hp} {rs : List Addr} {ds : List VamacBase.Deed} (h : DeedsAt t N H rs ds) : DeedsAt t Any H rs ds := h.mono (fun _ _ _ _ _ q => q) fun _ _ => True.intro
def RDeedN (t : T K mg) : List V → Hp → List V → Prop := fun vs H xs => ∃ a d s, vs = [.ref a] ∧ DeedAt t H a d s ∧ xs = (VamacBase.flatDeed d).map V.int
theorem ok_deed_numbers (t : T K mg) : FnOk P w K mg base CX0 2 t.d_deed_numbers.f t.d_deed_numbers.d ["deed"] (spL 1 (RDeedN t)) := by
  have G_Deed_has_field := ok_Deed_has_field (P := P) (w := w) (base := base) t
  have G_Deed_has_value := ok_Deed_has_value (P := P) (w := w) (base := base) t
  refine t.d_deed_numbers.F.ok sc_deed_numbers (fun vs H Q E h => h.1) (fun cdv A outer s H vs Q E hr h => ⟨_, (pss_cons (ps_set (i := 1) sc_deed_numbers.nd rfl (Or.inl rfl) (pe_lst (pa_cons (pe_fld (pv 0) rfl) pa_nil)))
  (pss_cut (ps_if (pt_val (pmeth0 (pv 0) t.k_Deed.cl t.d_Deed_has_field G_Deed_has_field (hr.mono (by omega)))) (pss_one (ps_expr (pe_bm PySem.F.plainAttrs_list PySem.F.slot_list_append PySem.F.type_list_append mt_append (pv 1) (pa_cons (pe_fld (pv 0) rfl) pa_nil)))) pss_nil)
  (pss_cut (ps_if (pt_val (pmeth0 (pv 0) t.k_Deed.cl t.d_Deed_has_value G_Deed_has_value (hr.mono (by omega)))) (pss_one (ps_expr (pe_bm PySem.F.plainAttrs_list PySem.F.slot_list_append PySem.F.type_list_append mt_append (pv 1) (pa_cons (pe_fld (pv 0) rfl) pa_nil)))) pss_nil)
  (pss_one (ps_ret (pv 1)))))), ?_⟩)
  obtain ⟨_, xs, ⟨a, d, s, rfl, ⟨dx, ho⟩, rfl⟩, kk⟩ := h
  rw [flatDeed_eq] at kk
  refine q_asgL (el_lst (ea_cons (ev_fld (ev_var rfl) ho t.k_Deed.cl t.n_Deed_kind l_Deed_kind) ea_nil) (by show 1 ≤ 100000; decide)) fun g H1 hg e1 hg1 => ?_
  refine q_cut (M := fun σ' H' => σ' = [some (.ref a), some (.ref g)] ∧ Ex H H' ∧ H' g = some (.lst ((kindOf d :: (if kindOf d ∈ ([3, 4, 5, 6, 9] : List Int) then [((fieldOf d : Nat) : Int)] else [])).map V.int))) ?_ ?_
  · refine s_when (b := decide (kindOf d ∈ ([3, 4, 5, 6, 9] : List Int))) (et_B (ev_meth (ev_var rfl) (e1 _ _ ho) m_Deed_has_field ea_nil (spV_use rfl fun H' e' => ⟨a, _, _, _, _, rfl, ⟨dx, e' _ _ (e1 _ _ ho)⟩, rfl⟩))) (fun c H2 e2 => ?_) (fun c H2 e2 => ?_)
    · have e12 := e1.trans e2
      refine s_app (e2 _ _ hg1) (ev_var rfl) (ev_fld (ev_var rfl) (e12 _ _ ho) t.k_Deed.cl t.n_Deed_field l_Deed_field) (by show 1 < 100000; decide) fun H3 e3 => ⟨rfl, (e12.trans e3).mut hg, ?_⟩
      rw [upd_same, if_pos (of_decide_eq_true c)]
      rfl
    · refine ⟨rfl, e1.trans e2, ?_⟩
      rw [if_neg (of_decide_eq_false c)]
      exact e2 _ _ hg1
  rintro σ' H4 ⟨rfl, e4, hg4⟩
  refine q_cut (M := fun σ' H' => σ' = [some (.ref a), some (.ref g)] ∧ Ex H H' ∧ H' g = some (.lst ((kindOf d :: ((if kindOf d ∈ ([3, 4, 5, 6, 9] : List Int) then [((fieldOf d : Nat) : Int)] else []) ++ (if kindOf d ∈ ([3, 4, 9] : List Int) then [VamacBase.numberOf d] else []))).map V.int))) ?_ ?_
  · refine s_when (b := decide (kindOf d ∈ ([3, 4, 9] : List Int))) (et_B (ev_meth (ev_var rfl) (e4 _ _ ho) m_Deed_has_value ea_nil (spV_use rfl fun H' e' => ⟨a, _, _, _, _, rfl, ⟨dx, e' _ _ (e4 _ _ ho)⟩, rfl⟩))) (fun c H2 e2 => ?_) (fun c H2 e2 => ?_)
    · have e12 := e4.trans e2
      refine s_app (e2 _ _ hg4) (ev_var rfl) (ev_fld (ev_var rfl) (e12 _ _ ho) t.k_Deed.cl t.n_Deed_value l_Deed_value) (by rw [List.length_map]; split <;> simp) fun H3 e3 => ⟨rfl, (e12.trans e3).mut hg, ?_⟩
      rw [upd_same, if_pos (of_decide_eq_true c), ← List.cons_append, List.map_append]
      rfl
    · refine ⟨rfl, e4.trans e2, ?_⟩
      rw [if_neg (of_decide_eq_false c), List.append_nil]
      exact e2 _ _ hg4
  rintro σ' H5 ⟨rfl, e5, hg5⟩
  exact ⟨_, rfl, kk g H5 hg e5 hg5⟩
def RRecN (t : T K mg) : List V → Hp → List V → Prop := fun vs H xs => ∃ l rs ds, vs = [.ref l] ∧ H l = some (.lst (rs.map V.ref)) ∧ DeedsAt t Any H rs ds ∧ ds.length ≤ 20 ∧ xs = (VamacBase.flatDeeds ds).map V.int
theorem ok_recording_numbers (t : T K mg) : FnOk P w K mg base CX0 3 t.d_recording_numbers.f t.d_recording_numbers.d ["deeds"] (spL 1 (RRecN t)) := by
  have G_deed_numbers := ok_deed_numbers (P := P) (w := w) (base := base) t
  refine t.d_recording_numbers.F.ok sc_recording_numbers (fun vs H Q E h => h.1) (fun cdv A outer s H vs Q E hr h => ⟨_, (pss_cons (ps_set (i := 1) sc_recording_numbers.nd rfl (Or.inl rfl) (pe_lst (pa_cons (pe_callB call_len_seq rfl t.z_len PySem.boot_len (pa_cons (pv 0) pa_nil)) pa_nil)))
  (pss_cons (ps_for PassesOwn.never rfl (pi_list (pv 0)) (pg_name (i := 2) sc_recording_numbers.nd rfl (Or.inl rfl)) (pss_one (ps_expr (pe_bm PySem.F.plainAttrs_list PySem.F.slot_list_extend PySem.F.type_list_extend mt_extend (pv 1) (pa_cons (pcall t.d_deed_numbers G_deed_numbers (hr.mono (by omega)) rfl (pa_cons (pv 2) pa_nil)) pa_nil)))))
  (pss_one (ps_ret (pv 1))))), ?_⟩)
  obtain ⟨_, xs, ⟨l, rs, ds, rfl, hl, hds, hz, rfl⟩, kk⟩ := h
  refine q_asgL (el_lst (ea_cons (ev_len (ev_var rfl) (.of hl)) ea_nil) (by show 1 ≤ 100000; decide)) fun g H1 hg e1 hg1 => ?_
  refine q_forLn (ev_var rfl) (.of (e1 _ _ hl)) (fun i σ' H' => ∃ pv, σ' = [some (.ref l), some (.ref g), pv] ∧ Ex H H' ∧ H' g = some (.lst (((ds.length : Int) :: (ds.take i).flatMap VamacBase.flatDeed).map V.int)))
    (fun H2 e2 => ⟨none, rfl, e1.trans e2, by rw [e2 _ _ hg1, List.length_map, hds.len]; rfl⟩) (fun i σ' H' _ q => ?_) (fun i x σ' H' hx q => ?_) (fun σ' H' q => ?_)
  · obtain ⟨_, _, e', _⟩ := q
    exact .of (e' _ _ hl)
  · obtain ⟨pv, rfl, e', hg'⟩ := q
    rw [List.getElem?_map] at hx
    obtain ⟨a, hi2, rfl⟩ := Option.map_eq_some_iff.mp hx
    obtain ⟨d, g1, _, g2⟩ := paired_get hds hi2
    have ht : (ds.take (i + 1)).flatMap VamacBase.flatDeed = (ds.take i).flatMap VamacBase.flatDeed ++ VamacBase.flatDeed d := by
      rw [List.take_add_one, g1, List.flatMap_append]
      show _ ++ (VamacBase.flatDeed d ++ []) = _
      rw [List.append_nil]
    have hfl := flat_len (ds.take i)
    rw [List.length_take] at hfl
    have hfd := flatDeed_len d
    refine s_extendL hg' (ev_var rfl) (el_call (ea_cons (ev_var rfl) ea_nil) (spL_use rfl fun H3 e3 => ⟨a, d, 0, rfl, g2.ex (e'.trans e3), rfl⟩)) (by rw [List.length_map, List.length_cons, List.length_map]; omega) fun H2 e2 => ⟨_, rfl, (e'.trans e2).mut hg, ?_⟩
    rw [upd_same, ht, ← List.map_append]
    rfl
  · obtain ⟨pv, rfl, e', hg'⟩ := q
    rw [List.length_map, hds.len, List.take_length] at hg'
    exact ⟨_, rfl, kk g H' hg e' hg'⟩
/-! ### read -/
abbrev recM := VamacBase.readListed 0 Vamacf.LONG VamacBase.readDeed
def spRec (t : T K mg) : Sp := fun vs H Q E => ∃ na ns, vs = [.ref na] ∧ SqL K H na (ns.map V.int) ∧ ns.length ≤ 100000 ∧ (Vamacf.readDeeds ns = none → ∀ H', Ex H H' → E (.ref t.x_NotWhole.C) none H') ∧
  (∀ ds, Vamacf.readDeeds ns = some ds → ∀ H' a rs, Ex H H' → H a = none → H' a = some (.lst (rs.map V.ref)) → DeedsAt t (fun b => H b = none) H' rs ds → Q (.ref a) H')
theorem ok_read_recording (t : T K mg) : FnOk P w K mg base (L2.CX P w) 6 t.d_read_recording.f t.d_read_recording.d ["numbers"] (spRec t) := by
  have G_Reader_init := ok_Reader_init (P := P) (w := w) (base := base) t
  have G_Reader_take_within := ok_Reader_take_within (P := P) (w := w) (base := base) t
  have G_read_deed := ok_read_deed (P := P) (w := w) (base := base) t
  have G_Reader_finish := ok_Reader_finish (P := P) (w := w) (base := base) t
  refine t.d_read_recording.F.okX sc_read_recording (fun vs H Q E h => by obtain ⟨na, ns, rfl, _⟩ := h; rfl) (fun cdv A outer s H vs Q E hr h => ⟨_, (pss_cons (ps_set (i := 1) sc_read_recording.nd rfl (Or.inl rfl) (pmake t.d_Reader_init t.k_Reader.g G_Reader_init (hr.mono (by omega)) rfl (pa_cons (pv 0) pa_nil)))
  (pss_cons (ps_set (i := 2) sc_read_recording.nd rfl (Or.inl rfl) (pmethS (pv 1) t.k_Reader.cl t.d_Reader_take_within G_Reader_take_within (hr.mono (by omega)) (takes_of rfl rfl rfl rfl) (by exact (pa_cons pe_int (pa_cons (pe_cst rfl t.c_MOST_RECORDED) pa_nil)))))
  (pss_cons (ps_set (i := 3) sc_read_recording.nd rfl (Or.inl rfl) (pe_lst pa_nil))
  (pss_cons (ps_for (passes_of rfl) rfl (pi_range1 rfl t.z_range (pa_cons (pv 2) pa_nil)) (pg_name (i := 4) sc_read_recording.nd rfl (Or.inl rfl)) (pss_one (ps_expr (pe_bm PySem.F.plainAttrs_list PySem.F.slot_list_append PySem.F.type_list_append mt_append (pv 3) (pa_cons (pcallS t.d_read_deed G_read_deed (hr.mono (by omega)) rfl (takes_of rfl rfl rfl rfl) (pa_cons (pv 1) pa_nil)) pa_nil)))))
  (pss_cons (ps_expr (pmethS0 (pv 1) t.k_Reader.cl t.d_Reader_finish G_Reader_finish (hr.mono (by omega)) (takes_of rfl rfl rfl rfl)))
  (pss_one (ps_ret (pv 3)))))))), ?_⟩)
  obtain ⟨na, ns, rfl, hq, hsz, kN, kS⟩ := h
  have kN : VamacBase.whole recM ns = none → ∀ H', Ex H H' → E (.ref t.x_NotWhole.C) none H' := kN
  have kS : ∀ ds, VamacBase.whole recM ns = some ds → ∀ H' a rs, Ex H H' → H a = none → H' a = some (.lst (rs.map V.ref)) → DeedsAt t (fun b => H b = none) H' rs ds → Q (.ref a) H' := kS
  refine ⟨_, rfl, fun r dr hr0 hd0 hne => ⟨rfl, r, dr, [.ref na], rfl, upd_same, rfl, ?_⟩⟩
  obtain ⟨e1, d1⟩ := made_ex (C := t.k_Reader.C) (f0 := []) (fs := fs_Reader (.ref na) (.int 0)) hr0 hd0 hne
  dsimp only [gName]
  generalize L2.upd _ _ _ = H1 at e1 d1 ⊢
  have rd : ∀ {H' : Hp} {j : Nat}, Ex H H' → (∃ dx, H' r = some (.ins t.k_Reader.C dx (fs_Reader (.ref na) (.int (j : Nat))))) → j ≤ ns.length → RdAt t H' r na r ns j := fun e ho le => ⟨ho, far_ex e (far_new hq hr0), le, hsz⟩
  refine q_asgM (ev_var rfl) d1 m_Reader_take_within (ea_cons ev_c (ea_cons ev_c ea_nil)) fun H2 e2 => ⟨r, na, r, ns, 0, 0, 20, rfl, rd (e1.trans e2) ⟨dr, e2 _ _ d1⟩ (Nat.zero_le _), fun e H3 b3 => kN (whole_none (by show Option.bind (VamacBase.readNat 0 20 (ns.drop 0)) _ = none; rw [nat_none (lo := 0) (hi := 20) e]; rfl)) H3 (b3.exr (e1.trans e2) hr0), fun n j e H3 v b3 hR3 hv => ?_⟩
  obtain rfl : v = .int n := hv
  obtain ⟨n1, n2, n3, n4⟩ := nat_some (lo := 0) (hi := 20) e
  have e03 : Ex H H3 := b3.exr (e1.trans e2) hr0
  have oe : recM ns = VamacBase.readTimes VamacBase.readDeed n.toNat (ns.drop j) := by
    show (VamacBase.readNat 0 20 (ns.drop 0)).bind _ = _
    rw [n1]
    rfl
  refine q_asgL (el_lst ea_nil (by decide)) fun l H4 hl e4 hl4 => ?_
  have hlr : l ≠ r := by
    rintro rfl
    obtain ⟨d2, q⟩ := hR3.o
    rw [hl] at q
    cases q
  have hl0 : H l = none := fresh_back e03 hl
  have hR4 := hR3.ex e4
  refine q_forR1 (n := n) (ea_cons (ev_var rfl) ea_nil) ⟨by omega, by omega⟩ (fun m σ' H' => ∃ pv q rs j', σ' = [some (.ref na), some (.ref r), some (.int n), some (.ref l), pv] ∧ Ex H H' ∧ RdAt t H' r na r ns j' ∧ H' l = some (.lst (rs.map V.ref)) ∧ DeedsAt t (fun b => H b = none ∧ b ≠ l ∧ b ≠ r) H' rs q ∧ q.length ≤ m ∧ m ≤ 20 ∧
    recM ns = (VamacBase.readTimes VamacBase.readDeed (n.toNat - m) (ns.drop j')).map fun u => (q ++ u.1, u.2))
    (fun H5 e5 => ⟨none, [], [], j, rfl, (e03.trans e4).trans e5, hR4.ex e5, e5 _ _ hl4, .nil, Nat.le_refl _, by omega, by rw [oe]; exact readTimes_start⟩) ?_ ?_
  · rintro m σ' H' hm ⟨pv, q, rs, j', rfl, e', hR', hl', hds, hq1, hm3, hoe⟩
    obtain ⟨k', hk'⟩ : ∃ k', n.toNat - m = k' + 1 := ⟨n.toNat - m - 1, by omega⟩
    rw [hk'] at hoe
    obtain ⟨turnN, turnS⟩ := readTimes_turn hoe
    refine ⟨_, rfl, .inl ⟨rfl, _, SqL.of hl'⟩, _, rfl, r, na, r, ns, j', rfl, hR', fun e6 H6 b6 => kN (whole_none (turnN e6)) H6 (b6.exr e' hr0), fun u j2 eu H6 v b6 hR6 hv => ?_⟩
    obtain ⟨a, rfl, ha, hda⟩ := hv
    have hl6 : H6 l = some (.lst (rs.map V.ref)) := b6 _ _ hl' hlr
    have e6 : Ex H (L2.upd H6 l (.lst (rs.map V.ref ++ [.ref a]))) := (b6.exr e' hr0).mut hl0
    have hal : a ≠ l := by
      rintro rfl
      rw [hl'] at ha
      cases ha
    have har : a ≠ r := by
      rintro rfl
      obtain ⟨d2, q⟩ := hR'.o
      rw [ha] at q
      cases q
    refine ⟨l, _, .ref a, rfl, rfl, hl6, ?_, some (.int m), q ++ [u], rs ++ [a], j2, rfl, e6, rd e6 (hR6.o.imp fun _ z => by rw [upd_ne (Ne.symm hlr)]; exact z) hR6.le, ?_, ?_, ?_, by omega, ?_⟩
    · rw [List.length_map, hds.len]
      exact sz_lt (by omega)
    · rw [upd_same, List.map_append]
      rfl
    · refine paired_append (hds.mono (fun b C dx fs z hb => ?_) fun _ z => z) (.cons ⟨⟨fresh_back e' ha, hal, har⟩, hda.imp fun dx z => ?_⟩ .nil)
      · rw [upd_ne z.2.1]
        exact b6 _ _ hb z.2.2
      · rw [upd_ne hal]
        exact z
    · rw [List.length_append]
      show q.length + 1 ≤ m + 1
      omega
    · rw [turnS u _ eu]
      congr 2
      omega
  · rintro σ' H' ⟨pv, q, rs, j', rfl, e', hR', hl', hds, hq1, hm3, hoe⟩
    rw [Nat.sub_self] at hoe
    have hoe' : recM ns = some (q, ns.drop j') := by
      rw [hoe]
      show some (q ++ [], _) = _
      rw [List.append_nil]
    obtain ⟨dx', d'⟩ := hR'.o
    refine q_dropM (ev_var rfl) d' m_Reader_finish ea_nil fun H5 e5 => ⟨r, na, r, ns, j', rfl, hR'.ex e5, fun e H6 e6 => kN (whole_more hoe' e) H6 ((e'.trans e5).trans e6), fun e H6 e6 => ?_⟩
    exact ⟨_, rfl, kS q (whole_some (by rw [hoe', e])) H6 l rs ((e'.trans e5).trans e6) hl0 ((e5.trans e6) _ _ hl') ((hds.ex (e5.trans e6)).mono (fun _ _ _ _ _ z => z) fun _ z => z.1)⟩
end
end G
/-! Slips taken out. -/
namespace G
open PySem PySem.Spec PyProof.Rows L2 Evl My
section
variable {K : PySem.W.Frag} {mg : Str → Option Value} {P : Program} {w : World} {base : Heap}
/-! a pair among written pairs -/
def PairAt (K : PySem.W.Frag) (H : Hp) (v : V) (p : Int × Int) : Prop := ∃ a, v = .ref a ∧ SqT K H a [.int p.1, .int p.2]
def pairD (p : Int × Int) : PyData := .tuple [.int p.1, .int p.2]
theorem PairAt.dp {H : Hp} {v : V} {p : Int × Int} (h : PairAt K H v p) : Dp K H v (pairD p) := by
  obtain ⟨a, rfl, h⟩ := h
  exact .tup h (.cons (.int _) (.cons (.int _) .nil))
theorem pairs_dp {H : Hp} : ∀ {vs : List V} {l : List (Int × Int)}, Paired (PairAt K H) vs l → DpAll K H vs (l.map pairD)
  | _, _, .nil => .nil
  | _, _, .cons h r => .cons h.dp (pairs_dp r)
theorem pairD_lay (p : Int × Int) : (pairD p).canLay0 = true := by simp [pairD, PyData.canLay0, PyData.canLayAll0]
theorem pairD_depth (p : Int × Int) : (pairD p).depth = 1 := by simp [pairD, PyData.depth, PyData.depthAll]
theorem pairs_lay : ∀ l : List (Int × Int), PyData.canLayAll0 (l.map pairD) = true
  | [] => by simp [PyData.canLayAll0]
  | p :: l => by simp [PyData.canLayAll0, pairD_lay p, pairs_lay l]
theorem pairs_deep : ∀ l : List (Int × Int), PyData.depthAll (l.map pairD) ≤ 1
  | [] => by simp [PyData.depthAll]
  | p :: l => by
    have a := pairs_deep l
    have b := pairD_depth p
    simp only [List.map_cons, PyData.depthAll]
    omega
theorem pairD_ok (p : Int × Int) : SeqAt.shaped (pairD p) = true := by
  unfold SeqAt.shaped
  rw [pairD_lay, pairD_depth]
  rfl
theorem pairs_ok (l : List (Int × Int)) : SeqAt.shaped (.tuple (l.map pairD)) = true := by
  have a := pairs_deep l
  have b : PyData.canLay0 (.tuple (l.map pairD)) = true := by simp only [PyData.canLay0]; exact pairs_lay l
  have c : PyData.depth (.tuple (l.map pairD)) ≤ 64 := by simp only [PyData.depth]; omega
  unfold SeqAt.shaped
  rw [b, decide_eq_true c]
  rfl
theorem pairD_eqv (p q : Int × Int) : PyData.eqv (pairD p) (pairD q) = decide (q = p) := by
  obtain ⟨a, b⟩ := p
  obtain ⟨c, d⟩ := q
  have e : PyData.eqv (pairD (a, b)) (pairD (c, d)) = ((a == c) && ((b == d) && true)) := by simp only [pairD, PyData.eqv, PyData.eqvAll]
  rw [e, Bool.and_true]
  by_cases h1 : a = c
  · by_cases h2 : b = d
    · rw [h1, h2, decide_eq_true rfl]
      simp
    · rw [decide_eq_false fun z => h2 (Prod.mk.inj z).2.symm, beq_eq_false_iff_ne.mpr h2, Bool.and_false]
  · rw [decide_eq_false fun z => h1 (Prod.mk.inj z).1.symm, beq_eq_false_iff_ne.mpr h1, Bool.false_and]
theorem pairs_any (p : Int × Int) : ∀ l : List (Int × Int), ((l.map pairD).any fun z => PyData.eqv z (pairD p)) = decide (p ∈ l)
  | [] => rfl
  | q :: l => by
    rw [List.map_cons, List.any_cons, pairs_any p l, pairD_eqv]
    by_cases c : p = q
    · subst c
      rw [decide_eq_true rfl, decide_eq_true List.mem_cons_self]
      rfl
    · rw [decide_eq_false c, Bool.false_or]
      by_cases d : p ∈ l
      · rw [decide_eq_true d, decide_eq_true (List.mem_cons_of_mem _ d)]
      · rw [decide_eq_false d, decide_eq_false fun z => (List.mem_cons.mp z).elim c d]
def pairTA : List (Int × Int) → TA
  | [] => tNil
  | p :: l => tCons (tTup (tCons (tC (.int p.1)) (tCons (tC (.int p.2)) tNil))) (pairTA l)
theorem pairs_run : ∀ (l : List (Int × Int)) {σ : L2.St} {H : Hp} {Q : List V → Hp → Prop}, (∀ vs H', Ex H H' → Paired (PairAt K H') vs l → Q vs H') → pairTA l σ H Q
  | [], σ, H, Q, k => k [] H (Ex.refl H) .nil
  | p :: l, σ, H, Q, k => c_cons (te := tTup (tCons (tC (.int p.1)) (tCons (tC (.int p.2)) tNil))) (ta := pairTA l) <| eu_tup (ea_cons ev_c (ea_cons ev_c ea_nil)) (by show 2 ≤ 100000; decide) H (Ex.refl H) (fun x H1 => pairTA l σ H1 fun vs H2 => Q (x :: vs) H2) fun a H1 _ e1 h1 => pairs_run l fun vs H2 e2 hp => k _ H2 (e1.trans e2) (.cons ⟨a, rfl, st_of (e2 _ _ h1)⟩ hp)
theorem et_pair {σ : L2.St} {H : Hp} {i : Nat} {a : Addr} {p : Int × Int} (l : List (Int × Int)) (hz : l.length ≤ 100000) (hi : σ[i]? = some (some (.ref a))) (ha : H a = some (.tup [.int p.1, .int p.2])) : EvT (tTest (tOp (rInTD K) (tVar i) (tTup (pairTA l)))) σ H (decide (p ∈ l)) := fun H1 e Q q =>
  ⟨.ref a, hi, pairs_run (K := K) l fun vs H2 e2 hp => ⟨sz_of (by rw [Paired.length hp]; exact hz), fun b hb => by
    have e3 : Ex H2 (L2.upd H2 b (.tup vs)) := Ex.new hb
    refine ⟨pairD p, l.map pairD, PairAt.dp ⟨a, rfl, st_of (e3 _ _ (e2 _ _ (e _ _ ha)))⟩, .tup (st_of upd_same) (pairs_dp (paired_mono (fun v q z => ?_) hp)), pairD_ok p, pairs_ok l, ?_⟩
    · obtain ⟨c, rfl, z⟩ := z
      exact ⟨c, rfl, ex_t e3 z⟩
    · rw [pairs_any]
      exact ⟨_, rfl, q _ (e2.trans e3)⟩⟩⟩
/-! a new deed -/
def spDeedWith (t : T K mg) : Sp := fun vs H Q _ => ∃ k f v, vs = [.int k, .int (f : Nat), .int v] ∧ ∀ H' a, Ex H H' → H a = none → DeedO t H' a k (.int (f : Nat)) (.int v) (.int 0) → Q (.ref a) H'
theorem ok_deed_with (t : T K mg) : FnOk P w K mg base CX0 3 t.d_deed_with.f t.d_deed_with.d ["kind", "field", "value"] (spDeedWith t) := by
  have G_Deed_init := ok_Deed_init (P := P) (w := w) (base := base) t
  refine t.d_deed_with.F.ok sc_deed_with (fun vs H Q E h => by obtain ⟨k, f, v, rfl, _⟩ := h; rfl) (fun cdv A outer s H vs Q E hr h => ⟨_, (pss_cons (ps_set (i := 3) sc_deed_with.nd rfl (Or.inl rfl) (pmake t.d_Deed_init t.k_Deed.g G_Deed_init (hr.mono (by omega)) rfl (pa_cons (pv 0) pa_nil)))
  (pss_cons (ps_fld (pv 3) (pv 1) rfl)
  (pss_cons (ps_fld (pv 3) (pv 2) rfl)
  (pss_one (ps_ret (pv 3)))))), ?_⟩)
  obtain ⟨k, f, v, rfl, kk⟩ := h
  refine ⟨_, rfl, fun a da ha hda hne => ⟨rfl, a, da, [.int k], rfl, upd_same, rfl, ?_⟩⟩
  obtain ⟨e3, d3⟩ := made_ex (C := t.k_Deed.C) (f0 := []) (fs := fs_Deed (.int k) (.int 0) (.int 0) (.int 0)) ha hda hne
  dsimp only [gName]
  generalize L2.upd _ _ _ = H3 at e3 d3 ⊢
  refine ⟨_, rfl, _, rfl, a, _, da, _, rfl, d3, t.k_Deed.cl, t.n_Deed_field, (by show 4 < 1000; decide), ?_⟩
  rw [p_Deed_field]
  refine ⟨_, rfl, _, rfl, a, _, da, _, rfl, upd_same, t.k_Deed.cl, t.n_Deed_value, (by show 4 < 1000; decide), ?_⟩
  rw [p_Deed_value, upd_upd]
  exact ⟨_, rfl, kk _ a (e3.mut ha) ha ⟨da, upd_same⟩⟩
/-! what two neighbours become -/
/-- nothing, or a new list of deeds -/
def spFewer (t : T K mg) (n : Nat) (R : List V → Hp → Option (List VamacBase.Deed) → Prop) : Sp := fun vs H Q _ => vs.length = n ∧ ∃ o, R vs H o ∧ (o = none → ∀ H', Ex H H' → Q .non H') ∧
  (∀ ds, o = some ds → ∀ H' a rs, Ex H H' → H a = none → H' a = some (.lst (rs.map V.ref)) → DeedsAt t Any H' rs ds → Q (.ref a) H')
def RTwo (t : T K mg) (f : VamacBase.Deed → VamacBase.Deed → Option (List VamacBase.Deed)) (ok : VamacBase.Deed → VamacBase.Deed → Prop) : List V → Hp → Option (List VamacBase.Deed) → Prop := fun vs H o => ∃ a b da db, vs = [.ref a, .ref b] ∧ DeedAt t H a da 0 ∧ DeedAt t H b db 0 ∧ ok da db ∧ o = f da db
theorem ok_become_of_one_field (t : T K mg) : FnOk P w K mg base CX0 4 t.d_become_of_one_field.f t.d_become_of_one_field.d ["first", "second"] (spFewer t 2 (RTwo t slipF fun a b => kindOf a ∈ ([3, 4, 6] : List Int) ∧ kindOf b ∈ ([3, 4, 6] : List Int))) := by
  have G_deed_with := ok_deed_with (P := P) (w := w) (base := base) t
  refine t.d_become_of_one_field.F.ok sc_become_of_one_field (fun vs H Q E h => h.1) (fun cdv A outer s H vs Q E hr h => ⟨_, (pss_cons (ps_if (pt_cmpR op_in_seq (pe_fld (pv 1) rfl) (pe_tup (pa_cons (pe_cst rfl t.c_WRITE) (pa_cons (pe_cst rfl t.c_PASTE) pa_nil))) (by rfl)) (pss_one (ps_ret (pe_lst (pa_cons (pv 1) pa_nil)))) pss_nil)
  (pss_cons (ps_if (pt_cmpR op_eq (pe_fld (pv 0) rfl) (pe_cst rfl t.c_PASTE) (nomark _)) (pss_one (ps_ret pe_non)) pss_nil)
  (pss_cons (ps_set (i := 2) sc_become_of_one_field.nd rfl (Or.inl rfl) (pe_op op_add (pe_fld (pv 0) rfl) (pe_fld (pv 1) rfl)))
  (pss_cons (ps_if (PW.pt (pw_and (pt_cmpR op_eq (pe_fld (pv 0) rfl) (pe_cst rfl t.c_ADD) (nomark _)) (pw_and1 (pt_cmpR op_eq (pv 2) pe_int (nomark _))))) (pss_one (ps_ret (pe_lst pa_nil))) pss_nil)
  (pss_one (ps_ret (pe_lst (pa_cons (pcall t.d_deed_with G_deed_with (hr.mono (by omega)) rfl (pa_cons (pe_fld (pv 0) rfl) (pa_cons (pe_fld (pv 0) rfl) (pa_cons (pv 2) pa_nil)))) pa_nil)))))))), ?_⟩)
  obtain ⟨_, o, ⟨a, b, da, db, rfl, ⟨xa, ha⟩, ⟨xb, hb⟩, ⟨ka, kb⟩, rfl⟩, kN, kS⟩ := h
  have kda : ∀ {σ H'}, Ex H H' → Ev (tFld K (tVar 0) "kind") (some (V.ref a) :: σ) H' (.int (kindOf da)) := fun e => ev_fld (ev_var rfl) (e _ _ ha) t.k_Deed.cl t.n_Deed_kind l_Deed_kind
  have kdb : ∀ {σ H'}, Ex H H' → Ev (tFld K (tVar 1) "kind") (some (V.ref a) :: some (V.ref b) :: σ) H' (.int (kindOf db)) := fun e => ev_fld (ev_var rfl) (e _ _ hb) t.k_Deed.cl t.n_Deed_kind l_Deed_kind
  unfold slipF at kN kS
  refine q_when (b := decide (kindOf db ∈ ([3, 6] : List Int))) (et_test (ev_is (ev_inU (kdb (Ex.refl H)) (eu_tup (ea_cons ev_c (ea_cons ev_c ea_nil)) (by decide)) rfl rfl) (congrArg V.bl (inV_ints (kindOf db) [3, 6])))) (fun c H1 e1 => ?_) (fun c1 H1 e1 => ?_)
  · rw [if_pos (of_decide_eq_true c)] at kS
    exact s_retL (el_lst (ea_cons (ev_var rfl) ea_nil) (by show 1 ≤ 100000; decide)) fun p H2 hp e2 h2 => kS _ rfl H2 p [b] (e1.trans e2) (fresh_back e1 hp) h2 (.cons ⟨True.intro, xb, (e1.trans e2) _ _ hb⟩ .nil)
  rw [if_neg (of_decide_eq_false c1)] at kN kS
  refine q_when (b := decide (V.int (kindOf da) = V.int 6)) (et_test (ev_op (kda e1) ev_c (rv_eq rfl))) (fun c H2 e2 => ?_) (fun c2 H2 e2 => ?_)
  · rw [if_pos (V.int.inj (of_decide_eq_true c))] at kN
    exact kN rfl H2 (e1.trans e2)
  have n6 : ¬ kindOf da = 6 := fun z => of_decide_eq_false c2 (congrArg V.int z)
  rw [if_neg n6] at kN kS
  have e12 := e1.trans e2
  refine q_asg (v := .int (VamacBase.numberOf da + VamacBase.numberOf db)) (ev_op (ev_fld (v := .int (VamacBase.numberOf da)) (ev_var rfl) (e12 _ _ ha) t.k_Deed.cl t.n_Deed_value l_Deed_value) (ev_fld (v := .int (VamacBase.numberOf db)) (ev_var rfl) (e12 _ _ hb) t.k_Deed.cl t.n_Deed_value l_Deed_value) rv_I0) fun H3 e3 => ?_
  have e13 := e12.trans e3
  refine q_when (b := decide (V.int (kindOf da) = V.int 4) && decide (V.int (VamacBase.numberOf da + VamacBase.numberOf db) = V.int 0)) (et_and2 (et_test (ev_op (kda e13) ev_c (rv_eq rfl))) (et_test (ev_op (ev_var rfl) ev_c (rv_eq rfl)))) (fun c H4 e4 => ?_) (fun c3 H4 e4 => ?_)
  · rw [Bool.and_eq_true, decide_eq_true_eq, decide_eq_true_eq] at c
    rw [if_pos ⟨V.int.inj c.1, V.int.inj c.2⟩] at kS
    exact s_retL (el_lst ea_nil (by decide)) fun p H5 hp e5 h5 => kS _ rfl H5 p [] ((e13.trans e4).trans e5) (fresh_back (e13.trans e4) hp) h5 .nil
  · rw [if_neg fun z => by rw [z.1, z.2] at c3; exact absurd c3 (by decide)] at kS
    have e14 := e13.trans e4
    -- the list of one new deed
    have nw : ∀ {σ : L2.St} {Q' : VK}, (∀ p H5 c, Ex H4 H5 → H4 p = none → H5 p = some (.lst [.ref c]) → DeedAt t H5 c (deedOf (kindOf da) (fieldOf da) (VamacBase.numberOf da + VamacBase.numberOf db)) 0 → Q' (.ref p) H5) → ∀ {ta : TA} {E}, EvA ta σ H4 [.int (kindOf da), .int (fieldOf da : Nat), .int (VamacBase.numberOf da + VamacBase.numberOf db)] → tLst (tCons (tCall (spDeedWith t) [] E ta) tNil) σ H4 Q' := fun {σ Q'} k ta E hta =>
      hta H4 (Ex.refl H4) _ fun H5 e5 => ⟨_, _, _, rfl, fun H6 c e6 hc hd6 => ⟨by show 1 ≤ _; rw [sizeLine_eq]; omega, fun p hp => k p _ c ((e5.trans e6).trans (Ex.new hp)) (fresh_back (e5.trans e6) hp) upd_same (by
        obtain ⟨l1, l2⟩ := kindOf_le da
        have kv : kindOf da ∈ ([3, 4] : List Int) := by simp only [List.mem_cons, List.not_mem_nil, or_false] at ka ⊢; omega
        have k3 : kindOf da = 3 ∨ kindOf da = 4 := by simpa using kv
        unfold DeedAt
        rw [kind_deedOf l1 l2, field_deedOf l1 l2 _ (.inl (by rcases k3 with z | z <;> rw [z] <;> decide)), number_deedOf l1 l2 _ (.inl (by rcases k3 with z | z <;> rw [z] <;> decide))]
        exact hd6.ex (Ex.new hp))⟩⟩
    exact nw (fun p H5 c e5 hp h5 hd5 => kS _ rfl H5 p [c] (e14.trans e5) (fresh_back e14 hp) h5 (.cons ⟨True.intro, hd5⟩ .nil)) (ea_cons (kda e14) (ea_cons (ev_fld (ev_var rfl) (e14 _ _ ha) t.k_Deed.cl t.n_Deed_field l_Deed_field) (ea_cons (ev_var rfl) ea_nil)))
end
end G
/-! A recording cleaned. -/
namespace G
open PySem PySem.Spec PyProof.Rows L2 Evl My
section
variable {K : PySem.W.Frag} {mg : Str → Option Value} {P : Program} {w : World} {base : Heap}
theorem ok_become (t : T K mg) : FnOk P w K mg base CX0 5 t.d_become.f t.d_become.d ["first", "second"] (spFewer t 2 (RTwo t Vamacf.slip fun _ _ => True)) := by
  have G_become_of_one_field := ok_become_of_one_field (P := P) (w := w) (base := base) t
  have G_Deed_writes_field := ok_Deed_writes_field (P := P) (w := w) (base := base) t
  refine t.d_become.F.ok sc_become (fun vs H Q E h => h.1) (fun cdv A outer s H vs Q E hr h => ⟨_, (pss_cons (ps_set (i := 2) sc_become.nd rfl (Or.inl rfl) (pe_tup (pa_cons (pe_fld (pv 0) rfl) (pa_cons (pe_fld (pv 1) rfl) pa_nil))))
  (pss_cons (ps_if (pt_cmpR (op_inTD (u65 hr)) (pv 2) (pe_tup (pa_cons (pe_tup (pa_cons (pe_cst rfl t.c_DOWN) (pa_cons (pe_cst rfl t.c_UP) pa_nil))) (pa_cons (pe_tup (pa_cons (pe_cst rfl t.c_UP) (pa_cons (pe_cst rfl t.c_DOWN) pa_nil))) (pa_cons (pe_tup (pa_cons (pe_cst rfl t.c_DOUBLE) (pa_cons (pe_cst rfl t.c_DELETE) pa_nil))) pa_nil)))) (by rfl)) (pss_one (ps_ret (pe_lst pa_nil))) pss_nil)
  (pss_cons (ps_if (pt_cmpR (op_inTD (u65 hr)) (pv 2) (pe_tup (pa_cons (pe_tup (pa_cons (pe_cst rfl t.c_DOWN) (pa_cons (pe_cst rfl t.c_TOP) pa_nil))) (pa_cons (pe_tup (pa_cons (pe_cst rfl t.c_UP) (pa_cons (pe_cst rfl t.c_TOP) pa_nil))) (pa_cons (pe_tup (pa_cons (pe_cst rfl t.c_FIND) (pa_cons (pe_cst rfl t.c_TOP) pa_nil))) (pa_cons (pe_tup (pa_cons (pe_cst rfl t.c_TOP) (pa_cons (pe_cst rfl t.c_TOP) pa_nil))) (pa_cons (pe_tup (pa_cons (pe_cst rfl t.c_COPY) (pa_cons (pe_cst rfl t.c_COPY) pa_nil))) pa_nil)))))) (by rfl)) (pss_one (ps_ret (pe_lst (pa_cons (pv 1) pa_nil)))) pss_nil)
  (pss_cons (ps_if (PW.pt (pw_and (pt_val (pmeth0 (pv 0) t.k_Deed.cl t.d_Deed_writes_field G_Deed_writes_field (hr.mono (by omega)))) (pw_and (pt_val (pmeth0 (pv 1) t.k_Deed.cl t.d_Deed_writes_field G_Deed_writes_field (hr.mono (by omega)))) (pw_and1 (pt_cmpR op_eq (pe_fld (pv 0) rfl) (pe_fld (pv 1) rfl) (nomark _)))))) (pss_one (ps_ret (pcall t.d_become_of_one_field G_become_of_one_field (hr.mono (by omega)) rfl (pa_cons (pv 0) (pa_cons (pv 1) pa_nil))))) pss_nil)
  (pss_one (ps_ret pe_non)))))), ?_⟩)
  obtain ⟨_, o, ⟨a, b, da, db, rfl, ⟨xa, ha⟩, ⟨xb, hb⟩, _, rfl⟩, kN, kS⟩ := h
  have kda : ∀ {σ H'}, Ex H H' → Ev (tFld K (tVar 0) "kind") (some (V.ref a) :: σ) H' (.int (kindOf da)) := fun e => ev_fld (ev_var rfl) (e _ _ ha) t.k_Deed.cl t.n_Deed_kind l_Deed_kind
  have kdb : ∀ {σ H'}, Ex H H' → Ev (tFld K (tVar 1) "kind") (some (V.ref a) :: some (V.ref b) :: σ) H' (.int (kindOf db)) := fun e => ev_fld (ev_var rfl) (e _ _ hb) t.k_Deed.cl t.n_Deed_kind l_Deed_kind
  refine q_asgU (eu_tup (ea_cons (kda (Ex.refl H)) (ea_cons (kdb (Ex.refl H)) ea_nil)) (by show 2 ≤ 100000; decide)) fun p H1 hp e1 hp1 => ?_
  refine q_when (et_pair (K := K) (p := pairK da db) [(0, 1), (1, 0), (8, 7)] (by decide) rfl hp1) (fun c H2 e2 => ?_) (fun c1 H2 e2 => ?_)
  · rw [slip_gone (of_decide_eq_true c)] at kS
    exact s_retL (el_lst ea_nil (by decide)) fun q H5 hq e5 h5 => kS _ rfl H5 q [] ((e1.trans e2).trans e5) (fresh_back (e1.trans e2) hq) h5 .nil
  have e12 := e1.trans e2
  refine q_when (et_pair (K := K) (p := pairK da db) [(0, 2), (1, 2), (9, 2), (2, 2), (5, 5)] (by decide) rfl (e2 _ _ hp1)) (fun c H3 e3 => ?_) (fun c2 H3 e3 => ?_)
  · rw [slip_second (of_decide_eq_true c)] at kS
    have e13 := e12.trans e3
    exact s_retL (el_lst (ea_cons (ev_var rfl) ea_nil) (by show 1 ≤ 100000; decide)) fun q H5 hq e5 h5 => kS _ rfl H5 q [b] (e13.trans e5) (fresh_back e13 hq) h5 (.cons ⟨True.intro, xb, (e13.trans e5) _ _ hb⟩ .nil)
  have e13 := e12.trans e3
  refine q_when (b := decide (kindOf da ∈ ([3, 4, 6] : List Int)) && (decide (kindOf db ∈ ([3, 4, 6] : List Int)) && decide (V.int (fieldOf da : Nat) = V.int (fieldOf db : Nat)))) (et_and2 (et_B (ev_meth (ev_var rfl) (e13 _ _ ha) m_Deed_writes_field ea_nil (spV_use rfl fun H4 e4 => ⟨a, _, _, _, _, rfl, ⟨xa, (e13.trans e4) _ _ ha⟩, rfl⟩)))
    (et_and2 (et_B (ev_meth (ev_var rfl) (e13 _ _ hb) m_Deed_writes_field ea_nil (spV_use rfl fun H4 e4 => ⟨b, _, _, _, _, rfl, ⟨xb, (e13.trans e4) _ _ hb⟩, rfl⟩))) (et_test (ev_op (ev_fld (ev_var rfl) (e13 _ _ ha) t.k_Deed.cl t.n_Deed_field l_Deed_field) (ev_fld (ev_var rfl) (e13 _ _ hb) t.k_Deed.cl t.n_Deed_field l_Deed_field) (rv_eq rfl))))) (fun c H4 e4 => ?_) (fun c3 H4 e4 => ?_)
  · rw [Bool.and_eq_true, Bool.and_eq_true, decide_eq_true_eq, decide_eq_true_eq, decide_eq_true_eq] at c
    obtain ⟨c4, c5, c6⟩ := c
    have c7 : fieldOf da = fieldOf db := by have := V.int.inj c6; omega
    rw [slip_field c4 c5 c7] at kN kS
    have e14 := e13.trans e4
    exact s_retC (ea_cons (ev_var rfl) (ea_cons (ev_var rfl) ea_nil)) fun H5 e5 => ⟨rfl, _, ⟨a, b, da, db, rfl, ⟨xa, (e14.trans e5) _ _ ha⟩, ⟨xb, (e14.trans e5) _ _ hb⟩, ⟨c4, c5⟩, rfl⟩, fun z H6 e6 => kN z H6 ((e14.trans e5).trans e6), fun ds z H6 q rs e6 hq h6 hd => kS ds z H6 q rs ((e14.trans e5).trans e6) (fresh_back (e14.trans e5) hq) h6 hd⟩
  · have hn := slip_none (of_decide_eq_false c1) (of_decide_eq_false c2) (fun z => by
      rw [decide_eq_true z.1, decide_eq_true z.2.1, decide_eq_true (by rw [z.2.2])] at c3
      cases c3)
    exact kN hn H4 (e13.trans e4)
/-! the first two neighbours that become fewer -/
theorem q_forRz {σ : L2.St} {H : Hp} {D : Ends} {tu tz : TS} {ta : TA} {j : Nat} {n : Int} (h : EvA ta σ H [.int n]) (h1 : -100000 ≤ n) (h2 : n ≤ 100000) (Pv : Nat → L2.St → Hp → Prop) (h0 : ∀ H1, Ex H H1 → Pv 0 σ H1)
    (hs : ∀ (i : Nat) σ' H', i < n.toNat → Pv i σ' H' → tu { D with nx := Pv (i + 1), ct := Pv (i + 1), bk := tz D } (σ'.set j (some (.int (i : Nat)))) H') (hd : ∀ σ' H', Pv n.toNat σ' H' → tz D σ' H') : tSeq (tFor (iRng1 ta) (gName j) tu) tz D σ H :=
  h H (Ex.refl H) _ fun H1 e => ⟨n, rfl, by omega, by omega, for_range (D := { D with nx := tz D }) (lo := 0) (n := n.toNat) Pv (h0 H1 e) (fun i σ' H' hi p => by
    show tu _ (σ'.set j (some (.int (0 + (i : Int))))) H'
    rw [Int.zero_add]
    exact hs i σ' H' hi p) hd⟩
theorem cut_to {xs : List V} {k : Nat} (h : k ≤ xs.length) : cutV xs none (some (k : Int)) = xs.take k := by
  unfold cutV
  have h0 : HT.sIx xs.length 0 none = 0 := rfl
  have h1 : HT.sIx xs.length xs.length (some (k : Int)) = k := by
    rw [HT.sIx_nat]
    omega
  rw [h0, h1]
  rfl
theorem cut_from {xs : List V} {k : Nat} : cutV xs (some (k : Int)) none = xs.drop k := by
  unfold cutV
  have h1 : HT.sIx xs.length xs.length none = xs.length := rfl
  by_cases c : k ≤ xs.length
  · have h0 : HT.sIx xs.length 0 (some (k : Int)) = k := by
      rw [HT.sIx_nat]
      omega
    rw [h0, h1]
    exact List.take_of_length_le (by rw [List.length_drop]; exact Nat.le_refl _)
  · have h0 : HT.sIx xs.length 0 (some (k : Int)) = xs.length := by
      rw [HT.sIx_nat]
      omega
    rw [h0, h1, List.drop_length, List.drop_eq_nil_iff.mpr (by omega), List.take_nil]
def RClean (t : T K mg) : List V → Hp → Option (List VamacBase.Deed) → Prop := fun vs H o => ∃ l rs ds, vs = [.ref l] ∧ H l = some (.lst (rs.map V.ref)) ∧ DeedsAt t Any H rs ds ∧ ds.length ≤ 20 ∧ o = Vamacf.cleaner ds
theorem ok_without_first_slip (t : T K mg) : FnOk P w K mg base CX0 6 t.d_without_first_slip.f t.d_without_first_slip.d ["deeds"] (spFewer t 1 (RClean t)) := by
  have G_become := ok_become (P := P) (w := w) (base := base) t
  refine t.d_without_first_slip.F.ok sc_without_first_slip (fun vs H Q E h => h.1) (fun cdv A outer s H vs Q E hr h => ⟨_, (pss_cons (ps_for PassesOwn.never rfl (pi_range1 rfl t.z_range (pa_cons (pe_op op_sub (pe_callB call_len_seq rfl t.z_len PySem.boot_len (pa_cons (pv 0) pa_nil)) pe_int) pa_nil)) (pg_name (i := 1) sc_without_first_slip.nd rfl (Or.inl rfl)) (pss_cons (ps_set (i := 2) sc_without_first_slip.nd rfl (Or.inl rfl) (pcall t.d_become G_become (hr.mono (by omega)) rfl (pa_cons (pe_ix ix_list (pv 0) (pv 1) (fun _ _ => rfl)) (pa_cons (pe_ix ix_list (pv 0) (pe_op op_add (pv 1) pe_int) (fun _ _ => rfl)) pa_nil))))
  (pss_one (ps_if (pt_cmpR op_notN (pv 2) pe_non (nomark _)) (pss_one (ps_ret (pe_op op_cat (pe_op op_cat (pe_slice sl_list (pv 0) po_none (po_some (pv 1))) (pv 2)) (pe_slice sl_list (pv 0) (po_some (pe_op op_add (pv 1) pe_int)) po_none)))) pss_nil))))
  (pss_one (ps_ret pe_non))), ?_⟩)
  obtain ⟨_, o, ⟨l, rs, ds, rfl, hl, hds, hz, rfl⟩, kN, kS⟩ := h
  have hlen := hds.len
  refine q_forRz (n := ((rs.map V.ref).length : Nat) - 1) (ea_cons (ev_op (ev_len (ev_var rfl) (.of hl)) ev_c rv_I0) ea_nil) (by omega) (by rw [List.length_map]; omega) (fun i σ' H' => (∃ pv fv, σ' = [some (.ref l), pv, fv]) ∧ Ex H H' ∧ ∀ j u v, j < i → ds[j]? = some u → ds[j + 1]? = some v → Vamacf.slip u v = none)
    (fun H1 e1 => ⟨⟨none, none, rfl⟩, e1, fun j u v hj => absurd hj (Nat.not_lt_zero _)⟩) ?_ ?_
  · rintro i σ' H' hi ⟨⟨pv, fv, rfl⟩, e', hm⟩
    rw [List.length_map, hlen] at hi
    have hi1 : i + 1 < ds.length := by omega
    have r1 : rs[i]? = some rs[i] := List.getElem?_eq_getElem (by omega)
    have r2 : rs[i + 1]? = some rs[i + 1] := List.getElem?_eq_getElem (by omega)
    obtain ⟨da, g1, _, ga⟩ := paired_get hds r1
    obtain ⟨db, g2, _, gb⟩ := paired_get hds r2
    have hl' := e' _ _ hl
    have ea : ∀ {σ}, EvA (tCons (tOp (rIxL K) (tVar 0) (tVar 1)) (tCons (tOp (rIxL K) (tVar 0) (tOp (rI0 fun i j => .int (i + j)) (tVar 1) (tC (.int 1)))) tNil)) (some (V.ref l) :: some (V.int (i : Nat)) :: σ) H' [.ref rs[i], .ref rs[i + 1]] := fun {σ} => ea_cons (ev_op (ev_var rfl) (ev_var rfl) (rv_ixL (.of hl') (atI_nat (by rw [List.getElem?_map, r1]; rfl))))
      (ea_cons (ev_op (ev_var rfl) (ev_is (ev_op (ev_var rfl) ev_c rv_I0) (w := .int ((i + 1 : Nat) : Int)) (congrArg V.int (by omega))) (rv_ixL (.of hl') (atI_nat (by rw [List.getElem?_map, r2]; rfl)))) ea_nil)
    refine q_asgC ea fun H1 e1 => ⟨rfl, Vamacf.slip da db, ⟨_, _, da, db, rfl, ga.ex (e'.trans e1), gb.ex (e'.trans e1), True.intro, rfl⟩, fun en H2 e2 => ?_, fun x ex H2 p rx e2 hp h2 hdx => ?_⟩
    · refine s_when (b := false) (et_test (ev_op (ev_var rfl) ev_c (rv_val fun H4 e4 Q q => ⟨rfl, q⟩))) (fun c _ _ => by cases c) (fun _ H3 e3 => ⟨⟨_, _, rfl⟩, ((e'.trans e1).trans e2).trans e3, fun j u v hj hu hv => ?_⟩)
      rcases Nat.lt_succ_iff_lt_or_eq.mp hj with hj | rfl
      · exact hm j u v hj hu hv
      · rw [g1] at hu
        rw [g2] at hv
        cases hu
        cases hv
        exact en
    · have ec := cleaner_at ds i da db x g1 g2 ex hm
      have e02 := (e'.trans e1).trans e2
      refine s_when (b := true) (et_test (ev_op (ev_var rfl) ev_c (rv_val fun H4 e4 Q q => ⟨rfl, q⟩))) (fun _ H3 e3 => ?_) (fun c _ _ => by cases c)
      have e03 := e02.trans e3
      have hl3 := e03 _ _ hl
      have hx1 := slip_len ex
      have hxr : rx.length = x.length := hdx.len
      have ct : cutV (rs.map V.ref) none (some ((i : Nat) : Int)) = (rs.take i).map V.ref := by rw [cut_to (by rw [List.length_map]; omega), List.map_take]
      have cf : cutV (rs.map V.ref) (some ((i + 2 : Nat) : Int)) none = (rs.drop (i + 2)).map V.ref := by rw [cut_from, List.map_drop]
      have s1 : EvL (tSl (rSlL K) (tVar 0) tNoPart (tPart (tVar 1))) [some (V.ref l), some (V.int (i : Nat)), some (V.ref p)] H3 ((rs.take i).map V.ref) := by
        rw [← ct]
        exact el_sl (ev_var rfl) eo_none (eo_some (ev_var rfl)) (.of hl3)
      have s2 : EvL (tSl (rSlL K) (tVar 0) (tPart (tOp (rI0 fun i j => .int (i + j)) (tVar 1) (tC (.int 2)))) tNoPart) [some (V.ref l), some (V.int (i : Nat)), some (V.ref p)] H3 ((rs.drop (i + 2)).map V.ref) := by
        rw [← cf]
        exact el_sl (ev_var rfl) (eo_some (ev_is (ev_op (ev_var rfl) ev_c rv_I0) (congrArg V.int (by omega)))) eo_none (.of hl3)
      refine s_retL (el_catLL (el_catLV s1 (ev_var rfl) (e3 _ _ h2) (by rw [List.length_map, List.length_map, List.length_take]; omega)) s2 (by rw [List.length_append, List.length_map, List.length_map, List.length_map, List.length_take, List.length_drop]; omega)) fun q H4 hq e4 h4 => ?_
      have e04 := e03.trans e4
      refine kS _ ec H4 q (rs.take i ++ rx ++ rs.drop (i + 2)) e04 (fresh_back e03 hq) ?_ ?_
      · rw [h4, List.map_append, List.map_append]
      · have hd4 := hds.ex e04
        exact paired_append (paired_append (paired_take hd4) (hdx.ex (e3.trans e4))) (paired_drop hd4)
  · rintro σ' H' ⟨⟨pv, fv, rfl⟩, e', hm⟩
    rw [List.length_map, hlen] at hm
    exact kN (cleaner_none ds fun i a b h1 h2 => hm i a b (by have := (List.getElem?_eq_some_iff.mp h2).1; omega) h1 h2) H' e'
/-! all of them -/
theorem s_asgC {sp : Sp} {E : XK} {ta : TA} {i : Nat} {D : Ends} {σ : L2.St} {H : Hp} {vs : List V} (ha : EvA ta σ H vs) (k : ∀ H1, Ex H H1 → sp (vs ++ []) H1 (fun v H2 => D.nx (σ.set i (some v)) H2) E) :
    tAsg (tCall sp [] E ta) (gName i) D σ H := ha H (Ex.refl H) _ fun H1 e1 => k H1 e1
def spCleaned (t : T K mg) : Sp := fun vs H Q _ => ∃ l rs ds, vs = [.ref l] ∧ H l = some (.lst (rs.map V.ref)) ∧ DeedsAt t Any H rs ds ∧ ds.length ≤ 20 ∧
  ∀ H' a rs', Ex H H' → H a = none → H' a = some (.lst (rs'.map V.ref)) → DeedsAt t Any H' rs' (Vamacf.clean ds.length ds) → Q (.ref a) H'
theorem ok_cleaned (t : T K mg) : FnOk P w K mg base CX0 7 t.d_cleaned.f t.d_cleaned.d ["deeds"] (spCleaned t) := by
  have G_without_first_slip := ok_without_first_slip (P := P) (w := w) (base := base) t
  refine t.d_cleaned.F.ok sc_cleaned (fun vs H Q E h => by obtain ⟨l, rs, ds, rfl, _⟩ := h; rfl) (fun cdv A outer s H vs Q E hr h => ⟨_, (pss_cons (ps_set (i := 1) sc_cleaned.nd rfl (Or.inl rfl) (pcall t.d_without_first_slip G_without_first_slip (hr.mono (by omega)) rfl (pa_cons (pv 0) pa_nil)))
  (pss_cons (ps_while PassesOwn.never (pt_cmpR op_notN (pv 1) pe_non (nomark _)) (pss_cons (ps_set (i := 0) sc_cleaned.nd rfl (Or.inl rfl) (pv 1))
  (pss_one (ps_set (i := 1) sc_cleaned.nd rfl (Or.inl rfl) (pcall t.d_without_first_slip G_without_first_slip (hr.mono (by omega)) rfl (pa_cons (pv 0) pa_nil))))))
  (pss_one (ps_ret (pe_callTy call_list_of rfl t.z_list (by decide +kernel) (pa_cons (pv 0) pa_nil)))))), ?_⟩)
  obtain ⟨l, rs, ds, rfl, hl, hds, hz, kk⟩ := h
  refine q_asgC (ea_cons (ev_var rfl) ea_nil) fun H1 e1 => ⟨rfl, Vamacf.cleaner ds, ⟨l, rs, ds, rfl, e1 _ _ hl, hds.ex e1, hz, rfl⟩, fun en H2 e2 => ?_, fun m em H2 p rm e2 hp h2 hdm => ?_⟩
  all_goals
    refine q_while (fun n σ' H' => ∃ l' rs' ds', ∃ sv, σ' = [some (.ref l'), some sv] ∧ ds'.length ≤ n ∧ ds'.length ≤ 20 ∧ Ex H H' ∧ H' l' = some (.lst (rs'.map V.ref)) ∧ DeedsAt t Any H' rs' ds' ∧ Vamacf.clean ds.length ds = Vamacf.clean ds'.length ds' ∧
      ((Vamacf.cleaner ds' = none ∧ sv = .non) ∨ ∃ m p rm, Vamacf.cleaner ds' = some m ∧ sv = .ref p ∧ H' p = some (.lst (rm.map V.ref)) ∧ DeedsAt t Any H' rm m)) ds.length ?_ ?_
  · exact ⟨l, rs, ds, .non, rfl, Nat.le_refl _, hz, e1.trans e2, (e1.trans e2) _ _ hl, hds.ex (e1.trans e2), rfl, .inl ⟨en, rfl⟩⟩
  rotate_left
  · exact ⟨l, rs, ds, .ref p, rfl, Nat.le_refl _, hz, e1.trans e2, (e1.trans e2) _ _ hl, hds.ex (e1.trans e2), rfl, .inr ⟨m, p, rm, em, rfl, h2, hdm⟩⟩
  all_goals
    rintro n σ' H' ⟨l', rs', ds', sv, rfl, hn, h20, e', hl', hds', hc, hsv⟩
    rcases hsv with ⟨en', rfl⟩ | ⟨m', p', rm', em', rfl, hp', hdm'⟩
    · refine ⟨false, et_test (ev_op (ev_var rfl) ev_c (rv_val fun H4 e4 Q q => ⟨rfl, q⟩)), fun c => (by cases c), fun _ H3 e3 => ?_⟩
      refine s_retL (el_list (ev_var rfl) (.of (e3 _ _ hl'))) fun q H4 hq e4 h4 => kk H4 q rs' ((e'.trans e3).trans e4) (fresh_back (e'.trans e3) hq) h4 ?_
      rw [hc, clean_stop en']
      exact hds'.ex (e3.trans e4)
    · refine ⟨true, et_test (ev_op (ev_var rfl) ev_c (rv_val fun H4 e4 Q q => ⟨rfl, q⟩)), fun _ H3 e3 => ?_, fun c => (by cases c)⟩
      have hlt := cleaner_len _ _ em'
      refine ⟨fun σ2 H2 => ∃ l' rs' ds', ∃ sv, σ2 = [some (.ref l'), some sv] ∧ ds'.length ≤ m'.length ∧ ds'.length ≤ 20 ∧ Ex H H2 ∧ H2 l' = some (.lst (rs'.map V.ref)) ∧ DeedsAt t Any H2 rs' ds' ∧ Vamacf.clean ds.length ds = Vamacf.clean ds'.length ds' ∧
        ((Vamacf.cleaner ds' = none ∧ sv = .non) ∨ ∃ m p rm, Vamacf.cleaner ds' = some m ∧ sv = .ref p ∧ H2 p = some (.lst (rm.map V.ref)) ∧ DeedsAt t Any H2 rm m), fun σ2 H2 z => ⟨m'.length, by omega, z⟩, ?_⟩
      have e03 := e'.trans e3
      refine q_asg (v := .ref p') (ev_var rfl) fun H4 e4 => ?_
      refine s_asgC (ea_cons (ev_var rfl) ea_nil) fun H5 e5 => ⟨rfl, Vamacf.cleaner m', ⟨p', rm', m', rfl, ((e3.trans e4).trans e5) _ _ hp', hdm'.ex ((e3.trans e4).trans e5), by omega, rfl⟩, fun en H6 e6 => ?_, fun m2 em2 H6 p2 rm2 e6 hp2 h6 hdm2 => ?_⟩
      · have e36 := ((e3.trans e4).trans e5).trans e6
        exact ⟨p', rm', m', .non, rfl, Nat.le_refl _, by omega, e'.trans e36, e36 _ _ hp', hdm'.ex e36, by rw [hc, clean_step em'], .inl ⟨en, rfl⟩⟩
      · have e36 := ((e3.trans e4).trans e5).trans e6
        exact ⟨p', rm', m', .ref p2, rfl, Nat.le_refl _, by omega, e'.trans e36, e36 _ _ hp', hdm'.ex e36, by rw [hc, clean_step em'], .inr ⟨m2, p2, rm2, em2, rfl, h6, hdm2⟩⟩
end
end G
/-! Programs joined; places that changed. -/
namespace G
open PySem PySem.Spec PyProof.Rows L2 Evl My
section
variable {K : PySem.W.Frag} {mg : Str → Option Value} {P : Program} {w : World} {base : Heap}
def RAccept (t : T K mg) : List V → Hp → V → Prop := fun vs H z => ∃ a p, vs = [.ref a] ∧ ProgAt t Any H a p ∧ z = .bl (Vamacf.accepted p)
theorem ok_is_accepted (t : T K mg) : FnOk P w K mg base CX0 12 t.d_is_accepted.f t.d_is_accepted.d ["program"] (spV 1 (RAccept t)) := by
  have G_first_endless := ok_first_endless (P := P) (w := w) (base := base) t
  have G_most_deeds := ok_most_deeds (P := P) (w := w) (base := base) t 4
  refine t.d_is_accepted.F.ok sc_is_accepted (fun vs H Q E h => h.1) (fun cdv A outer s H vs Q E hr h => ⟨_, (pss_one (ps_ret (pe_and (pe_cmpR op_isN (pcall t.d_first_endless G_first_endless (hr.mono (by omega)) rfl (pa_cons (pe_fld (pv 0) rfl) pa_nil)) pe_non (nomark _)) (pe_one (pe_cmpR op_le (pcall t.d_most_deeds G_most_deeds (hr.mono (by omega)) rfl (pa_cons (pe_fld (pv 0) rfl) pa_nil)) (pe_cst rfl t.c_MOST_ACCEPTED) (nomark _)))))), ?_⟩)
  obtain ⟨_, z, ⟨a, p, rfl, hpa, rfl⟩, q⟩ := h
  obtain ⟨⟨dp, ln, lr, lp, vr, vp, q1, q2, q3, q4, q5, q6, _⟩, ok⟩ := hpa
  obtain ⟨o1, o2, o3⟩ := okProg_parts ok
  refine s_ret (ev_is (ev_and2 (a := (Vamacf.loose 0 p).isNone) (b := decide (Vamacf.most p ≤ 60)) (ev_op (ev_call (ea_cons (ev_fld (ev_var rfl) q1 t.k_Program.cl t.n_Program_pieces l_Program_pieces) ea_nil) (spV_use (z := optN (Vamacf.loose 0 p)) rfl fun H1 e1 => ⟨lp, vp, p, rfl, e1 _ _ q4, q6.ex e1, ok, rfl⟩)) ev_c (rv_val fun H1 e1 Q q => ⟨rfl, by
      cases e : Vamacf.loose 0 p with
      | none =>
        rw [e] at q
        exact q
      | some k =>
        rw [e] at q
        exact q⟩)) (ev_is (ev_op (ev_call (ea_cons (ev_fld (ev_var rfl) q1 t.k_Program.cl t.n_Program_row l_Program_row) ea_nil) (spV_use rfl fun H3 e3 => ⟨lr, vr, p, rfl, e3 _ _ q3, q5.ex e3, by omega, o1, o2, rfl⟩)) ev_c rv_I0) (congrArg V.bl ?_))) (congrArg V.bl ?_)) q
  · by_cases c : Vamacf.most p ≤ 60
    · rw [decide_eq_true c, decide_eq_true (by omega)]
    · rw [decide_eq_false c, decide_eq_false (by omega)]
  · show _ = (Vamacf.surely p && decide (Vamacf.most p ≤ VamacBase.DEEDS))
    rw [surely_loose p 0]
    rfl
def RJoined (t : T K mg) : List V → Hp → List V → Prop := fun vs H xs => ∃ a b p q, vs = [.ref a, .ref b] ∧ ProgAt t Any H a p ∧ ProgAt t Any H b q ∧ xs = (((p.row : Int) + (q.row : Int)) :: (VamacBase.flatPieces p ++ VamacBase.flatPieces q)).map V.int
theorem cut_one {x : Int} {l : List Int} : cutV ((x :: l).map V.int) (some 1) none = l.map V.int := by
  have := cut_from (xs := (x :: l).map V.int) (k := 1)
  rw [show ((1 : Nat) : Int) = 1 from rfl] at this
  rw [this]
  rfl
theorem at_row (p : VamacBase.Prog) : atI ((VamacBase.flatProg p).map V.int) 0 = some (.int (p.row : Int)) := atI_nat (xs := (VamacBase.flatProg p).map V.int) (j := 0) rfl
theorem ok_numbers_joined (t : T K mg) : FnOk P w K mg base CX0 1 t.d_numbers_joined.f t.d_numbers_joined.d ["first", "second"] (spL 2 (RJoined t)) := by
  refine t.d_numbers_joined.F.ok sc_numbers_joined (fun vs H Q E h => h.1) (fun cdv A outer s H vs Q E hr h => ⟨_, (pss_cons (ps_set (i := 2) sc_numbers_joined.nd rfl (Or.inl rfl) (pe_op op_add (pe_ix ix_list (pe_fld (pv 0) rfl) pe_int (fun _ _ => rfl)) (pe_ix ix_list (pe_fld (pv 1) rfl) pe_int (fun _ _ => rfl))))
  (pss_one (ps_ret (pe_op op_cat (pe_op op_cat (pe_lst (pa_cons (pv 2) pa_nil)) (pe_slice sl_list (pe_fld (pv 0) rfl) (po_some pe_int) po_none)) (pe_slice sl_list (pe_fld (pv 1) rfl) (po_some pe_int) po_none))))), ?_⟩)
  obtain ⟨_, xs, ⟨a, b, p, q, rfl, hp, hq, rfl⟩, kk⟩ := h
  obtain ⟨⟨dp, ln, lr, lp, vr, vp, p1, p2, p3, p4, p5, p6, _⟩, okp⟩ := hp
  obtain ⟨⟨dq, mn, mr, mp, ur, up, q1, q2, q3, q4, q5, q6, _⟩, okq⟩ := hq
  have zp := flatPieces_len p
  have zq := flatPieces_len q
  obtain ⟨_, sp', _⟩ := okProg_parts okp
  obtain ⟨_, sq', _⟩ := okProg_parts okq
  have n1 : ∀ {σ H'}, Ex H H' → Ev (tFld K (tVar 0) "numbers") (some (V.ref a) :: σ) H' (.ref ln) := fun e => ev_fld (ev_var rfl) (e _ _ p1) t.k_Program.cl t.n_Program_numbers l_Program_numbers
  have n2 : ∀ {σ H'}, Ex H H' → Ev (tFld K (tVar 1) "numbers") (some (V.ref a) :: some (V.ref b) :: σ) H' (.ref mn) := fun e => ev_fld (ev_var rfl) (e _ _ q1) t.k_Program.cl t.n_Program_numbers l_Program_numbers
  refine q_asg (v := .int ((p.row : Int) + (q.row : Int))) (ev_op (ev_op (n1 (Ex.refl H)) ev_c (rv_ixL (v := .int (p.row : Int)) (.of p2) (at_row p))) (ev_op (n2 (Ex.refl H)) ev_c (rv_ixL (v := .int (q.row : Int)) (.of q2) (at_row q))) rv_I0) fun H1 e1 => ?_
  have s1 : EvL (tSl (rSlL K) (tFld K (tVar 0) "numbers") (tPart (tC (.int 1))) tNoPart) [some (V.ref a), some (V.ref b), some (.int ((p.row : Int) + (q.row : Int)))] H1 ((VamacBase.flatPieces p).map V.int) := by
    rw [← cut_one (x := VamacBase.int p.row)]
    exact el_sl (n1 e1) (eo_some ev_c) eo_none (.of (e1 _ _ p2))
  have s2 : EvL (tSl (rSlL K) (tFld K (tVar 1) "numbers") (tPart (tC (.int 1))) tNoPart) [some (V.ref a), some (V.ref b), some (.int ((p.row : Int) + (q.row : Int)))] H1 ((VamacBase.flatPieces q).map V.int) := by
    rw [← cut_one (x := VamacBase.int q.row)]
    exact el_sl (n2 e1) (eo_some ev_c) eo_none (.of (e1 _ _ q2))
  refine s_retL (el_catLL (el_catLL (el_lst (ea_cons (ev_var rfl) ea_nil) (by show 1 ≤ 100000; decide)) s1 (by rw [List.length_map]; show 1 + _ ≤ _; omega)) s2 (by rw [List.length_append, List.length_map, List.length_map]; show 1 + _ + _ ≤ _; omega)) fun l H2 hl e2 h2 => kk l H2 (fresh_back e1 hl) (e1.trans e2) ?_
  rw [h2, List.map_cons, List.map_append]
  rfl
/-! ### places -/
theorem s_enum {σ : L2.St} {H : Hp} {D : Ends} {tu : TS} {a : Addr} {tl : TE} {xs : List V} {j1 j2 : Nat} (h : Ev tl σ H (.ref a)) (hx : SqL K H a xs) (Pv : Nat → L2.St → Hp → Prop) (h0 : ∀ H1, Ex H H1 → Pv 0 σ H1) (hl : ∀ i σ' H', i ≤ xs.length → Pv i σ' H' → SqL K H' a xs)
    (hs : ∀ i x σ' H', xs[i]? = some x → Pv i σ' H' → ∀ H2, Ex H' H2 → tu { D with nx := Pv (i + 1), ct := Pv (i + 1), bk := D.nx } ((σ'.set j1 (some (.int (i : Nat)))).set j2 (some x)) H2)
    (hd : ∀ σ' H', Pv xs.length σ' H' → D.nx σ' H') : tFor (iEnum K (tCons tl tNil)) (gTup K 2 (gCons (gName j1) (gCons (gName j2) gNil))) tu D σ H := by
  refine h H (Ex.refl H) _ fun H1 e1 => ⟨a, xs, rfl, ex_l e1 hx, ?_⟩
  refine for_it (walk_enum (xs := xs)) Pv (h0 H1 e1) hl (fun i p σ' H' H2 hi q y => ?_) hd
  obtain ⟨A, x, y', rfl, hA, rfl, ex, ey⟩ := y
  obtain rfl : V.int (i : Nat) = x := Option.some.inj ex
  exact ⟨A, _, rfl, .of upd_same, rfl, _, _, rfl, _, _, rfl, rfl, hs i y' σ' H' ey q _ (Ex.new (o := .tup [.int (i : Nat), y']) hA)⟩
theorem q_enumL {σ : L2.St} {H : Hp} {D : Ends} {tu tz : TS} {a : Addr} {tl : TE} {xs : List V} {j1 j2 : Nat} (h : Ev tl σ H (.ref a)) (hx : SqL K H a xs) (Pv : Nat → L2.St → Hp → Prop) (h0 : ∀ H1, Ex H H1 → Pv 0 σ H1) (hl : ∀ i σ' H', i ≤ xs.length → Pv i σ' H' → SqL K H' a xs)
    (hs : ∀ i x σ' H', xs[i]? = some x → Pv i σ' H' → ∀ H2, Ex H' H2 → tu { D with nx := Pv (i + 1), ct := Pv (i + 1), bk := tz D } ((σ'.set j1 (some (.int (i : Nat)))).set j2 (some x)) H2)
    (hd : ∀ σ' H', Pv xs.length σ' H' → tz D σ' H') : tSeq (tFor (iEnum K (tCons tl tNil)) (gTup K 2 (gCons (gName j1) (gCons (gName j2) gNil))) tu) tz D σ H := s_enum (D := { D with nx := tz D }) h hx Pv h0 hl hs hd
def PlacesAt (H : Hp) (rs : List Addr) (ps : List (Nat × Nat)) : Prop := Paired (fun a p => H a = some (.tup [.int (p.1 : Nat), .int (p.2 : Nat)])) rs ps
theorem PlacesAt.ex {H H' : Hp} {rs : List Addr} {ps : List (Nat × Nat)} (e : Ex H H') (h : PlacesAt H rs ps) : PlacesAt H' rs ps := paired_mono (fun _ _ q => e _ _ q) h
theorem PlacesAt.updL {H : Hp} {rs : List Addr} {ps : List (Nat × Nat)} {l : Addr} {xs : List V} {o : HO} (h : PlacesAt H rs ps) (hl : H l = some (.lst xs)) : PlacesAt (L2.upd H l o) rs ps := paired_mono (fun a p q => by
  rw [upd_ne (by rintro rfl; rw [hl] at q; cases q)]
  exact q) h
def spPlaces (t : T K mg) : Sp := fun vs H Q _ => ∃ a b N N' ta tb, vs = [.ref a, .ref b] ∧ TabAt t N H a ta ∧ TabAt t N' H b tb ∧ tb.rows.length = ta.rows.length ∧
  ∀ H' l rs, Ex H H' → H l = none → H' l = some (.lst (rs.map V.ref)) → PlacesAt H' rs (Vamacf.changedIn ta tb) → Q (.ref l) H'
theorem ok_places_changed (t : T K mg) : FnOk P w K mg base CX0 1 t.d_places_changed.f t.d_places_changed.d ["before", "behind"] (spPlaces t) := by
  refine t.d_places_changed.F.ok sc_places_changed (fun vs H Q E h => by obtain ⟨a, b, N, N', ta, tb, rfl, _⟩ := h; rfl) (fun cdv A outer s H vs Q E hr h => ⟨_, (pss_cons (ps_set (i := 2) sc_places_changed.nd rfl (Or.inl rfl) (pe_lst pa_nil))
  (pss_cons (ps_for PassesOwn.never rfl (pi_enum rfl t.z_enumerate (pa_cons (pe_fld (pv 0) rfl) pa_nil)) (pg_tup rfl (pgs_cons (pg_name (i := 3) sc_places_changed.nd rfl (Or.inl rfl)) (pgs_cons (pg_name (i := 4) sc_places_changed.nd rfl (Or.inl rfl)) pgs_nil))) (pss_one (ps_for PassesOwn.never rfl (pi_enum rfl t.z_enumerate (pa_cons (pv 4) pa_nil)) (pg_tup rfl (pgs_cons (pg_name (i := 5) sc_places_changed.nd rfl (Or.inl rfl)) (pgs_cons (pg_name (i := 6) sc_places_changed.nd rfl (Or.inl rfl)) pgs_nil))) (pss_one (ps_if (pt_cmpR op_ne (pe_ix ix_list (pe_ix ix_list (pe_fld (pv 1) rfl) (pv 3) (fun _ _ => rfl)) (pv 5) (fun _ _ => rfl)) (pv 6) (nomark _)) (pss_one (ps_expr (pe_bm PySem.F.plainAttrs_list PySem.F.slot_list_append PySem.F.type_list_append mt_append (pv 2) (pa_cons (pe_tup (pa_cons (pv 3) (pa_cons (pv 5) pa_nil))) pa_nil)))) pss_nil)))))
  (pss_one (ps_ret (pv 2))))), ?_⟩)
  obtain ⟨a, b, N, N', ta, tb, rfl, hA, hB, hlen, kk⟩ := h
  obtain ⟨⟨dx, lr, rs, h1, h2, h3, h4, h5, h6, h7⟩, ok⟩ := id hA
  obtain ⟨⟨dy, mr, us, g1, g2, g3, g4, g5, g6, g7⟩, okb⟩ := id hB
  obtain ⟨k1, k2, _, _⟩ := okTable_parts ok
  obtain ⟨_, m2, _, _⟩ := okTable_parts okb
  refine q_asgL (el_lst ea_nil (by decide)) fun g H1 hg e1 hg1 => ?_
  refine q_enumL (xs := rs.map V.ref) (ev_fld (ev_var rfl) (e1 _ _ h1) t.k_Table.cl t.n_Table_rows l_Table_rows) (.of (e1 _ _ h2)) (fun i σ' H' => ∃ w1 w2 w3 w4 as, σ' = [some (.ref a), some (.ref b), some (.ref g), w1, w2, w3, w4] ∧ Ex H H' ∧ H' g = some (.lst (as.map V.ref)) ∧ PlacesAt H' as (chTo ta tb i))
    (fun H2 e2 => ⟨none, none, none, none, [], rfl, e1.trans e2, e2 _ _ hg1, .nil⟩) (fun i σ' H' _ q => ?_) (fun i x σ' H' hx q H2 e2 => ?_) (fun σ' H' q => ?_)
  · obtain ⟨_, _, _, _, _, _, e', _⟩ := q
    exact .of (e' _ _ h2)
  · obtain ⟨w1, w2, w3, w4, as, rfl, e', hg', hp⟩ := q
    rw [List.getElem?_map] at hx
    obtain ⟨r0, hi2, rfl⟩ := Option.map_eq_some_iff.mp hx
    obtain ⟨row, i1, _, i2⟩ := paired_get h3 hi2
    have hi : i < ta.rows.length := (List.getElem?_eq_some_iff.mp i1).1
    obtain ⟨r1, j1, _, j2⟩ := g3.get (i := i) (by omega)
    have j0 : tb.rows[i]? = some (tb.rows[i]'(by omega)) := List.getElem?_eq_getElem (by omega)
    have hr : row.length = 3 := (k2 row (List.mem_of_getElem? i1)).1
    have hs : (tb.rows[i]'(by omega)).length = 3 := (m2 _ (List.getElem_mem _)).1
    have e02 := e'.trans e2
    refine s_enum (xs := row.map V.int) (ev_var rfl) (.of (e02 _ _ i2)) (fun k σ' H' => ∃ w3 w4 as, σ' = [some (.ref a), some (.ref b), some (.ref g), some (.int (i : Nat)), some (.ref r0), w3, w4] ∧ Ex H H' ∧ H' g = some (.lst (as.map V.ref)) ∧ PlacesAt H' as (chTo ta tb i ++ chRow ta tb i k))
      (fun H3 e3 => ⟨w3, w4, as, rfl, e02.trans e3, e3 _ _ (e2 _ _ hg'), by show PlacesAt H3 as (chTo ta tb i ++ []); rw [List.append_nil]; exact hp.ex (e2.trans e3)⟩) (fun k σ' H' _ q => ?_) (fun k y σ' H' hy q H3 e3 => ?_) (fun σ' H' q => ?_)
    · obtain ⟨_, _, _, _, e', _⟩ := q
      exact .of (e' _ _ i2)
    · obtain ⟨w3, w4, as, rfl, e5, hg5, hp5⟩ := q
      rw [List.getElem?_map] at hy
      obtain ⟨z, hz, rfl⟩ := Option.map_eq_some_iff.mp hy
      have hk : k < row.length := (List.getElem?_eq_some_iff.mp hz).1
      have ez : row[k] = z := (List.getElem?_eq_some_iff.mp hz).2
      have e03 := e5.trans e3
      have hc := chF_at (a := ta) (b := tb) (f := k) i1 j0 hk (by omega)
      have hlz : as.length ≤ 27 := by
        rw [Paired.length hp5, List.length_append]
        have := chTo_len ta tb i
        have := chRow_len ta tb i k
        omega
      refine s_when (b := chF ta tb i k) (et_is (et_test (ev_op (ev_op (ev_op (ev_fld (ev_var rfl) (e03 _ _ g1) t.k_Table.cl t.n_Table_rows l_Table_rows) (ev_var rfl) (rv_ixL (v := .ref r1) (.of (e03 _ _ g2)) (atI_nat (by rw [List.getElem?_map, j1]; rfl)))) (ev_var rfl) (rv_ixL (.of (e03 _ _ j2)) (atI_nat (by rw [List.getElem?_map, List.getElem?_eq_getElem (show k < (tb.rows[i]'(by omega)).length by omega)]; rfl)))) (ev_var (v := .int z) rfl) (rv_ne rfl))) ?_) (fun c H4 e4 => ?_) (fun c H4 e4 => ?_)
      · rw [hc, ez]
        congr 1
        by_cases d : (tb.rows[i]'(by omega))[k]'(by omega) = z
        · rw [decide_eq_true d, decide_eq_true (congrArg V.int d)]
        · rw [decide_eq_false d, decide_eq_false fun q => d (V.int.inj q)]
      · refine s_appU ((e3.trans e4) _ _ hg5) (ev_var rfl) (eu_tup (ea_cons (ev_var rfl) (ea_cons (ev_var rfl) ea_nil)) (by show 2 ≤ 100000; decide)) (by rw [List.length_map]; omega) fun p H5 hpn e5' hp5' => ⟨_, _, as ++ [p], rfl, (((e03.trans e4).trans e5').mut hg), ?_, ?_⟩
        · rw [upd_same, List.map_append]
          rfl
        · rw [chRow_yes c, ← List.append_assoc]
          have e35 := (e3.trans e4).trans e5'
          exact paired_append ((hp5.ex e35).updL (e35 _ _ hg5)) (.cons (by rw [upd_ne (by rintro rfl; rw [e35 _ _ hg5] at hp5'; cases hp5')]; exact hp5') .nil)
      · refine ⟨_, _, as, rfl, e03.trans e4, (e3.trans e4) _ _ hg5, ?_⟩
        rw [chRow_no c]
        exact hp5.ex (e3.trans e4)
    · obtain ⟨w3, w4, as, rfl, e5, hg5, hp5⟩ := q
      rw [List.length_map, hr] at hp5
      refine ⟨_, _, w3, w4, as, rfl, e5, hg5, ?_⟩
      rw [chTo_succ]
      exact hp5
  · obtain ⟨w1, w2, w3, w4, as, rfl, e', hg', hp⟩ := q
    rw [List.length_map, h3.len, ← changedIn_eq] at hp
    exact ⟨_, rfl, kk H' g as e' hg hg' hp⟩
end
end G
/-! The desk: run, changed, join. -/
namespace G
open PySem PySem.Spec PyProof.Rows L2 Evl My
section
variable {K : PySem.W.Frag} {mg : Str → Option Value} {P : Program} {w : World} {base : Heap}
theorem el_meth {sp : Sp} {ta : TE} {t : TA} {σ : L2.St} {H : Hp} {a C dx : Addr} {m : Str} {fs : List (Str × V)} {vs xs : List V} {E : XK} (h : Ev ta σ H (.ref a)) (o : H a = some (.ins C dx fs)) (l : fs.lookup m = none)
    (ha : EvA t σ H vs) (hs : SpL sp (.ref a :: (vs ++ [])) H xs) : EvL (tMeth C m sp [] E ta t) σ H xs := fun H1 e Q q =>
  h H1 e _ fun H2 e2 => ⟨a, dx, fs, rfl, e2 a _ (e a _ o), l, ha H2 (e.trans e2) _ fun H3 e3 => hs H3 ((e.trans e2).trans e3) Q (fun p H4 hp e4 h4 => q p H4 (fresh_back (e2.trans e3) hp) ((e2.trans e3).trans e4) h4) E⟩
theorem q_asgF {sp : Sp} {E : XK} {ta : TA} {i : Nat} {f : Str} {tz : TS} {D : Ends} {σ : L2.St} {H : Hp} {vs : List V} (ha : EvA ta σ H vs)
    (k : ∀ H1, Ex H H1 → sp (vs ++ []) H1 (fun x H2 => ∃ a C dx fs v, x = .ref a ∧ H2 a = some (.ins C dx fs) ∧ Cls K C ∧ NoAttr K C f ∧ fs.lookup f = some v ∧ tz D (σ.set i (some v)) H2) E) :
    tSeq (tAsg (tFld K (tCall sp [] E ta) f) (gName i)) tz D σ H := ha H (Ex.refl H) _ fun H1 e1 => k H1 e1
theorem ok_Desk_run_on (t : T K mg) : FnOk P w K mg base CX0 20 t.d_Desk_run_on.f t.d_Desk_run_on.d ["self", "numbers"] (spStep t 2 (RD1 K .run)) := by
  have G_read_table := ok_read_table (P := P) (w := w) (base := base) t
  have G_run_row := ok_run_row (P := P) (w := w) (base := base) t
  have G_Table_as_numbers := ok_Table_as_numbers (P := P) (w := w) (base := base) t
  refine t.d_Desk_run_on.F.ok sc_Desk_run_on (fun vs H Q E h => h.1) (fun cdv A outer s H vs Q E hr h => ⟨_, (pss_cons (ps_try_only rfl rfl ⟨rfl, by decide, Or.inl t.x_NotWhole.g⟩ takes0 (fun W pn xe tk _ => (pss_one (ps_set (i := 2) sc_Desk_run_on.nd rfl (Or.inl rfl) (pcallS t.d_read_table G_read_table (hr.mono (by omega)) rfl tk (pa_cons (pv 1) pa_nil))))) (fun _ _ _ _ _ _ _ => (pss_one (ps_ret (pe_lst (pa_cons (pe_un un_neg pe_int) pa_nil))))))
  (pss_cons (ps_set (i := 3) sc_Desk_run_on.nd rfl (Or.inl rfl) (pcall t.d_run_row G_run_row (hr.mono (by omega)) rfl (pa_cons (pe_fld (pe_fld (pv 0) rfl) rfl) (pa_cons (pv 2) pa_nil))))
  (pss_one (ps_ret (pe_op op_cat (pe_lst (pa_cons (pe_fld (pv 3) rfl) (pa_cons (pe_fld (pv 3) rfl) pa_nil))) (pmeth0 (pe_fld (pv 3) rfl) t.k_Table.cl t.d_Table_as_numbers G_Table_as_numbers (hr.mono (by omega)))))))), ?_⟩)
  obtain ⟨_, N, d, p, c, ⟨na, ns, rfl, hq, hsz, rfl⟩, hd, k⟩ := h
  obtain ⟨dx, a0, h1, hp0⟩ := id hd
  refine ⟨_, rfl, na, ns, rfl, hq, hsz, fun e H2 e2 => ⟨true, t.x_NotWhole.e, fun _ _ _ => ?_, fun q => Bool.noConfusion q⟩, fun tb e H2 a e2 hT => ?_⟩
  · have es : Vamacf.step ⟨p⟩ (.run ns) = (⟨p⟩, [-1]) := by
      show ((⟨p⟩ : Vamacf.State), match VamacBase.whole VamacBase.readTable ns with | none => [-1] | some x => Vamacf.ranTold (VamacBase.run p x)) = _
      rw [e]
    exact s_retL (el_lst (ea_cons (ev_un ev_c ru_neg) ea_nil) (by decide)) fun l H3 hl e3 h => step_same hd es k l H3 (fresh_back e2 hl) (e2.trans e3) h
  · have es : Vamacf.step ⟨p⟩ (.run ns) = (⟨p⟩, Vamacf.ranTold (VamacBase.run p tb)) := by
      show ((⟨p⟩ : Vamacf.State), match VamacBase.whole VamacBase.readTable ns with | none => [-1] | some x => Vamacf.ranTold (VamacBase.run p x)) = _
      rw [e]
    have k' := step_same hd es k
    obtain ⟨⟨dp, ln, lr, lp, vr, vp, q1, q2, q3, q4, q5, q6, _⟩, ok⟩ := hp0.any
    obtain ⟨o1, o2, o3⟩ := okProg_parts ok
    refine q_asgC (ea_cons (ev_fld (ev_fld (ev_var rfl) (e2 _ _ h1) t.k_Desk.cl t.n_Desk_program l_Desk_program) (e2 _ _ q1) t.k_Program.cl t.n_Program_row l_Program_row) (ea_cons (ev_var rfl) ea_nil)) fun H3 e3 => ⟨lr, a, vr, p, Any, _, tb, rfl, (e2.trans e3) _ _ q3, q5.ex (e2.trans e3), by omega, okR_of p o1, hT.ex e3, fun H4 ra e4 hR => ?_⟩
    obtain ⟨⟨dr, ta, r1, hT4⟩, _, hz⟩ := hR
    obtain ⟨dt, _, _, t1, _⟩ := hT4.at_
    have e04 := (e2.trans e3).trans e4
    have hfl := flatTable_len hT4.ok
    refine s_retL (el_catLL (el_lst (ea_cons (ev_fld (v := .int ((VamacBase.run p tb).trace.length : Nat)) (ev_var rfl) r1 t.k_Run.cl t.n_Run_done l_Run_done) (ea_cons (ev_fld (v := .int (VamacBase.badNumber (VamacBase.run p tb).bad)) (ev_var rfl) r1 t.k_Run.cl t.n_Run_ended l_Run_ended) ea_nil)) (by show 2 ≤ 100000; decide))
      (el_meth (ev_fld (ev_var rfl) r1 t.k_Run.cl t.n_Run_table l_Run_table) t1 m_Table_as_numbers ea_nil (spL_use rfl fun H5 e5 => ⟨ta, _, (VamacBase.run p tb).table, rfl, hT4.ex e5, rfl⟩)) (by rw [List.length_map]; show 2 + _ ≤ _; omega)) fun l H5 hl e5 h => k' l H5 (fresh_back e04 hl) (e04.trans e5) ?_
    rw [h]
    rfl
theorem ok_Desk_changed_on (t : T K mg) : FnOk P w K mg base CX0 20 t.d_Desk_changed_on.f t.d_Desk_changed_on.d ["self", "numbers"] (spStep t 2 (RD1 K .changed)) := by
  have G_read_table := ok_read_table (P := P) (w := w) (base := base) t
  have G_run_row := ok_run_row (P := P) (w := w) (base := base) t
  have G_places_changed := ok_places_changed (P := P) (w := w) (base := base) t
  refine t.d_Desk_changed_on.F.ok sc_Desk_changed_on (fun vs H Q E h => h.1) (fun cdv A outer s H vs Q E hr h => ⟨_, (pss_cons (ps_try_only rfl rfl ⟨rfl, by decide, Or.inl t.x_NotWhole.g⟩ takes0 (fun W pn xe tk _ => (pss_one (ps_set (i := 2) sc_Desk_changed_on.nd rfl (Or.inl rfl) (pcallS t.d_read_table G_read_table (hr.mono (by omega)) rfl tk (pa_cons (pv 1) pa_nil))))) (fun _ _ _ _ _ _ _ => (pss_one (ps_ret (pe_lst (pa_cons (pe_un un_neg pe_int) pa_nil))))))
  (pss_cons (ps_set (i := 3) sc_Desk_changed_on.nd rfl (Or.inl rfl) (pe_fld (pcall t.d_run_row G_run_row (hr.mono (by omega)) rfl (pa_cons (pe_fld (pe_fld (pv 0) rfl) rfl) (pa_cons (pv 2) pa_nil))) rfl))
  (pss_cons (ps_if (pt_cmpR op_ne (pe_callB call_len_seq rfl t.z_len PySem.boot_len (pa_cons (pe_fld (pv 3) rfl) pa_nil)) (pe_callB call_len_seq rfl t.z_len PySem.boot_len (pa_cons (pe_fld (pv 2) rfl) pa_nil)) (nomark _)) (pss_one (ps_ret (pe_lst (pa_cons (pe_un un_neg pe_int) pa_nil)))) pss_nil)
  (pss_cons (ps_set (i := 4) sc_Desk_changed_on.nd rfl (Or.inl rfl) (pcall t.d_places_changed G_places_changed (hr.mono (by omega)) rfl (pa_cons (pv 2) (pa_cons (pv 3) pa_nil))))
  (pss_cons (ps_set (i := 5) sc_Desk_changed_on.nd rfl (Or.inl rfl) (pe_lst (pa_cons (pe_callB call_len_seq rfl t.z_len PySem.boot_len (pa_cons (pv 4) pa_nil)) pa_nil)))
  (pss_cons (ps_for PassesOwn.never rfl (pi_list (pv 4)) (pg_tup rfl (pgs_cons (pg_name (i := 6) sc_Desk_changed_on.nd rfl (Or.inl rfl)) (pgs_cons (pg_name (i := 7) sc_Desk_changed_on.nd rfl (Or.inl rfl)) pgs_nil))) (pss_one (ps_expr (pe_bm PySem.F.plainAttrs_list PySem.F.slot_list_extend PySem.F.type_list_extend mt_extend (pv 5) (pa_cons (pe_lst (pa_cons (pv 6) (pa_cons (pv 7) pa_nil))) pa_nil)))))
  (pss_one (ps_ret (pv 5))))))))), ?_⟩)
  obtain ⟨_, N, d, p, c, ⟨na, ns, rfl, hq, hsz, rfl⟩, hd, k⟩ := h
  obtain ⟨dx, a0, h1, hp0⟩ := id hd
  have es0 : ∀ o, VamacBase.whole VamacBase.readTable ns = o → Vamacf.step ⟨p⟩ (.changed ns) = (⟨p⟩, match o with | none => [-1] | some x => if x.rows.length ≠ (VamacBase.run p x).table.rows.length then [-4] else Vamacf.int (Vamacf.changedIn x (VamacBase.run p x).table).length :: (Vamacf.changedIn x (VamacBase.run p x).table).flatMap fun p => [Vamacf.int p.1, Vamacf.int p.2]) := fun o e => by
    subst e
    rfl
  refine ⟨_, rfl, na, ns, rfl, hq, hsz, fun e H2 e2 => ⟨true, t.x_NotWhole.e, fun _ _ _ => ?_, fun q => Bool.noConfusion q⟩, fun tb e H2 a e2 hT => ?_⟩
  · exact s_retL (el_lst (ea_cons (ev_un ev_c ru_neg) ea_nil) (by decide)) fun l H3 hl e3 h => step_same hd (es0 _ e) k l H3 (fresh_back e2 hl) (e2.trans e3) h
  · have es := es0 _ e
    dsimp only at es
    obtain ⟨⟨dp, ln, lr, lp, vr, vp, q1, q2, q3, q4, q5, q6, _⟩, ok⟩ := hp0.any
    obtain ⟨o1, o2, o3⟩ := okProg_parts ok
    refine q_asgF (ea_cons (ev_fld (ev_fld (ev_var rfl) (e2 _ _ h1) t.k_Desk.cl t.n_Desk_program l_Desk_program) (e2 _ _ q1) t.k_Program.cl t.n_Program_row l_Program_row) (ea_cons (ev_var rfl) ea_nil)) fun H3 e3 => ⟨lr, a, vr, p, Any, _, tb, rfl, (e2.trans e3) _ _ q3, q5.ex (e2.trans e3), by omega, okR_of p o1, hT.ex e3, fun H4 ra e4 hR => ?_⟩
    obtain ⟨⟨dr, ta, r1, hT4⟩, _, hz⟩ := hR
    refine ⟨ra, _, dr, _, .ref ta, rfl, r1, t.k_Run.cl, t.n_Run_table, l_Run_table, ?_⟩
    generalize VamacBase.run p tb = y at es r1 hT4 hz
    have hT3 := (hT.ex e3).ex e4
    obtain ⟨dt, l1, rs1, t1, t2, t3, _⟩ := hT4.at_
    obtain ⟨du, l0, rs0, u1, u2, u3, _⟩ := hT3.at_
    have e04 := (e2.trans e3).trans e4
    refine q_when (b := !decide (y.table.rows.length = tb.rows.length)) (et_is (et_test (ev_op (ev_len (ev_fld (ev_var rfl) t1 t.k_Table.cl t.n_Table_rows l_Table_rows) (.of t2)) (ev_len (ev_fld (ev_var rfl) u1 t.k_Table.cl t.n_Table_rows l_Table_rows) (.of u2)) (rv_ne rfl))) (by
      rw [List.length_map, List.length_map, t3.len, u3.len]
      congr 1
      by_cases z : y.table.rows.length = tb.rows.length
      · rw [decide_eq_true z, decide_eq_true (by rw [z])]
      · rw [decide_eq_false z, decide_eq_false fun q => z (by have := V.int.inj q; omega)])) (fun c H5 e5 => ?_) (fun c H5 e5 => ?_)
    · have c' : ¬ y.table.rows.length = tb.rows.length := by simpa using c
      rw [if_pos fun z => c' z.symm] at es
      have e05 := e04.trans e5
      exact s_retL (el_lst (ea_cons (ev_un ev_c ru_neg) ea_nil) (by decide)) fun l H6 hl e6 h => step_same hd es k l H6 (fresh_back e05 hl) (e05.trans e6) h
    · have c' : y.table.rows.length = tb.rows.length := by simpa using c
      rw [if_neg fun z => z c'.symm] at es
      have k' := step_same hd es k
      have e05 := e04.trans e5
      have zl : (Vamacf.changedIn tb y.table).length ≤ 24 := by
        rw [changedIn_eq]
        have := chTo_len tb y.table tb.rows.length
        have := (okTable_parts hT.ok).1
        omega
      refine q_asgC (ea_cons (ev_var rfl) (ea_cons (ev_var rfl) ea_nil)) fun H6 e6 => ⟨a, ta, _, _, tb, y.table, rfl, hT3.ex (e5.trans e6), hT4.ex (e5.trans e6), c', fun H7 pl rs e7 hpl h7 hps => ?_⟩
      have e07 := (e05.trans e6).trans e7
      refine q_asgL (el_lst (ea_cons (ev_len (ev_var rfl) (.of h7)) ea_nil) (by show 1 ≤ 100000; decide)) fun g H8 hg e8 hg8 => ?_
      have hg0 : H g = none := fresh_back e07 hg
      refine q_forL (ev_var rfl) (.of (e8 _ _ h7)) (fun i σ' H' => ∃ w1 w2, σ' = [some (.ref d), some (.ref na), some (.ref a), some (.ref ta), some (.ref pl), some (.ref g), w1, w2] ∧ Ex H7 H' ∧ H' g = some (.lst ((((Vamacf.changedIn tb y.table).length : Int) :: ((Vamacf.changedIn tb y.table).take i).flatMap fun p => [Vamacf.int p.1, Vamacf.int p.2]).map V.int)))
        (fun H9 e9 => ⟨none, none, rfl, e8.trans e9, by rw [e9 _ _ hg8, List.length_map, Paired.length hps]; rfl⟩) (fun i σ' H' _ q => ?_) (fun i x σ' H' hx q => ?_) (fun σ' H' q => ?_)
      · obtain ⟨_, _, _, e', _⟩ := q
        exact .of (e' _ _ h7)
      · obtain ⟨w1, w2, rfl, e', hg'⟩ := q
        rw [List.getElem?_map] at hx
        obtain ⟨c0, hi2, rfl⟩ := Option.map_eq_some_iff.mp hx
        obtain ⟨pf, g1, g2⟩ := paired_get hps hi2
        have ht : ((Vamacf.changedIn tb y.table).take (i + 1)).flatMap (fun p => [Vamacf.int p.1, Vamacf.int p.2]) = ((Vamacf.changedIn tb y.table).take i).flatMap (fun p => [Vamacf.int p.1, Vamacf.int p.2]) ++ [Vamacf.int pf.1, Vamacf.int pf.2] := by
          rw [List.take_add_one, g1, List.flatMap_append]
          rfl
        have hfm : ∀ l : List (Nat × Nat), (l.flatMap fun p => [Vamacf.int p.1, Vamacf.int p.2]).length = 2 * l.length := fun l => by
          induction l with
          | nil => rfl
          | cons p l ih =>
            rw [List.flatMap_cons, List.length_append, ih, List.length_cons]
            show 2 + 2 * l.length = 2 * (l.length + 1)
            omega
        have hz2 : ((((Vamacf.changedIn tb y.table).length : Int) :: ((Vamacf.changedIn tb y.table).take i).flatMap fun p => [Vamacf.int p.1, Vamacf.int p.2]).map V.int).length ≤ 60 := by
          rw [List.length_map, List.length_cons, hfm, List.length_take]
          omega
        refine ⟨c0, _, rfl, .of (e' _ _ g2), rfl, _, _, rfl, _, _, rfl, rfl, ?_⟩
        refine s_extendL hg' (ev_var rfl) (el_lst (ea_cons (ev_var rfl) (ea_cons (ev_var rfl) ea_nil)) (by show 2 ≤ 100000; decide)) (Nat.le_trans (Nat.add_le_add_right hz2 2) (by decide)) fun H9 e9 => ⟨_, _, rfl, (e'.trans e9).mut hg, ?_⟩
        rw [upd_same, ht]
        show _ = some (HO.lst (List.map V.int ((_ :: _) ++ _)))
        rw [List.map_append]
        rfl
      · obtain ⟨w1, w2, rfl, e', hg'⟩ := q
        rw [List.length_map, Paired.length hps, List.take_length] at hg'
        exact ⟨_, rfl, k' g H' hg0 (e07.trans e') hg'⟩
theorem ok_Desk_join_program (t : T K mg) : FnOk P w K mg base CX0 18 t.d_Desk_join_program.f t.d_Desk_join_program.d ["self", "numbers"] (spStep t 2 (RD1 K .join)) := by
  have G_read_program := ok_read_program (P := P) (w := w) (base := base) t
  have G_numbers_joined := ok_numbers_joined (P := P) (w := w) (base := base) t
  have G_is_accepted := ok_is_accepted (P := P) (w := w) (base := base) t
  refine t.d_Desk_join_program.F.ok sc_Desk_join_program (fun vs H Q E h => h.1) (fun cdv A outer s H vs Q E hr h => ⟨_, (pss_cons (ps_try_only rfl rfl ⟨rfl, by decide, Or.inl t.x_NotWhole.g⟩ takes0 (fun W pn xe tk _ => (pss_one (ps_set (i := 2) sc_Desk_join_program.nd rfl (Or.inl rfl) (pcallS t.d_read_program G_read_program (hr.mono (by omega)) rfl tk (pa_cons (pv 1) pa_nil))))) (fun _ _ _ _ _ _ _ => (pss_one (ps_ret (pe_lst (pa_cons (pe_un un_neg pe_int) pa_nil))))))
  (pss_cons (ps_try_only rfl rfl ⟨rfl, by decide, Or.inl t.x_NotWhole.g⟩ takes0 (fun W pn xe tk _ => (pss_one (ps_set (i := 3) sc_Desk_join_program.nd rfl (Or.inl rfl) (pcallS t.d_read_program G_read_program (hr.mono (by omega)) rfl tk (pa_cons (pcall t.d_numbers_joined G_numbers_joined (hr.mono (by omega)) rfl (pa_cons (pe_fldK K (pv 0) rfl) (pa_cons (pv 2) pa_nil))) pa_nil))))) (fun _ _ _ _ _ _ _ => (pss_one (ps_ret (pe_lst (pa_cons (pe_un un_neg pe_int) pa_nil))))))
  (pss_cons (ps_fld (pv 0) (pv 3) rfl)
  (pss_one (ps_ret (pe_lst (pa_cons (pe_callB call_len_seq rfl t.z_len PySem.boot_len (pa_cons (pe_fld (pv 3) rfl) pa_nil)) (pa_cons (pe_ifExp (pt_val (pcall t.d_is_accepted G_is_accepted (hr.mono (by omega)) rfl (pa_cons (pv 3) pa_nil))) pe_int pe_int) pa_nil)))))))), ?_⟩)
  obtain ⟨_, N, d, p, c, ⟨na, ns, rfl, hq, hsz, rfl⟩, hd, k⟩ := h
  obtain ⟨dx, a0, h1, hp0⟩ := id hd
  have es0 : ∀ o, VamacBase.whole VamacBase.readProg ns = o → Vamacf.step ⟨p⟩ (.join ns) = match o with | none => (⟨p⟩, [-1]) | some q => if VamacBase.okProg (p.andThen q) then (⟨p.andThen q⟩, [Vamacf.int (p.andThen q).size, Vamacf.bool (Vamacf.accepted (p.andThen q))]) else (⟨p⟩, [-6]) := fun o e => by
    subst e
    rfl
  refine ⟨_, rfl, na, ns, rfl, hq, hsz, fun e H2 e2 => ⟨true, t.x_NotWhole.e, fun _ _ _ => ?_, fun q => Bool.noConfusion q⟩, fun p' e H2 a e2 hp => ?_⟩
  · exact s_retL (el_lst (ea_cons (ev_un ev_c ru_neg) ea_nil) (by decide)) fun l H3 hl e3 h => step_same hd (es0 _ e) k l H3 (fresh_back e2 hl) (e2.trans e3) h
  have es := es0 _ e
  dsimp only at es
  have z1 := flatPieces_len p
  have z2 := flatPieces_len p'
  obtain ⟨_, y1, _⟩ := okProg_parts hp0.ok
  obtain ⟨_, y2, _⟩ := okProg_parts hp.ok
  have jr := join_read hp0.ok hp.ok
  refine ⟨_, rfl, d, _, dx, _, _, rfl, e2 _ _ h1, t.k_Desk.cl, t.n_Desk_program, l_Desk_program, _, rfl, rfl, _, ⟨a0, a, p, p', rfl, (hp0.ex e2).any, hp.any, rfl⟩, fun l H3 hl e3 h3 => ⟨l, _, rfl, .of h3, by rw [List.length_cons, List.length_append]; omega, fun en H4 e4 => ⟨true, t.x_NotWhole.e, fun _ _ _ => ?_, fun q => Bool.noConfusion q⟩, fun r er H4 b e4 hr4 => ?_⟩⟩
  · have n : VamacBase.okProg (p.andThen p') = false := by
      cases z : VamacBase.okProg (p.andThen p') with
      | false => rfl
      | true =>
        rw [jr, z] at en
        cases en
    rw [n] at es
    have e04 := (e2.trans e3).trans e4
    exact s_retL (el_lst (ea_cons (ev_un ev_c ru_neg) ea_nil) (by decide)) fun l H5 hl e5 h => step_same hd es k l H5 (fresh_back e04 hl) (e04.trans e5) h
  · rw [jr] at er
    have n : VamacBase.okProg (p.andThen p') = true := by
      cases z : VamacBase.okProg (p.andThen p') with
      | true => rfl
      | false =>
        rw [z] at er
        cases er
    rw [n] at es er
    have er : some (p.andThen p') = some r := er
    cases er
    have es : Vamacf.step ⟨p⟩ (.join ns) = (⟨p.andThen p'⟩, [Vamacf.int (p.andThen p').size, Vamacf.bool (Vamacf.accepted (p.andThen p'))]) := es
    rw [es] at k
    have e04 := (e2.trans e3).trans e4
    have hd4 := e04 _ _ h1
    have hr0 : ProgAt t (fun b => H b = none) H4 b (p.andThen p') := hr4.mono (fun _ _ _ z => z) fun c z => fresh_back (e2.trans e3) z
    refine ⟨_, rfl, _, rfl, d, _, dx, _, rfl, hd4, t.k_Desk.cl, t.n_Desk_program, (by show 1 < 1000; decide), ?_⟩
    rw [p_Desk_program]
    have hr5 : ProgAt t (fun b => H b = none) (L2.upd H4 d (.ins t.k_Desk.C dx (fs_Desk (.ref b)))) b (p.andThen p') := hr0.mono (fun c o z q => by
      rw [upd_ne]
      · exact q
      · rintro rfl
        rw [h1] at z
        cases z) fun b z => z
    have b5 : But d H (L2.upd H4 d (.ins t.k_Desk.C dx (fs_Desk (.ref b)))) := (But.of e04).upd
    have hd5 : L2.upd H4 d (.ins t.k_Desk.C dx (fs_Desk (.ref b))) d = some (.ins t.k_Desk.C dx (fs_Desk (.ref b))) := upd_same
    have n5 : ∀ l, L2.upd H4 d (.ins t.k_Desk.C dx (fs_Desk (.ref b))) l = none → H l = none := fun l z => fresh_but b5 z (by rintro rfl; rw [hd5] at z; cases z)
    generalize L2.upd H4 d (.ins t.k_Desk.C dx (fs_Desk (.ref b))) = H5 at hr5 b5 hd5 n5 ⊢
    obtain ⟨⟨dp, ln, lr, lp, vr, vp, q1, q2, q3, q4, q5, q6, _⟩, ok⟩ := id hr5
    refine s_retL (el_lst (ea_cons (ev_len (ev_fld (ev_var rfl) q1 t.k_Program.cl t.n_Program_pieces l_Program_pieces) (.of q4)) (ea_cons (ev_bit (et_B (ev_call (ea_cons (ev_var rfl) ea_nil) (spV_use rfl fun H6 e6 => ⟨b, _, rfl, (hr5.ex e6).any, rfl⟩)))) ea_nil)) (by show 2 ≤ 100000; decide)) fun l H6 hl e6 h => k H6 l (b5.trans (.of e6)) ⟨dx, b, e6 _ _ hd5, (hr5.ex e6).mono (fun _ _ _ z => z) fun _ z => .inr z⟩ (n5 l hl) ?_
    rw [h, q6.len]
    rfl
end
end G
/-! The desk: clean, same. -/
namespace G
open PySem PySem.Spec PyProof.Rows L2 Evl My
section
variable {K : PySem.W.Frag} {mg : Str → Option Value} {P : Program} {w : World} {base : Heap}
theorem ok_Desk_clean (t : T K mg) : FnOk P w K mg base CX0 20 t.d_Desk_clean.f t.d_Desk_clean.d ["self", "numbers"] (spStep t 2 (RD1 K .clean)) := by
  have G_read_recording := ok_read_recording (P := P) (w := w) (base := base) t
  have G_cleaned := ok_cleaned (P := P) (w := w) (base := base) t
  have G_recording_numbers := ok_recording_numbers (P := P) (w := w) (base := base) t
  refine t.d_Desk_clean.F.ok sc_Desk_clean (fun vs H Q E h => h.1) (fun cdv A outer s H vs Q E hr h => ⟨_, (pss_cons (ps_try_only rfl rfl ⟨rfl, by decide, Or.inl t.x_NotWhole.g⟩ takes0 (fun W pn xe tk _ => (pss_one (ps_set (i := 2) sc_Desk_clean.nd rfl (Or.inl rfl) (pcallS t.d_read_recording G_read_recording (hr.mono (by omega)) rfl tk (pa_cons (pv 1) pa_nil))))) (fun _ _ _ _ _ _ _ => (pss_one (ps_ret (pe_lst (pa_cons (pe_un un_neg pe_int) pa_nil))))))
  (pss_cons (ps_set (i := 3) sc_Desk_clean.nd rfl (Or.inl rfl) (pcall t.d_cleaned G_cleaned (hr.mono (by omega)) rfl (pa_cons (pv 2) pa_nil)))
  (pss_one (ps_ret (pe_op op_cat (pe_lst (pa_cons (pe_op op_sub (pe_callB call_len_seq rfl t.z_len PySem.boot_len (pa_cons (pv 2) pa_nil)) (pe_callB call_len_seq rfl t.z_len PySem.boot_len (pa_cons (pv 3) pa_nil))) pa_nil)) (pcall t.d_recording_numbers G_recording_numbers (hr.mono (by omega)) rfl (pa_cons (pv 3) pa_nil))))))), ?_⟩)
  obtain ⟨_, N, d, p, c, ⟨na, ns, rfl, hq, hsz, rfl⟩, hd, k⟩ := h
  have es0 : ∀ o, Vamacf.readDeeds ns = o → Vamacf.step ⟨p⟩ (.clean ns) = (⟨p⟩, match o with | none => [-1] | some d => Vamacf.int (d.length - (Vamacf.clean d.length d).length) :: VamacBase.flatDeeds (Vamacf.clean d.length d)) := fun o e => by
    subst e
    rfl
  refine ⟨_, rfl, na, ns, rfl, hq, hsz, fun e H2 e2 => ⟨true, t.x_NotWhole.e, fun _ _ _ => ?_, fun q => Bool.noConfusion q⟩, fun ds e H2 a rs e2 ha ha2 hds => ?_⟩
  · exact s_retL (el_lst (ea_cons (ev_un ev_c ru_neg) ea_nil) (by decide)) fun l H3 hl e3 h => step_same hd (es0 _ e) k l H3 (fresh_back e2 hl) (e2.trans e3) h
  · have k' := step_same hd (es0 _ e) k
    obtain ⟨hz, hf⟩ := readDeeds_parts e
    have hcl := clean_len ds.length ds
    refine q_asgC (ea_cons (ev_var rfl) ea_nil) fun H3 e3 => ⟨a, rs, ds, rfl, e3 _ _ ha2, hds.any.ex e3, hz, fun H4 b rs' e4 hb hb4 hdc => ?_⟩
    have e24 := e3.trans e4
    have e04 := e2.trans e24
    have hfl := flat_len (Vamacf.clean ds.length ds)
    have hfz : ((VamacBase.flatDeeds (Vamacf.clean ds.length ds)).map V.int).length ≤ 61 := by
      unfold VamacBase.flatDeeds
      rw [List.length_map, List.length_cons]
      omega
    refine s_retL (el_catLL (el_lst (ea_cons (ev_op (ev_len (ev_var rfl) (.of (e24 _ _ ha2))) (ev_len (ev_var rfl) (.of hb4)) rv_I0) ea_nil) (by show 1 ≤ 100000; decide))
      (el_call (ea_cons (ev_var rfl) ea_nil) (spL_use rfl fun H5 e5 => ⟨b, rs', _, rfl, e5 _ _ hb4, hdc.ex e5, by omega, rfl⟩)) (by show 1 + _ ≤ _; omega)) fun l H5 hl e5 h => k' l H5 (fresh_back e04 hl) (e04.trans e5) ?_
    rw [h, List.length_map, List.length_map, hds.len, hdc.len]
    show some (HO.lst (V.int ((ds.length : Int) - ((Vamacf.clean ds.length ds).length : Int)) :: _)) = some (HO.lst (V.int ((ds.length - (Vamacf.clean ds.length ds).length : Nat) : Int) :: _))
    rw [show ((ds.length : Int) - ((Vamacf.clean ds.length ds).length : Int)) = ((ds.length - (Vamacf.clean ds.length ds).length : Nat) : Int) by omega]
    rfl
/-! ### two lists of whole numbers compared -/
theorem ints_dp (H : Hp) : ∀ l : List Int, DpAll K H (l.map V.int) (l.map PyData.int)
  | [] => .nil
  | x :: l => .cons (.int x) (ints_dp H l)
theorem ints_lay : ∀ l : List Int, PyData.canLayAll0 (l.map PyData.int) = true
  | [] => by simp [PyData.canLayAll0]
  | x :: l => by simp [PyData.canLayAll0, PyData.canLay0, ints_lay l]
theorem ints_deep : ∀ l : List Int, PyData.depthAll (l.map PyData.int) ≤ 1
  | [] => by simp [PyData.depthAll]
  | x :: l => by
    have a := ints_deep l
    simp only [List.map_cons, PyData.depthAll, PyData.depth]
    omega
theorem ints_ok (l : List Int) : SeqAt.shaped (.list (l.map PyData.int)) = true := by
  have a := ints_deep l
  have b : PyData.canLay0 (.list (l.map PyData.int)) = true := by simp only [PyData.canLay0]; exact ints_lay l
  have c : PyData.depth (.list (l.map PyData.int)) ≤ 64 := by simp only [PyData.depth]; omega
  unfold SeqAt.shaped
  rw [b, decide_eq_true c]
  rfl
theorem ints_eqvAll : ∀ l m : List Int, PyData.eqvAll (l.map PyData.int) (m.map PyData.int) = decide (l = m)
  | [], [] => by simp [PyData.eqvAll]
  | [], _ :: _ => by simp [PyData.eqvAll]
  | _ :: _, [] => by simp [PyData.eqvAll]
  | x :: l, y :: m => by
    have e : PyData.eqvAll ((x :: l).map PyData.int) ((y :: m).map PyData.int) = ((x == y) && PyData.eqvAll (l.map PyData.int) (m.map PyData.int)) := by simp only [List.map_cons, PyData.eqvAll, PyData.eqv]
    rw [e, ints_eqvAll l m]
    by_cases h1 : x = y
    · by_cases h2 : l = m
      · rw [h1, h2, decide_eq_true rfl, decide_eq_true rfl]
        simp
      · rw [decide_eq_false h2, decide_eq_false fun z => h2 (List.cons.inj z).2, Bool.and_false]
    · rw [beq_eq_false_iff_ne.mpr h1, decide_eq_false fun z => h1 (List.cons.inj z).1, Bool.false_and]
theorem ints_eqv (l m : List Int) : PyData.eqv (.list (l.map PyData.int)) (.list (m.map PyData.int)) = decide (l = m) := by
  rw [← ints_eqvAll]
  simp only [PyData.eqv]
theorem ev_eqLL {ta tb : TE} {σ : L2.St} {H : Hp} {xs ys : List Int} (ha : EvL ta σ H (xs.map V.int)) (hb : EvL tb σ H (ys.map V.int)) : Ev (tOp (rEqD K) ta tb) σ H (.bl (decide (xs = ys))) :=
  ev_opLL ha hb fun p q H1 hp hq e1 H2 e2 Q k => ⟨.list (xs.map PyData.int), .list (ys.map PyData.int), .lst (sq_of (e2 _ _ hp)) (ints_dp H2 xs), .lst (sq_of (e2 _ _ hq)) (ints_dp H2 ys), ints_ok xs, ints_ok ys, by rw [ints_eqv]; exact k H2 (Ex.refl H2)⟩
/-! ### a recording as a row -/
theorem DeedsAt.row {t : T K mg} {H : Hp} : ∀ {rs : List Addr} {ds : List VamacBase.Deed}, DeedsAt t Any H rs ds → RowAt t Any H (VamacBase.plain ds) (rs.map V.ref)
  | _, _, .nil => rfl
  | a :: _, d :: _, .cons ⟨_, dx, ho⟩ r => ⟨a, _, rfl, ⟨True.intro, dx, .non, ho, fun z => by cases z⟩, DeedsAt.row r⟩
theorem ok_Desk_same (t : T K mg) : FnOk P w K mg base CX0 20 t.d_Desk_same.f t.d_Desk_same.d ["self", "recorded", "numbers"] (spStep t 3 fun vs H c d => ∃ na ns nb ms, vs = [.ref d, .ref na, .ref nb] ∧ SqL K H na (ns.map V.int) ∧ ns.length ≤ 100000 ∧ SqL K H nb (ms.map V.int) ∧ ms.length ≤ 100000 ∧ c = .same ns ms) := by
  have G_read_recording := ok_read_recording (P := P) (w := w) (base := base) t
  have G_read_table := ok_read_table (P := P) (w := w) (base := base) t
  have G_cleaned := ok_cleaned (P := P) (w := w) (base := base) t
  have G_run_row := ok_run_row (P := P) (w := w) (base := base) t
  have G_Table_as_numbers := ok_Table_as_numbers (P := P) (w := w) (base := base) t
  refine t.d_Desk_same.F.ok sc_Desk_same (fun vs H Q E h => h.1) (fun cdv A outer s H vs Q E hr h => ⟨_, (pss_cons (ps_try_only rfl rfl ⟨rfl, by decide, Or.inl t.x_NotWhole.g⟩ takes0 (fun W pn xe tk _ => (pss_cons (ps_set (i := 3) sc_Desk_same.nd rfl (Or.inl rfl) (pcallS t.d_read_recording G_read_recording (hr.mono (by omega)) rfl tk (pa_cons (pv 1) pa_nil)))
  (pss_one (ps_set (i := 4) sc_Desk_same.nd rfl (Or.inl rfl) (pcallS t.d_read_table G_read_table (hr.mono (by omega)) rfl tk (pa_cons (pv 2) pa_nil)))))) (fun _ _ _ _ _ _ _ => (pss_one (ps_ret (pe_lst (pa_cons (pe_un un_neg pe_int) pa_nil))))))
  (pss_cons (ps_set (i := 5) sc_Desk_same.nd rfl (Or.inl rfl) (pcall t.d_run_row G_run_row (hr.mono (by omega)) rfl (pa_cons (pv 3) (pa_cons (pv 4) pa_nil))))
  (pss_cons (ps_set (i := 6) sc_Desk_same.nd rfl (Or.inl rfl) (pcall t.d_run_row G_run_row (hr.mono (by omega)) rfl (pa_cons (pcall t.d_cleaned G_cleaned (hr.mono (by omega)) rfl (pa_cons (pv 3) pa_nil)) (pa_cons (pv 4) pa_nil))))
  (pss_cons (ps_set (i := 7) sc_Desk_same.nd rfl (Or.inl rfl) (pe_cmpR (op_eqD hr.units) (pmeth0 (pe_fld (pv 5) rfl) t.k_Table.cl t.d_Table_as_numbers G_Table_as_numbers (hr.mono (by omega))) (pmeth0 (pe_fld (pv 6) rfl) t.k_Table.cl t.d_Table_as_numbers G_Table_as_numbers (hr.mono (by omega))) (nomark _)))
  (pss_one (ps_ret (pe_lst (pa_cons (pe_fld (pv 5) rfl) (pa_cons (pe_fld (pv 6) rfl) (pa_cons (pe_ifExp (pt_val (pv 7)) pe_int pe_int) pa_nil)))))))))), ?_⟩)
  obtain ⟨_, N, d, p, c, ⟨na, ns, nb, ms, rfl, hq, hsz, hq2, hsz2, rfl⟩, hd, k⟩ := h
  have es0 : ∀ o o2, Vamacf.readDeeds ns = o → VamacBase.whole VamacBase.readTable ms = o2 → Vamacf.step ⟨p⟩ (.same ns ms) = (match o with | none => ((⟨p⟩ : Vamacf.State), [-1]) | some d => ((⟨p⟩ : Vamacf.State), match o2 with | none => [-1] | some x => [VamacBase.badNumber (VamacBase.run (VamacBase.plain d) x).bad, VamacBase.badNumber (VamacBase.run (VamacBase.plain (Vamacf.clean d.length d)) x).bad, Vamacf.bool ((VamacBase.run (VamacBase.plain d) x).table == (VamacBase.run (VamacBase.plain (Vamacf.clean d.length d)) x).table)])) := fun o o2 e e2 => by
    subst e
    subst e2
    rfl
  have fail : ∀ {H2 : Hp} {σ : L2.St} {D : Ends}, Ex H H2 → Vamacf.step ⟨p⟩ (.same ns ms) = (⟨p⟩, [-1]) → D.rt = Q → tRet (tLst (tCons (tUn (rU fun i => .int (-i)) (tC (.int 1))) tNil)) D σ H2 := fun {H2 σ D} e2 es er =>
    s_retL (el_lst (ea_cons (ev_un ev_c ru_neg) ea_nil) (by decide)) fun l H3 hl e3 h => by
      rw [er]
      exact step_same hd es k l H3 (fresh_back e2 hl) (e2.trans e3) h
  refine ⟨_, rfl, na, ns, rfl, hq, hsz, fun e H2 e2 => ⟨true, t.x_NotWhole.e, fun _ _ _ => fail e2 (es0 _ _ e rfl) rfl, fun q => Bool.noConfusion q⟩, fun ds e H2 a rs e2 ha ha2 hds => ?_⟩
  refine ⟨_, rfl, nb, ms, rfl, ex_l e2 hq2, hsz2, fun en H3 e3 => ⟨true, t.x_NotWhole.e, fun _ _ _ => fail (e2.trans e3) (es0 _ _ e en) rfl, fun q => Bool.noConfusion q⟩, fun tb en H3 b e3 hT => ?_⟩
  have es := es0 _ _ e en
  dsimp only at es
  have k' := step_same hd es k
  obtain ⟨hz, hf⟩ := readDeeds_parts e
  have e03 := e2.trans e3
  have hds3 := hds.any.ex e3
  refine q_asgC (ea_cons (ev_var rfl) (ea_cons (ev_var rfl) ea_nil)) fun H4 e4 => ⟨a, b, rs.map V.ref, VamacBase.plain ds, Any, _, tb, rfl, (e3.trans e4) _ _ ha2, (hds3.ex e4).row, by rw [depth_plain]; omega, okR_plain ds hf, hT.ex e4, fun H5 r1 e5 hR1 => ?_⟩
  have e35 := e4.trans e5
  refine ⟨_, rfl, a, rs, ds, rfl, (e3.trans e35) _ _ ha2, hds3.ex e35, hz, fun H6 c0 rs' e6 hc hc6 hdc => ⟨_, rfl, c0, b, rs'.map V.ref, VamacBase.plain (Vamacf.clean ds.length ds), Any, _, tb, rfl, hc6, hdc.row, by rw [depth_plain]; omega, okR_plain _ (clean_fld _ _ hf), hT.ex (e35.trans e6), fun H7 r2 e7 hR2 => ?_⟩⟩
  have hR1' := hR1.ex (e6.trans e7)
  obtain ⟨⟨x1, ta1, u1, hT1⟩, _, _⟩ := hR1'
  obtain ⟨⟨x2, ta2, u2, hT2⟩, _, _⟩ := hR2
  generalize VamacBase.run (VamacBase.plain ds) tb = y1 at es k' u1 hT1 hR1
  generalize VamacBase.run (VamacBase.plain (Vamacf.clean ds.length ds)) tb = y2 at es k' u2 hT2
  obtain ⟨z1, _, _, v1, _⟩ := hT1.at_
  obtain ⟨z2, _, _, v2, _⟩ := hT2.at_
  have e07 := ((e03.trans e35).trans e6).trans e7
  refine q_asg (ev_eqLL (xs := VamacBase.flatTable y1.table) (ys := VamacBase.flatTable y2.table) (el_meth (ev_fld (ev_var rfl) u1 t.k_Run.cl t.n_Run_table l_Run_table) v1 m_Table_as_numbers ea_nil (spL_use rfl fun H5 e5 => ⟨ta1, _, y1.table, rfl, hT1.ex e5, rfl⟩))
    (el_meth (ev_fld (ev_var rfl) u2 t.k_Run.cl t.n_Run_table l_Run_table) v2 m_Table_as_numbers ea_nil (spL_use rfl fun H5 e5 => ⟨ta2, _, y2.table, rfl, hT2.ex e5, rfl⟩))) fun H8 e8 => ?_
  refine s_retL (el_lst (ea_cons (ev_fld (v := .int (VamacBase.badNumber y1.bad)) (ev_var rfl) (e8 _ _ u1) t.k_Run.cl t.n_Run_ended l_Run_ended) (ea_cons (ev_fld (v := .int (VamacBase.badNumber y2.bad)) (ev_var rfl) (e8 _ _ u2) t.k_Run.cl t.n_Run_ended l_Run_ended) (ea_cons (ev_bit (b := decide (VamacBase.flatTable y1.table = VamacBase.flatTable y2.table)) (et_B (ev_var rfl))) ea_nil))) (by show 3 ≤ 100000; decide)) fun l H9 hl e9 h => k' l H9 (fresh_back (e07.trans e8) hl) ((e07.trans e8).trans e9) ?_
  rw [h]
  have eb : decide (VamacBase.flatTable y1.table = VamacBase.flatTable y2.table) = (y1.table == y2.table) := by
    by_cases q : y1.table = y2.table
    · rw [q, decide_eq_true rfl]
      simp
    · rw [decide_eq_false fun z => q (flatTable_inj hT1.ok hT2.ok z)]
      exact (beq_eq_false_iff_ne.mpr q).symm
  rw [eb]
  rfl
end
end G
/-! The gate. -/
namespace G
open PySem PySem.Spec PyProof.Rows L2 Evl My
section
variable {K : PySem.W.Frag} {mg : Str → Option Value} {P : Program} {w : World} {base : Heap}
theorem size_lt {n : Nat} (h : n < 10000002) : n < sizeLine := Nat.lt_of_lt_of_le h (by decide)
theorem row_takes {x l y : List Int} (h : PyFlat.row x = some (l, y)) : takeListM x = some (l, y) := by
  obtain ⟨n, r, rfl, h1, h2, rfl, rfl⟩ := row_some h
  show takesM n.toNat r = _
  rw [takesM_eq, if_pos h2]
theorem row_short {x l y : List Int} {n : Nat} (h : PyFlat.row x = some (l, y)) (hn : x.length ≤ n) : l.length ≤ n := by
  obtain ⟨m, r, rfl, h1, h2, rfl, rfl⟩ := row_some h
  rw [List.length_take]
  rw [List.length_cons] at hn
  exact Nat.le_trans (Nat.min_le_right _ _) (by omega)
/-- a call read off the line and answered: the line is r, the desk d -/
def spAnswer (t : T K mg) : Sp := fun vs H Q _ => ∃ N d r p na M ns i k y, vs = [.ref d, .ref r] ∧ DeskAt t N H d p ∧ (∀ b, N b → b ≠ r) ∧ RdAt t H r na M ns i ∧ d ≠ r ∧ parseC (ns.drop i) = some (k, y) ∧
  ∀ H' l j, ns.drop j = y → (∀ b o, H b = some o → b ≠ d → b ≠ r → H' b = some o) → RdAt t H' r na M ns j → DeskAt t (Or0 N H) H' d (Vamacf.step ⟨p⟩ k).1.program → H l = none → H' l = some (.lst ((Vamacf.step ⟨p⟩ k).2.map V.int)) → Q (.ref l) H'
theorem DeskAt.but {t : T K mg} {N : Addr → Prop} {H H' : Hp} {d r : Addr} {p : VamacBase.Prog} (b : But r H H') (n : d ≠ r) (nn : ∀ b, N b → b ≠ r) (h : DeskAt t N H d p) : DeskAt t N H' d p := by
  obtain ⟨dx, a, h1, h2⟩ := h
  exact ⟨dx, a, b _ _ h1 n, h2.mono (fun c o z q => b c o q (nn c z)) fun _ z => z⟩
/-- a reader stands while the desk is written -/
theorem RdAt.but {t : T K mg} {H H' : Hp} {d r na M : Addr} {ns : List Int} {i : Nat} {C dx : Addr} {fs : List (Str × V)} (b : But d H H') (hd : H d = some (.ins C dx fs)) (n : r ≠ d) (h : RdAt t H r na M ns i) : RdAt t H' r na M ns i :=
  ⟨h.o.imp fun _ q => b _ _ q n, far_but b hd h.q, h.le, h.sz⟩
theorem ok_answer_call (t : T K mg) : FnOk P w K mg base CX0 30 t.d_answer_call.f t.d_answer_call.d ["desk", "line"] (spAnswer t) := by
  have G_Reader_take := ok_Reader_take (P := P) (w := w) (base := base) t
  have G_Reader_take_list := ok_Reader_take_list (P := P) (w := w) (base := base) t
  have G_Desk_put_program := ok_Desk_put_program (P := P) (w := w) (base := base) t
  have G_Desk_told := ok_Desk_told (P := P) (w := w) (base := base) t
  have G_Desk_touches := ok_Desk_touches (P := P) (w := w) (base := base) t
  have G_Desk_ends := ok_Desk_ends (P := P) (w := w) (base := base) t
  have G_Desk_allowed := ok_Desk_allowed (P := P) (w := w) (base := base) t
  have G_Desk_run_on := ok_Desk_run_on (P := P) (w := w) (base := base) t
  have G_Desk_changed_on := ok_Desk_changed_on (P := P) (w := w) (base := base) t
  have G_Desk_join_program := ok_Desk_join_program (P := P) (w := w) (base := base) t
  have G_Desk_clean := ok_Desk_clean (P := P) (w := w) (base := base) t
  have G_Desk_same := ok_Desk_same (P := P) (w := w) (base := base) t
  refine t.d_answer_call.F.ok sc_answer_call (fun vs H Q E h => by obtain ⟨N, d, r, p, na, M, ns, i, k, y, rfl, _⟩ := h; rfl) (fun cdv A outer s H vs Q E hr h => ⟨_, (pss_cons (ps_set (i := 2) sc_answer_call.nd rfl (Or.inl rfl) (pmethL0 (pv 1) t.k_Reader.cl t.d_Reader_take G_Reader_take (hr.mono (by omega))))
  (pss_cons (ps_if (pt_cmpR op_eq (pv 2) (pe_cst rfl t.c_PROGRAM) (nomark _)) (pss_one (ps_ret (pmeth (pv 0) t.k_Desk.cl t.d_Desk_put_program G_Desk_put_program (hr.mono (by omega)) (by exact (pa_cons (pmethL0 (pv 1) t.k_Reader.cl t.d_Reader_take_list G_Reader_take_list (hr.mono (by omega))) pa_nil))))) pss_nil)
  (pss_cons (ps_if (pt_cmpR op_eq (pv 2) (pe_cst rfl t.c_TOLD) (nomark _)) (pss_one (ps_ret (pmeth0 (pv 0) t.k_Desk.cl t.d_Desk_told G_Desk_told (hr.mono (by omega))))) pss_nil)
  (pss_cons (ps_if (pt_cmpR op_eq (pv 2) (pe_cst rfl t.c_TOUCHES) (nomark _)) (pss_one (ps_ret (pmeth0 (pv 0) t.k_Desk.cl t.d_Desk_touches G_Desk_touches (hr.mono (by omega))))) pss_nil)
  (pss_cons (ps_if (pt_cmpR op_eq (pv 2) (pe_cst rfl t.c_ENDS) (nomark _)) (pss_one (ps_ret (pmeth0 (pv 0) t.k_Desk.cl t.d_Desk_ends G_Desk_ends (hr.mono (by omega))))) pss_nil)
  (pss_cons (ps_if (pt_cmpR op_eq (pv 2) (pe_cst rfl t.c_ALLOWED) (nomark _)) (pss_cons (ps_set (i := 3) sc_answer_call.nd rfl (Or.inl rfl) (pmethL0 (pv 1) t.k_Reader.cl t.d_Reader_take G_Reader_take (hr.mono (by omega))))
  (pss_one (ps_ret (pmeth (pv 0) t.k_Desk.cl t.d_Desk_allowed G_Desk_allowed (hr.mono (by omega)) (by exact (pa_cons (pv 3) (pa_cons (pmethL0 (pv 1) t.k_Reader.cl t.d_Reader_take_list G_Reader_take_list (hr.mono (by omega))) pa_nil))))))) pss_nil)
  (pss_cons (ps_if (pt_cmpR op_eq (pv 2) (pe_cst rfl t.c_RUN) (nomark _)) (pss_one (ps_ret (pmeth (pv 0) t.k_Desk.cl t.d_Desk_run_on G_Desk_run_on (hr.mono (by omega)) (by exact (pa_cons (pmethL0 (pv 1) t.k_Reader.cl t.d_Reader_take_list G_Reader_take_list (hr.mono (by omega))) pa_nil))))) pss_nil)
  (pss_cons (ps_if (pt_cmpR op_eq (pv 2) (pe_cst rfl t.c_CHANGED) (nomark _)) (pss_one (ps_ret (pmeth (pv 0) t.k_Desk.cl t.d_Desk_changed_on G_Desk_changed_on (hr.mono (by omega)) (by exact (pa_cons (pmethL0 (pv 1) t.k_Reader.cl t.d_Reader_take_list G_Reader_take_list (hr.mono (by omega))) pa_nil))))) pss_nil)
  (pss_cons (ps_if (pt_cmpR op_eq (pv 2) (pe_cst rfl t.c_JOIN) (nomark _)) (pss_one (ps_ret (pmeth (pv 0) t.k_Desk.cl t.d_Desk_join_program G_Desk_join_program (hr.mono (by omega)) (by exact (pa_cons (pmethL0 (pv 1) t.k_Reader.cl t.d_Reader_take_list G_Reader_take_list (hr.mono (by omega))) pa_nil))))) pss_nil)
  (pss_cons (ps_if (pt_cmpR op_eq (pv 2) (pe_cst rfl t.c_CLEAN) (nomark _)) (pss_one (ps_ret (pmeth (pv 0) t.k_Desk.cl t.d_Desk_clean G_Desk_clean (hr.mono (by omega)) (by exact (pa_cons (pmethL0 (pv 1) t.k_Reader.cl t.d_Reader_take_list G_Reader_take_list (hr.mono (by omega))) pa_nil))))) pss_nil)
  (pss_cons (ps_if (pt_cmpR op_eq (pv 2) (pe_cst rfl t.c_SAME) (nomark _)) (pss_cons (ps_set (i := 4) sc_answer_call.nd rfl (Or.inl rfl) (pmethL0 (pv 1) t.k_Reader.cl t.d_Reader_take_list G_Reader_take_list (hr.mono (by omega))))
  (pss_one (ps_ret (pmeth (pv 0) t.k_Desk.cl t.d_Desk_same G_Desk_same (hr.mono (by omega)) (by exact (pa_cons (pv 4) (pa_cons (pmethL0 (pv 1) t.k_Reader.cl t.d_Reader_take_list G_Reader_take_list (hr.mono (by omega))) pa_nil))))))) pss_nil)
  (pss_one ps_never)))))))))))), ?_⟩)
  obtain ⟨N, d, r, p, na, M, ns, i, k, y, rfl, hd, nn, hR, hdr, hp, kk⟩ := h
  obtain ⟨dr, ho⟩ := hR.o
  refine q_asgN (ev_var rfl) ho m_Reader_take ea_nil fun H1 e1 => ⟨r, na, M, ns, i, rfl, hR.ex e1, fun e => ?_, fun n j e H2 v b2 hR2 hv => ?_⟩
  · exfalso
    cases q : ns.drop i with
    | nil => rw [q] at hp; cases hp
    | cons _ _ => rw [q] at e; cases e
  obtain rfl : v = .int n := hv
  have ed : ns.drop i = n :: ns.drop j := by
    cases q : ns.drop i with
    | nil => rw [q] at e; cases e
    | cons _ _ => rw [q] at e; cases e; rfl
  rw [ed] at hp
  have b02 : But r H H2 := (But.of e1).trans b2
  have hd2 := hd.but b02 hdr nn
  obtain ⟨dx, a, hda, _⟩ := id hd2
  obtain ⟨dr2, ho2⟩ := hR2.o
  -- what a method of the desk leaves, from the heap where it was called
  have fin : ∀ {H3 : Hp} {k : Vamacf.Call} {j' : Nat}, But r H H3 → RdAt t H3 r na M ns j' → DeskAt t N H3 d p → ns.drop j' = y →
      (∀ H' l j, ns.drop j = y → (∀ b o, H b = some o → b ≠ d → b ≠ r → H' b = some o) → RdAt t H' r na M ns j → DeskAt t (Or0 N H) H' d (Vamacf.step ⟨p⟩ k).1.program → H l = none → H' l = some (.lst ((Vamacf.step ⟨p⟩ k).2.map V.int)) → Q (.ref l) H') →
      ∀ H' l, But d H3 H' → DeskAt t (Or0 N H3) H' d (Vamacf.step ⟨p⟩ k).1.program → H3 l = none → H' l = some (.lst ((Vamacf.step ⟨p⟩ k).2.map V.int)) → Q (.ref l) H' := by
    intro H3 k j' b3 hR3 hd3 ey kk H' l b4 hd4 hl h
    obtain ⟨dr3, ho3⟩ := hR3.o
    obtain ⟨dx3, a3, hda3, _⟩ := hd3
    have back : ∀ c, H3 c = none → H c = none := fun c z => fresh_but b3 z (by rintro rfl; rw [ho3] at z; cases z)
    obtain ⟨dx4, a4, hda4, hp4⟩ := hd4
    exact kk H' l j' ey (fun b o hb n1 n2 => b4 _ _ (b3 _ _ hb n2) n1) (hR3.but b4 hda3 (Ne.symm hdr)) ⟨dx4, a4, hda4, hp4.mono (fun _ _ _ z => z) fun c z => z.imp id (back c)⟩ (back l hl) h
  -- a list's count, where one is due
  have cnt : ∀ {H' : Hp} {j : Nat} {u : List Int × List Int}, RdAt t H' r na M ns j → PyFlat.row (ns.drop j) = some u → ∀ n y, ns.drop j = n :: y → 0 ≤ n ∧ n ≤ 100000 := fun {H' j u} hR er m z ez => by
    obtain ⟨m', z', ez', g1, g2, _⟩ := row_some er
    rw [ez] at ez'
    cases ez'
    have := congrArg List.length ez
    rw [List.length_drop, List.length_cons] at this
    have := hR.sz
    omega
  have e_ : Ex H2 H2 := Ex.refl H2
  refine q_when (b := decide (V.int n = V.int 0)) (et_test (ev_op (ev_var rfl) ev_c (rv_eq rfl))) (fun c Ha ea => ?_) (fun c0 Ha ea => ?_)
  · obtain rfl : n = 0 := V.int.inj (of_decide_eq_true c)
    have e3 := e_.trans ea
    cases er : PyFlat.row (ns.drop j) with
    | none =>
      have hp' : (PyFlat.row (ns.drop j)).map (fun u => (Vamacf.Call.program u.1, u.2)) = some (k, y) := hp
      rw [er] at hp'
      cases hp'
    | some u =>
      obtain ⟨l0, y0⟩ := u
      have hp' : (PyFlat.row (ns.drop j)).map (fun u => (Vamacf.Call.program u.1, u.2)) = some (k, y) := hp
      rw [er] at hp'
      cases hp'
      refine ⟨_, rfl, d, dx, _, rfl, e3 _ _ hda, m_Desk_put_program, _, rfl, r, dr2, _, rfl, e3 _ _ ho2, m_Reader_take_list, r, na, M, ns, j, rfl, cnt hR2 er, hR2.ex e3, fun e => (by rw [row_takes er] at e; cases e), fun l1 j1 e H4 v b4 hR4 hv => ?_⟩
      rw [row_takes er] at e
      cases e
      obtain ⟨la, rfl, hla0, hla⟩ := hv
      have b04 := (b02.trans (.of e3)).trans b4
      have hd4 := hd.but b04 hdr nn
      exact ⟨rfl, N, d, p, _, ⟨la, _, rfl, .of hla, row_short er (by rw [List.length_drop]; have := hR2.sz; omega), rfl⟩, hd4, fin b04 hR4 hd4 rfl kk⟩
  have e0 := e_.trans ea
  refine q_when (b := decide (V.int n = V.int 1)) (et_test (ev_op (ev_var rfl) ev_c (rv_eq rfl))) (fun c Ha ea => ?_) (fun c1 Ha ea => ?_)
  · obtain rfl : n = 1 := V.int.inj (of_decide_eq_true c)
    have e3 := e0.trans ea
    have hp' : some (Vamacf.Call.told, ns.drop j) = some (k, y) := hp
    cases hp'
    refine s_retN (ev_var rfl) (e3 _ _ hda) m_Desk_told ea_nil fun H4 e4 => ?_
    have b04 := b02.trans (.of (e3.trans e4))
    have hd4 := hd.but b04 hdr nn
    exact ⟨rfl, N, d, p, _, ⟨rfl, rfl⟩, hd4, fin b04 (hR2.ex (e3.trans e4)) hd4 rfl kk⟩
  have e1 := e0.trans ea
  refine q_when (b := decide (V.int n = V.int 2)) (et_test (ev_op (ev_var rfl) ev_c (rv_eq rfl))) (fun c Ha ea => ?_) (fun c2 Ha ea => ?_)
  · obtain rfl : n = 2 := V.int.inj (of_decide_eq_true c)
    have e3 := e1.trans ea
    have hp' : some (Vamacf.Call.touches, ns.drop j) = some (k, y) := hp
    cases hp'
    refine s_retN (ev_var rfl) (e3 _ _ hda) m_Desk_touches ea_nil fun H4 e4 => ?_
    have b04 := b02.trans (.of (e3.trans e4))
    have hd4 := hd.but b04 hdr nn
    exact ⟨rfl, N, d, p, _, ⟨rfl, rfl⟩, hd4, fin b04 (hR2.ex (e3.trans e4)) hd4 rfl kk⟩
  have e2 := e1.trans ea
  refine q_when (b := decide (V.int n = V.int 3)) (et_test (ev_op (ev_var rfl) ev_c (rv_eq rfl))) (fun c Ha ea => ?_) (fun c3 Ha ea => ?_)
  · obtain rfl : n = 3 := V.int.inj (of_decide_eq_true c)
    have e3 := e2.trans ea
    have hp' : some (Vamacf.Call.ends, ns.drop j) = some (k, y) := hp
    cases hp'
    refine s_retN (ev_var rfl) (e3 _ _ hda) m_Desk_ends ea_nil fun H4 e4 => ?_
    have b04 := b02.trans (.of (e3.trans e4))
    have hd4 := hd.but b04 hdr nn
    exact ⟨rfl, N, d, p, _, ⟨rfl, rfl⟩, hd4, fin b04 (hR2.ex (e3.trans e4)) hd4 rfl kk⟩
  have e3 := e2.trans ea
  refine q_when (b := decide (V.int n = V.int 4)) (et_test (ev_op (ev_var rfl) ev_c (rv_eq rfl))) (fun c Ha ea => ?_) (fun c4 Ha ea => ?_)
  · obtain rfl : n = 4 := V.int.inj (of_decide_eq_true c)
    have e3' := e3.trans ea
    have hp' : (match ns.drop j with | [] => none | q :: s => (PyFlat.row s).map fun u => (Vamacf.Call.allowed q u.1, u.2)) = some (k, y) := hp
    refine q_asgN (ev_var rfl) (e3' _ _ ho2) m_Reader_take ea_nil fun H4 e4 => ⟨r, na, M, ns, j, rfl, hR2.ex (e3'.trans e4), fun e => ?_, fun q j2 e H5 v b5 hR5 hv => ?_⟩
    · exfalso
      cases z : ns.drop j with
      | nil => rw [z] at hp'; cases hp'
      | cons _ _ => rw [z] at e; cases e
    obtain rfl : v = .int q := hv
    have ed2 : ns.drop j = q :: ns.drop j2 := by
      cases z : ns.drop j with
      | nil => rw [z] at e; cases e
      | cons _ _ => rw [z] at e; cases e; rfl
    rw [ed2] at hp'
    have hp' : (PyFlat.row (ns.drop j2)).map (fun u => (Vamacf.Call.allowed q u.1, u.2)) = some (k, y) := hp'
    have b05 : But r H H5 := (b02.trans (.of (e3'.trans e4))).trans b5
    obtain ⟨dx5, a5, hda5, _⟩ := hd.but b05 hdr nn
    obtain ⟨dr5, ho5⟩ := hR5.o
    cases er : PyFlat.row (ns.drop j2) with
    | none =>
      rw [er] at hp'
      cases hp'
    | some u =>
      obtain ⟨l0, y0⟩ := u
      rw [er] at hp'
      cases hp'
      refine ⟨_, rfl, d, dx5, _, rfl, hda5, m_Desk_allowed, _, rfl, _, rfl, r, dr5, _, rfl, ho5, m_Reader_take_list, r, na, M, ns, j2, rfl, cnt hR5 er, hR5, fun e => (by rw [row_takes er] at e; cases e), fun l1 j1 e H6 v b6 hR6 hv => ?_⟩
      rw [row_takes er] at e
      cases e
      obtain ⟨la, rfl, hla0, hla⟩ := hv
      have b06 := b05.trans b6
      have hd6 := hd.but b06 hdr nn
      exact ⟨rfl, N, d, p, _, ⟨q, la, _, rfl, .of hla, row_short er (by rw [List.length_drop]; have := hR2.sz; omega), rfl⟩, hd6, fin b06 hR6 hd6 rfl kk⟩
  have e4 := e3.trans ea
  refine q_when (b := decide (V.int n = V.int 5)) (et_test (ev_op (ev_var rfl) ev_c (rv_eq rfl))) (fun c Ha ea => ?_) (fun c5 Ha ea => ?_)
  · obtain rfl : n = 5 := V.int.inj (of_decide_eq_true c)
    have e3 := e4.trans ea
    cases er : PyFlat.row (ns.drop j) with
    | none =>
      have hp' : (PyFlat.row (ns.drop j)).map (fun u => (Vamacf.Call.run u.1, u.2)) = some (k, y) := hp
      rw [er] at hp'
      cases hp'
    | some u =>
      obtain ⟨l0, y0⟩ := u
      have hp' : (PyFlat.row (ns.drop j)).map (fun u => (Vamacf.Call.run u.1, u.2)) = some (k, y) := hp
      rw [er] at hp'
      cases hp'
      refine ⟨_, rfl, d, dx, _, rfl, e3 _ _ hda, m_Desk_run_on, _, rfl, r, dr2, _, rfl, e3 _ _ ho2, m_Reader_take_list, r, na, M, ns, j, rfl, cnt hR2 er, hR2.ex e3, fun e => (by rw [row_takes er] at e; cases e), fun l1 j1 e H4 v b4 hR4 hv => ?_⟩
      rw [row_takes er] at e
      cases e
      obtain ⟨la, rfl, hla0, hla⟩ := hv
      have b04 := (b02.trans (.of e3)).trans b4
      have hd4 := hd.but b04 hdr nn
      exact ⟨rfl, N, d, p, _, ⟨la, _, rfl, .of hla, row_short er (by rw [List.length_drop]; have := hR2.sz; omega), rfl⟩, hd4, fin b04 hR4 hd4 rfl kk⟩
  have e5 := e4.trans ea
  refine q_when (b := decide (V.int n = V.int 6)) (et_test (ev_op (ev_var rfl) ev_c (rv_eq rfl))) (fun c Ha ea => ?_) (fun c6 Ha ea => ?_)
  · obtain rfl : n = 6 := V.int.inj (of_decide_eq_true c)
    have e3 := e5.trans ea
    cases er : PyFlat.row (ns.drop j) with
    | none =>
      have hp' : (PyFlat.row (ns.drop j)).map (fun u => (Vamacf.Call.changed u.1, u.2)) = some (k, y) := hp
      rw [er] at hp'
      cases hp'
    | some u =>
      obtain ⟨l0, y0⟩ := u
      have hp' : (PyFlat.row (ns.drop j)).map (fun u => (Vamacf.Call.changed u.1, u.2)) = some (k, y) := hp
      rw [er] at hp'
      cases hp'
      refine ⟨_, rfl, d, dx, _, rfl, e3 _ _ hda, m_Desk_changed_on, _, rfl, r, dr2, _, rfl, e3 _ _ ho2, m_Reader_take_list, r, na, M, ns, j, rfl, cnt hR2 er, hR2.ex e3, fun e => (by rw [row_takes er] at e; cases e), fun l1 j1 e H4 v b4 hR4 hv => ?_⟩
      rw [row_takes er] at e
      cases e
      obtain ⟨la, rfl, hla0, hla⟩ := hv
      have b04 := (b02.trans (.of e3)).trans b4
      have hd4 := hd.but b04 hdr nn
      exact ⟨rfl, N, d, p, _, ⟨la, _, rfl, .of hla, row_short er (by rw [List.length_drop]; have := hR2.sz; omega), rfl⟩, hd4, fin b04 hR4 hd4 rfl kk⟩
  have e6 := e5.trans ea
  refine q_when (b := decide (V.int n = V.int 7)) (et_test (ev_op (ev_var rfl) ev_c (rv_eq rfl))) (fun c Ha ea => ?_) (fun c7 Ha ea => ?_)
  · obtain rfl : n = 7 := V.int.inj (of_decide_eq_true c)
    have e3 := e6.trans ea
    cases er : PyFlat.row (ns.drop j) with
    | none =>
      have hp' : (PyFlat.row (ns.drop j)).map (fun u => (Vamacf.Call.join u.1, u.2)) = some (k, y) := hp
      rw [er] at hp'
      cases hp'
    | some u =>
      obtain ⟨l0, y0⟩ := u
      have hp' : (PyFlat.row (ns.drop j)).map (fun u => (Vamacf.Call.join u.1, u.2)) = some (k, y) := hp
      rw [er] at hp'
      cases hp'
      refine ⟨_, rfl, d, dx, _, rfl, e3 _ _ hda, m_Desk_join_program, _, rfl, r, dr2, _, rfl, e3 _ _ ho2, m_Reader_take_list, r, na, M, ns, j, rfl, cnt hR2 er, hR2.ex e3, fun e => (by rw [row_takes er] at e; cases e), fun l1 j1 e H4 v b4 hR4 hv => ?_⟩
      rw [row_takes er] at e
      cases e
      obtain ⟨la, rfl, hla0, hla⟩ := hv
      have b04 := (b02.trans (.of e3)).trans b4
      have hd4 := hd.but b04 hdr nn
      exact ⟨rfl, N, d, p, _, ⟨la, _, rfl, .of hla, row_short er (by rw [List.length_drop]; have := hR2.sz; omega), rfl⟩, hd4, fin b04 hR4 hd4 rfl kk⟩
  have e7 := e6.trans ea
  refine q_when (b := decide (V.int n = V.int 8)) (et_test (ev_op (ev_var rfl) ev_c (rv_eq rfl))) (fun c Ha ea => ?_) (fun c8 Ha ea => ?_)
  · obtain rfl : n = 8 := V.int.inj (of_decide_eq_true c)
    have e3 := e7.trans ea
    cases er : PyFlat.row (ns.drop j) with
    | none =>
      have hp' : (PyFlat.row (ns.drop j)).map (fun u => (Vamacf.Call.clean u.1, u.2)) = some (k, y) := hp
      rw [er] at hp'
      cases hp'
    | some u =>
      obtain ⟨l0, y0⟩ := u
      have hp' : (PyFlat.row (ns.drop j)).map (fun u => (Vamacf.Call.clean u.1, u.2)) = some (k, y) := hp
      rw [er] at hp'
      cases hp'
      refine ⟨_, rfl, d, dx, _, rfl, e3 _ _ hda, m_Desk_clean, _, rfl, r, dr2, _, rfl, e3 _ _ ho2, m_Reader_take_list, r, na, M, ns, j, rfl, cnt hR2 er, hR2.ex e3, fun e => (by rw [row_takes er] at e; cases e), fun l1 j1 e H4 v b4 hR4 hv => ?_⟩
      rw [row_takes er] at e
      cases e
      obtain ⟨la, rfl, hla0, hla⟩ := hv
      have b04 := (b02.trans (.of e3)).trans b4
      have hd4 := hd.but b04 hdr nn
      exact ⟨rfl, N, d, p, _, ⟨la, _, rfl, .of hla, row_short er (by rw [List.length_drop]; have := hR2.sz; omega), rfl⟩, hd4, fin b04 hR4 hd4 rfl kk⟩
  have e8 := e7.trans ea
  refine q_when (b := decide (V.int n = V.int 9)) (et_test (ev_op (ev_var rfl) ev_c (rv_eq rfl))) (fun c Ha ea => ?_) (fun c9 Ha ea => ?_)
  · obtain rfl : n = 9 := V.int.inj (of_decide_eq_true c)
    have e3' := e8.trans ea
    have hp' : ((PyFlat.row (ns.drop j)).bind fun u => (PyFlat.row u.2).map fun v => (Vamacf.Call.same u.1 v.1, v.2)) = some (k, y) := hp
    cases er : PyFlat.row (ns.drop j) with
    | none =>
      rw [er] at hp'
      cases hp'
    | some u =>
      obtain ⟨l0, y0⟩ := u
      rw [er] at hp'
      have hp' : (PyFlat.row y0).map (fun v => (Vamacf.Call.same l0 v.1, v.2)) = some (k, y) := hp'
      refine q_asgN (ev_var rfl) (e3' _ _ ho2) m_Reader_take_list ea_nil fun H4 e4 => ⟨r, na, M, ns, j, rfl, cnt hR2 er, hR2.ex (e3'.trans e4), fun e => (by rw [row_takes er] at e; cases e), fun l1 j2 e H5 v b5 hR5 hv => ?_⟩
      rw [row_takes er] at e
      cases e
      obtain ⟨la, rfl, hla0, hla⟩ := hv
      have b05 : But r H H5 := (b02.trans (.of (e3'.trans e4))).trans b5
      obtain ⟨dx5, a5, hda5, _⟩ := hd.but b05 hdr nn
      obtain ⟨dr5, ho5⟩ := hR5.o
      have hlr : la ≠ r := by
        rintro rfl
        rw [ho5] at hla
        cases hla
      cases er2 : PyFlat.row (ns.drop j2) with
      | none =>
        rw [er2] at hp'
        cases hp'
      | some u2 =>
        obtain ⟨m0, z0⟩ := u2
        rw [er2] at hp'
        cases hp'
        refine ⟨_, rfl, d, dx5, _, rfl, hda5, m_Desk_same, _, rfl, _, rfl, r, dr5, _, rfl, ho5, m_Reader_take_list, r, na, M, ns, j2, rfl, cnt hR5 er2, hR5, fun e => (by rw [row_takes er2] at e; cases e), fun l1 j1 e H6 v b6 hR6 hv => ?_⟩
        rw [row_takes er2] at e
        cases e
        obtain ⟨lb, rfl, hlb0, hlb⟩ := hv
        have b06 := b05.trans b6
        have hd6 := hd.but b06 hdr nn
        exact ⟨rfl, N, d, p, _, ⟨la, _, lb, _, rfl, .of (b6 _ _ hla hlr), row_short er (by rw [List.length_drop]; have := hR2.sz; omega), .of hlb, row_short er2 (by rw [List.length_drop]; have := hR2.sz; omega), rfl⟩, hd6, fin b06 hR6 hd6 rfl kk⟩
  exfalso
  have ne : ∀ i : Int, decide (V.int n = V.int i) = false → n ≠ i := fun i h z => of_decide_eq_false h (congrArg V.int z)
  unfold parseC at hp
  dsimp only at hp
  rw [if_neg (ne _ c0), if_neg (ne _ c1), if_neg (ne _ c2), if_neg (ne _ c3), if_neg (ne _ c4), if_neg (ne _ c5), if_neg (ne _ c6), if_neg (ne _ c7), if_neg (ne _ c8), if_neg (ne _ c9)] at hp
  cases hp
/-- the promise of answers: a list of whole numbers that may be handed in comes in, the specification's list goes out -/
def spMain (K : PySem.W.Frag) : Sp := fun vs H Q _ => ∃ (a : Addr) (ns : List Int), vs = [.ref a] ∧ SqL K H a (ns.map V.int) ∧ ns.length ≤ 7400 ∧ PyVamacf.answers_asked ns = true ∧
  ∀ (H' : Hp) (p : Addr), H' p = some (.lst ((PyVamacf.answers ns).map V.int)) → Q (.ref p) H'
theorem ok_answers (t : T K mg) : FnOk P w K mg base CX0 40 t.d_answers.f t.d_answers.d ["calls"] (spMain K) := by
  have G_Desk_init := ok_Desk_init (P := P) (w := w) (base := base) t
  have G_Reader_init := ok_Reader_init (P := P) (w := w) (base := base) t
  have G_Reader_at_end := ok_Reader_at_end (P := P) (w := w) (base := base) t
  have G_answer_call := ok_answer_call (P := P) (w := w) (base := base) t
  refine t.d_answers.F.ok sc_answers (fun vs H Q E h => by obtain ⟨a, ns, rfl, _⟩ := h; rfl) (fun cdv A outer s H vs Q E hr h => ⟨_, (pss_cons (ps_set (i := 1) sc_answers.nd rfl (Or.inl rfl) (pmake0 t.d_Desk_init t.k_Desk.g G_Desk_init (hr.mono (by omega)) rfl))
  (pss_cons (ps_set (i := 2) sc_answers.nd rfl (Or.inl rfl) (pmake t.d_Reader_init t.k_Reader.g G_Reader_init (hr.mono (by omega)) rfl (pa_cons (pv 0) pa_nil)))
  (pss_cons (ps_set (i := 3) sc_answers.nd rfl (Or.inl rfl) (pe_lst pa_nil))
  (pss_cons (ps_while PassesOwn.never (pt_not (pt_val (pmeth0 (pv 2) t.k_Reader.cl t.d_Reader_at_end G_Reader_at_end (hr.mono (by omega))))) (pss_cons (ps_set (i := 4) sc_answers.nd rfl (Or.inl rfl) (pcall t.d_answer_call G_answer_call (hr.mono (by omega)) rfl (pa_cons (pv 1) (pa_cons (pv 2) pa_nil))))
  (pss_cons (ps_expr (pe_bm PySem.F.plainAttrs_list PySem.F.slot_list_append PySem.F.type_list_append mt_append (pv 3) (pa_cons (pe_callB call_len_seq rfl t.z_len PySem.boot_len (pa_cons (pv 4) pa_nil)) pa_nil)))
  (pss_one (ps_expr (pe_bm PySem.F.plainAttrs_list PySem.F.slot_list_extend PySem.F.type_list_extend mt_extend (pv 3) (pa_cons (pv 4) pa_nil)))))))
  (pss_one (ps_ret (pv 3))))))), ?_⟩)
  obtain ⟨na, ns, rfl, hq, hlen, hask, kk⟩ := h
  obtain ⟨ks, hks, hans, hshort⟩ := asked_calls hask
  -- desk = Desk()
  intro d dd hd0 hdd0 hne
  refine ⟨rfl, d, dd, rfl, upd_same, fun H1 b1 hdesk => ⟨rfl, ?_⟩⟩
  have e1 : Ex H H1 := made_but hd0 hdd0 b1
  dsimp only [gName]
  -- line = Reader(calls)
  refine ⟨_, rfl, fun r dr hr0 hdr0 hne2 => ⟨rfl, r, dr, [.ref na], rfl, upd_same, rfl, ?_⟩⟩
  obtain ⟨e2, d2⟩ := made_ex (C := t.k_Reader.C) (f0 := []) (fs := fs_Reader (.ref na) (.int 0)) hr0 hdr0 hne2
  dsimp only [gName]
  obtain ⟨dx, pa, hda, hpa⟩ := hdesk
  have hdr : d ≠ r := ne_of_none hda hr0
  have hdesk2 : DeskAt t (fun b => ∃ o, H1 b = some o) (L2.upd (L2.upd (L2.upd H1 dr (.own r)) r (.ins t.k_Reader.C dr [])) r (.ins t.k_Reader.C dr (fs_Reader (.ref na) (.int 0)))) d .done :=
    ⟨dx, pa, e2 _ _ hda, (hpa.mono2 (N' := fun b => ∃ o, H1 b = some o) (fun _ _ _ z => z) fun b o _ z => ⟨o, z⟩).ex e2⟩
  generalize L2.upd _ _ _ = H2 at e2 d2 hdesk2 ⊢
  have e02 := e1.trans e2
  -- given = []
  refine q_asgL (el_lst ea_nil (by decide)) fun g H3 hg e3 hg3 => ?_
  have e03 := e02.trans e3
  have hgr : g ≠ r := by
    rintro rfl
    rw [d2] at hg
    cases hg
  have hgd : g ≠ d := by
    rintro rfl
    obtain ⟨_, _, q, _⟩ := hdesk2
    rw [q] at hg
    cases hg
  have hdesk3 : DeskAt t (fun b => b ≠ r ∧ b ≠ g) H3 d .done := by
    obtain ⟨dx', pa', q1, q2⟩ := hdesk2
    refine ⟨dx', pa', e3 _ _ q1, (q2.ex e3).mono (fun _ _ _ z => z) fun b z => ?_⟩
    obtain ⟨o, z⟩ := z
    exact ⟨ne_of_none z hr0, ne_of_none (e2 _ _ z) hg⟩
  have hg0 : H g = none := fresh_back e02 hg
  have hr00 : H r = none := fresh_back e1 hr0
  have hd00 : H d = none := hd0
  refine q_while (fun m σ' H' => ∃ av p i ks' ans, σ' = [some (.ref na), some (.ref d), some (.ref r), some (.ref g), av] ∧ Ex H H' ∧ RdAt t H' r na g ns i ∧ DeskAt t (fun b => b ≠ r ∧ b ≠ g) H' d p ∧
    H' g = some (.lst ((PyFlat.told ans).map V.int)) ∧ callsC m (ns.drop i) = some ks' ∧ PyVamacf.answers ns = PyFlat.told ans ++ PyFlat.told (playC ⟨p⟩ ks')) ns.length ?_ ?_
  · exact ⟨none, .done, 0, ks, [], rfl, e03, ⟨⟨dr, e3 _ _ d2⟩, far_ex e3 (far_new (ex_l e02 hq) hg), Nat.zero_le _, by omega⟩, hdesk3, hg3, hks, hans⟩
  · rintro m σ' H' ⟨av, p, i, ks', ans, rfl, eH, hR, hD, hG, hC, hA⟩
    obtain ⟨dr', ho⟩ := hR.o
    refine ⟨!decide (ns.drop i = []), et_not (et_B (ev_meth (ev_var rfl) ho m_Reader_at_end ea_nil (spV_use rfl fun H4 e4 => ⟨r, na, g, ns, i, rfl, hR.ex e4, rfl⟩))), fun c H4 e4 => ?_, fun c H4 e4 => ?_⟩
    · have cn : ns.drop i ≠ [] := by simpa using c
      obtain ⟨z, y, ez⟩ : ∃ z y, ns.drop i = z :: y := by
        cases q : ns.drop i with
        | nil => exact absurd q cn
        | cons z y => exact ⟨z, y, rfl⟩
      match m, hC with
      | 0, hC => rw [ez] at hC; cases hC
      | m + 1, hC =>
        rw [ez] at hC
        have hC' : (match parseC (z :: y) with | none => none | some (k, t) => (callsC m t).map (k :: ·)) = some ks' := hC
        cases ep : parseC (z :: y) with
        | none => rw [ep] at hC'; cases hC'
        | some u =>
          obtain ⟨k, tl⟩ := u
          rw [ep] at hC'
          have hC2 : (callsC m tl).map (k :: ·) = some ks' := hC'
          cases ec : callsC m tl with
          | none => rw [ec] at hC2; cases hC2
          | some kr =>
            rw [ec] at hC2
            cases hC2
            have hR4 := hR.ex e4
            have hD4 : DeskAt t (fun b => b ≠ r ∧ b ≠ g) H4 d p := by
              obtain ⟨x1, x2, x3, x4⟩ := hD
              exact ⟨x1, x2, e4 _ _ x3, x4.ex e4⟩
            have hG4 := e4 _ _ hG
            refine ⟨fun σ2 H2 => ∃ av p i ks' ans, σ2 = [some (.ref na), some (.ref d), some (.ref r), some (.ref g), av] ∧ Ex H H2 ∧ RdAt t H2 r na g ns i ∧ DeskAt t (fun b => b ≠ r ∧ b ≠ g) H2 d p ∧
              H2 g = some (.lst ((PyFlat.told ans).map V.int)) ∧ callsC m (ns.drop i) = some ks' ∧ PyVamacf.answers ns = PyFlat.told ans ++ PyFlat.told (playC ⟨p⟩ ks'), fun σ2 H2 h2 => ⟨m, Nat.lt_succ_self m, h2⟩, ?_⟩
            refine q_asgC (ea_cons (ev_var rfl) (ea_cons (ev_var rfl) ea_nil)) fun H5 e5 => ⟨fun b => b ≠ r ∧ b ≠ g, d, r, p, na, g, ns, i, k, tl, rfl, (by obtain ⟨x1, x2, x3, x4⟩ := hD4; exact ⟨x1, x2, e5 _ _ x3, x4.ex e5⟩), fun b z => z.1, hR4.ex e5, hdr, by rw [ez]; exact ep, fun H6 l j ej b6 hR6 hD6 hl hl6 => ?_⟩
            have hG5 := e5 _ _ hG4
            have hlg : l ≠ g := by
              rintro rfl
              rw [hG5] at hl
              cases hl
            have hG6 := b6 _ _ hG5 hgd hgr
            obtain ⟨dr5, ho5⟩ := (hR4.ex e5).o
            have hl0 : H l = none := fresh_back ((eH.trans e4).trans e5) hl
            have eH6 : Ex H H6 := fun b o hb => b6 b o (((eH.trans e4).trans e5) _ _ hb) (ne_of_none hb hd00) (ne_of_none hb hr00)
            have hD6' : DeskAt t (fun b => b ≠ r ∧ b ≠ g) H6 d (Vamacf.step ⟨p⟩ k).1.program := by
              obtain ⟨x1, x2, x3, x4⟩ := hD6
              refine ⟨x1, x2, x3, x4.mono (fun _ _ _ z => z) fun b z => ?_⟩
              rcases z with z | z
              · exact z
              · refine ⟨?_, ?_⟩
                · rintro rfl
                  rw [ho5] at z
                  cases z
                · rintro rfl
                  rw [hG5] at z
                  cases z
            have hA' : PyVamacf.answers ns = PyFlat.told (ans ++ [(Vamacf.step ⟨p⟩ k).2]) ++ PyFlat.told (playC (Vamacf.step ⟨p⟩ k).1 kr) := by
              rw [hA, told_append, List.append_assoc]
              congr 1
              exact told_append [_] _
            have hl1 : (PyFlat.told ans).length + 1 + (Vamacf.step ⟨p⟩ k).2.length ≤ 10000000 := by
              have := congrArg List.length hA'
              rw [List.length_append, told_append, List.length_append] at this
              have h1 : (PyFlat.told [(Vamacf.step ⟨p⟩ k).2]).length = 1 + (Vamacf.step ⟨p⟩ k).2.length := by
                show ((((Vamacf.step ⟨p⟩ k).2.length : Int) :: (Vamacf.step ⟨p⟩ k).2) ++ []).length = _
                rw [List.append_nil, List.length_cons, Nat.add_comm]
              omega
            -- given.append(len(answer))
            refine ⟨_, rfl, .inl ⟨rfl, _, SqL.of hG6⟩, _, rfl, l, _, rfl, .inl (.of hl6), g, _, _, rfl, rfl, hG6, ?_, ?_⟩
            · rw [List.length_map]
              exact size_lt (by omega)
            · have hext : Ex H (L2.upd H6 g (.lst ((PyFlat.told ans).map V.int ++ [.int (((Vamacf.step ⟨p⟩ k).2.map V.int).length : Nat)]))) := eH6.mut hg0
              refine ⟨_, rfl, .inl ⟨rfl, _, SqL.of upd_same⟩, _, rfl, g, l, _, _, rfl, rfl, upd_same, by rw [upd_ne hlg]; exact hl6, ?_, some (.ref l), _, j, kr, ans ++ [(Vamacf.step ⟨p⟩ k).2], rfl, hext.mut hg0, ?_, ?_, ?_, ?_, hA'⟩
              · rw [List.length_append, List.length_map, List.length_map]
                exact Nat.le_of_lt (size_lt (by show _ + 1 + _ < _; omega))
              · exact (hR6.updM hG6).updM upd_same
              · obtain ⟨x1, x2, x3, x4⟩ := hD6'
                refine ⟨x1, x2, by rw [upd_ne (Ne.symm hgd), upd_ne (Ne.symm hgd)]; exact x3, x4.mono (fun b o z q => ?_) fun _ z => z⟩
                rw [upd_ne z.2, upd_ne z.2]
                exact q
              · rw [upd_same, List.length_map, told_append, List.map_append, List.append_assoc]
                congr 3
                show _ = (((((Vamacf.step ⟨p⟩ k).2.length : Int) :: (Vamacf.step ⟨p⟩ k).2) ++ []).map V.int)
                rw [List.append_nil]
                rfl
              · rw [ej]
                exact ec
    · have cn : ns.drop i = [] := by simpa using c
      rw [cn] at hC
      have : ks' = [] := by
        cases m <;> (cases hC; rfl)
      subst this
      have hA2 : PyVamacf.answers ns = PyFlat.told ans := by
        rw [hA]
        show _ ++ [] = _
        rw [List.append_nil]
      refine ⟨_, rfl, kk H4 g ?_⟩
      rw [hA2]
      exact e4 _ _ hG
theorem bind_answers (t : T K mg) (s : Shared) (us : List Value) (hu : us.length = (["calls"] : List Str).length) : BindsTo s t.d_answers.d ⟨us, []⟩ ((["calls"] : List Str).zip us) := by
  obtain ⟨oc, od, kV, doc, pm, an, cdv, ct, osl, e, lk, hcd⟩ := t.d_answers.F.ex
  rw [e]
  match us, hu with
  | [_], _ => exact .of_eq rfl
end
end G
namespace G
open PySem PySem.Spec PyProof.Rows L2
theorem kit_same {K : PySem.W.Frag} {C : Addr} : PySem.W.kitOne K (.ref C) (.ref C) = some true := by
  unfold PySem.W.kitOne
  rw [if_pos (by simp)]
theorem kit_ne {K : PySem.W.Frag} {A C : Addr} (n : A ≠ C) (h2 : PySem.W.isClsIn K C = true) (h3 : PySem.W.typeIn K (.ref C) = some (.type "type")) (h4 : PySem.W.subIn K (.ref A) (.ref C) = some false) : PySem.W.kitOne K (.ref A) (.ref C) = some false := by
  have e2 : ((PySem.W.clsIn K C).isSome && PySem.W.typeIn K (.ref C) == some (.type "type")) = true := by
    have h2' : (PySem.W.clsIn K C).isSome = true := h2
    rw [h2', h3] <;> rfl
  unfold PySem.W.kitOne
  rw [if_neg (by simpa using n)]
  show (if ((PySem.W.clsIn K C).isSome && PySem.W.typeIn K (.ref C) == some (.type "type")) = true then PySem.W.subIn K (.ref A) (.ref C) else none) = some false
  rw [if_pos e2]
  exact h4
theorem exm_self {K : PySem.W.Frag} {S : Addr} (h1 : PySem.W.subIn K (.ref S) (.type "BaseException") = some true) (h2 : PySem.W.isClsIn K S = true) (h3 : PySem.W.typeIn K (.ref S) = some (.type "type")) (h4 : PySem.W.subIn K (.ref S) (.ref S) = some true) :
    PySem.W.exmOne K (.ref S) (.ref S) = some true := by
  have e1 : (PySem.W.subIn K (.ref S) (.type "BaseException") == some true) = true := by rw [h1] <;> rfl
  have e2 : ((PySem.W.clsIn K S).isSome && PySem.W.typeIn K (.ref S) == some (.type "type")) = true := by
    have h2' : (PySem.W.clsIn K S).isSome = true := h2
    rw [h2', h3] <;> rfl
  show (if (PySem.W.subIn K (.ref S) (.type "BaseException") == some true) = true then (if ((PySem.W.clsIn K S).isSome && PySem.W.typeIn K (.ref S) == some (.type "type")) = true then PySem.W.subIn K (.ref S) (.ref S) else none) else none) = some true
  rw [if_pos e1, if_pos e2]
  exact h4
theorem all_mk {K : PySem.W.Frag} {h : Heap} {mg : Str → Option Value} {C_Deed C_Reader C_Loop C_LoopToEnd C_Part C_Program C_Table C_Run C_Desk C_NotWhole f_Deed_init f_Deed_has_field f_Deed_has_value f_Deed_writes_field f_Deed_reads_field f_Deed_changes_rows f_read_field f_read_value f_read_deed f_deed_numbers f_Reader_init f_Reader_at_end f_Reader_take f_Reader_take_within f_Reader_take_list f_Reader_finish f_Loop_init f_LoopToEnd_init f_Part_init f_Program_init f_read_program f_numbers_joined f_read_row f_read_piece f_read_head f_read_stepped_deed f_depth_of f_rest_behind_row f_rest_behind_piece f_rest_behind_deed f_comes_nearer f_first_endless f_most_deeds f_most_deeds_of_piece f_is_accepted f_Table_init f_Table_has_row_here f_Table_copied f_Table_as_numbers f_read_table f_places_changed f_do_deed f_go_up f_find_below f_do_with_field f_put_value f_do_with_row f_Run_init f_Run_do_row f_Run_do_piece f_Run_do_counted f_Run_do_rounds f_Run_do_to_end f_Run_is_called_for f_run_row f_read_recording f_recording_numbers f_cleaned f_without_first_slip f_become f_become_of_one_field f_deed_with f_fields_written f_fields_read f_piece_reads f_rising f_rows_may_change f_reads_old_clipboard f_surely_copies f_read_fields f_is_against f_Desk_init f_Desk_put_program f_Desk_told f_Desk_touches f_Desk_ends f_Desk_allowed f_Desk_run_on f_Desk_changed_on f_Desk_join_program f_Desk_clean f_Desk_same f_answers f_answer_call : Addr} (X : K.In h) (G : h.Ns mainGlobals mg)
    {od_Deed_init an_Deed_init od_Deed_has_field an_Deed_has_field od_Deed_has_value an_Deed_has_value od_Deed_writes_field an_Deed_writes_field od_Deed_reads_field an_Deed_reads_field od_Deed_changes_rows an_Deed_changes_rows od_read_field an_read_field od_read_value an_read_value od_read_deed an_read_deed od_deed_numbers an_deed_numbers od_Reader_init an_Reader_init od_Reader_at_end an_Reader_at_end od_Reader_take an_Reader_take od_Reader_take_within an_Reader_take_within od_Reader_take_list an_Reader_take_list od_Reader_finish an_Reader_finish od_Loop_init an_Loop_init od_LoopToEnd_init an_LoopToEnd_init od_Part_init an_Part_init od_Program_init an_Program_init od_read_program an_read_program od_numbers_joined an_numbers_joined od_read_row an_read_row od_read_piece an_read_piece od_read_head an_read_head od_read_stepped_deed an_read_stepped_deed od_depth_of an_depth_of od_rest_behind_row an_rest_behind_row od_rest_behind_piece an_rest_behind_piece od_rest_behind_deed an_rest_behind_deed od_comes_nearer an_comes_nearer od_first_endless an_first_endless od_most_deeds an_most_deeds od_most_deeds_of_piece an_most_deeds_of_piece od_is_accepted an_is_accepted od_Table_init an_Table_init od_Table_has_row_here an_Table_has_row_here od_Table_copied an_Table_copied od_Table_as_numbers an_Table_as_numbers od_read_table an_read_table od_places_changed an_places_changed od_do_deed an_do_deed od_go_up an_go_up od_find_below an_find_below od_do_with_field an_do_with_field od_put_value an_put_value od_do_with_row an_do_with_row od_Run_init an_Run_init od_Run_do_row an_Run_do_row od_Run_do_piece an_Run_do_piece od_Run_do_counted an_Run_do_counted od_Run_do_rounds an_Run_do_rounds od_Run_do_to_end an_Run_do_to_end od_Run_is_called_for an_Run_is_called_for od_run_row an_run_row od_read_recording an_read_recording od_recording_numbers an_recording_numbers od_cleaned an_cleaned od_without_first_slip an_without_first_slip od_become an_become od_become_of_one_field an_become_of_one_field od_deed_with an_deed_with od_fields_written an_fields_written od_fields_read an_fields_read od_piece_reads an_piece_reads od_rising an_rising od_rows_may_change an_rows_may_change od_reads_old_clipboard an_reads_old_clipboard od_surely_copies an_surely_copies od_read_fields an_read_fields od_is_against an_is_against od_Desk_init an_Desk_init od_Desk_put_program an_Desk_put_program od_Desk_told an_Desk_told od_Desk_touches an_Desk_touches od_Desk_ends an_Desk_ends od_Desk_allowed an_Desk_allowed od_Desk_run_on an_Desk_run_on od_Desk_changed_on an_Desk_changed_on od_Desk_join_program an_Desk_join_program od_Desk_clean an_Desk_clean od_Desk_same an_Desk_same od_answers an_answers od_answer_call an_answer_call : Option Addr} {sl_Deed_init sl_Deed_has_field sl_Deed_has_value sl_Deed_writes_field sl_Deed_reads_field sl_Deed_changes_rows sl_read_field sl_read_value sl_read_deed sl_deed_numbers sl_Reader_init sl_Reader_at_end sl_Reader_take sl_Reader_take_within sl_Reader_take_list sl_Reader_finish sl_Loop_init sl_LoopToEnd_init sl_Part_init sl_Program_init sl_read_program sl_numbers_joined sl_read_row sl_read_piece sl_read_head sl_read_stepped_deed sl_depth_of sl_rest_behind_row sl_rest_behind_piece sl_rest_behind_deed sl_comes_nearer sl_first_endless sl_most_deeds sl_most_deeds_of_piece sl_is_accepted sl_Table_init sl_Table_has_row_here sl_Table_copied sl_Table_as_numbers sl_read_table sl_places_changed sl_do_deed sl_go_up sl_find_below sl_do_with_field sl_put_value sl_do_with_row sl_Run_init sl_Run_do_row sl_Run_do_piece sl_Run_do_counted sl_Run_do_rounds sl_Run_do_to_end sl_Run_is_called_for sl_run_row sl_read_recording sl_recording_numbers sl_cleaned sl_without_first_slip sl_become sl_become_of_one_field sl_deed_with sl_fields_written sl_fields_read sl_piece_reads sl_rising sl_rows_may_change sl_reads_old_clipboard sl_surely_copies sl_read_fields sl_is_against sl_Desk_init sl_Desk_put_program sl_Desk_told sl_Desk_touches sl_Desk_ends sl_Desk_allowed sl_Desk_run_on sl_Desk_changed_on sl_Desk_join_program sl_Desk_clean sl_Desk_same sl_answers sl_answer_call : Array (Option Value)}
    {oc_Deed_init kV_Deed_init dc_Deed_init pm_Deed_init cd_Deed_init ct_Deed_init oc_Deed_has_field kV_Deed_has_field dc_Deed_has_field pm_Deed_has_field cd_Deed_has_field ct_Deed_has_field oc_Deed_has_value kV_Deed_has_value dc_Deed_has_value pm_Deed_has_value cd_Deed_has_value ct_Deed_has_value oc_Deed_writes_field kV_Deed_writes_field dc_Deed_writes_field pm_Deed_writes_field cd_Deed_writes_field ct_Deed_writes_field oc_Deed_reads_field kV_Deed_reads_field dc_Deed_reads_field pm_Deed_reads_field cd_Deed_reads_field ct_Deed_reads_field oc_Deed_changes_rows kV_Deed_changes_rows dc_Deed_changes_rows pm_Deed_changes_rows cd_Deed_changes_rows ct_Deed_changes_rows oc_read_field kV_read_field dc_read_field pm_read_field cd_read_field ct_read_field oc_read_value kV_read_value dc_read_value pm_read_value cd_read_value ct_read_value oc_read_deed kV_read_deed dc_read_deed pm_read_deed cd_read_deed ct_read_deed oc_deed_numbers kV_deed_numbers dc_deed_numbers pm_deed_numbers cd_deed_numbers ct_deed_numbers oc_Reader_init kV_Reader_init dc_Reader_init pm_Reader_init cd_Reader_init ct_Reader_init oc_Reader_at_end kV_Reader_at_end dc_Reader_at_end pm_Reader_at_end cd_Reader_at_end ct_Reader_at_end oc_Reader_take kV_Reader_take dc_Reader_take pm_Reader_take cd_Reader_take ct_Reader_take oc_Reader_take_within kV_Reader_take_within dc_Reader_take_within pm_Reader_take_within cd_Reader_take_within ct_Reader_take_within oc_Reader_take_list kV_Reader_take_list dc_Reader_take_list pm_Reader_take_list cd_Reader_take_list ct_Reader_take_list oc_Reader_finish kV_Reader_finish dc_Reader_finish pm_Reader_finish cd_Reader_finish ct_Reader_finish oc_Loop_init kV_Loop_init dc_Loop_init pm_Loop_init cd_Loop_init ct_Loop_init oc_LoopToEnd_init kV_LoopToEnd_init dc_LoopToEnd_init pm_LoopToEnd_init cd_LoopToEnd_init ct_LoopToEnd_init oc_Part_init kV_Part_init dc_Part_init pm_Part_init cd_Part_init ct_Part_init oc_Program_init kV_Program_init dc_Program_init pm_Program_init cd_Program_init ct_Program_init oc_read_program kV_read_program dc_read_program pm_read_program cd_read_program ct_read_program oc_numbers_joined kV_numbers_joined dc_numbers_joined pm_numbers_joined cd_numbers_joined ct_numbers_joined oc_read_row kV_read_row dc_read_row pm_read_row cd_read_row ct_read_row oc_read_piece kV_read_piece dc_read_piece pm_read_piece cd_read_piece ct_read_piece oc_read_head kV_read_head dc_read_head pm_read_head cd_read_head ct_read_head oc_read_stepped_deed kV_read_stepped_deed dc_read_stepped_deed pm_read_stepped_deed cd_read_stepped_deed ct_read_stepped_deed oc_depth_of kV_depth_of dc_depth_of pm_depth_of cd_depth_of ct_depth_of oc_rest_behind_row kV_rest_behind_row dc_rest_behind_row pm_rest_behind_row cd_rest_behind_row ct_rest_behind_row oc_rest_behind_piece kV_rest_behind_piece dc_rest_behind_piece pm_rest_behind_piece cd_rest_behind_piece ct_rest_behind_piece oc_rest_behind_deed kV_rest_behind_deed dc_rest_behind_deed pm_rest_behind_deed cd_rest_behind_deed ct_rest_behind_deed oc_comes_nearer kV_comes_nearer dc_comes_nearer pm_comes_nearer cd_comes_nearer ct_comes_nearer oc_first_endless kV_first_endless dc_first_endless pm_first_endless cd_first_endless ct_first_endless oc_most_deeds kV_most_deeds dc_most_deeds pm_most_deeds cd_most_deeds ct_most_deeds oc_most_deeds_of_piece kV_most_deeds_of_piece dc_most_deeds_of_piece pm_most_deeds_of_piece cd_most_deeds_of_piece ct_most_deeds_of_piece oc_is_accepted kV_is_accepted dc_is_accepted pm_is_accepted cd_is_accepted ct_is_accepted oc_Table_init kV_Table_init dc_Table_init pm_Table_init cd_Table_init ct_Table_init oc_Table_has_row_here kV_Table_has_row_here dc_Table_has_row_here pm_Table_has_row_here cd_Table_has_row_here ct_Table_has_row_here oc_Table_copied kV_Table_copied dc_Table_copied pm_Table_copied cd_Table_copied ct_Table_copied oc_Table_as_numbers kV_Table_as_numbers dc_Table_as_numbers pm_Table_as_numbers cd_Table_as_numbers ct_Table_as_numbers oc_read_table kV_read_table dc_read_table pm_read_table cd_read_table ct_read_table oc_places_changed kV_places_changed dc_places_changed pm_places_changed cd_places_changed ct_places_changed oc_do_deed kV_do_deed dc_do_deed pm_do_deed cd_do_deed ct_do_deed oc_go_up kV_go_up dc_go_up pm_go_up cd_go_up ct_go_up oc_find_below kV_find_below dc_find_below pm_find_below cd_find_below ct_find_below oc_do_with_field kV_do_with_field dc_do_with_field pm_do_with_field cd_do_with_field ct_do_with_field oc_put_value kV_put_value dc_put_value pm_put_value cd_put_value ct_put_value oc_do_with_row kV_do_with_row dc_do_with_row pm_do_with_row cd_do_with_row ct_do_with_row oc_Run_init kV_Run_init dc_Run_init pm_Run_init cd_Run_init ct_Run_init oc_Run_do_row kV_Run_do_row dc_Run_do_row pm_Run_do_row cd_Run_do_row ct_Run_do_row oc_Run_do_piece kV_Run_do_piece dc_Run_do_piece pm_Run_do_piece cd_Run_do_piece ct_Run_do_piece oc_Run_do_counted kV_Run_do_counted dc_Run_do_counted pm_Run_do_counted cd_Run_do_counted ct_Run_do_counted oc_Run_do_rounds kV_Run_do_rounds dc_Run_do_rounds pm_Run_do_rounds cd_Run_do_rounds ct_Run_do_rounds oc_Run_do_to_end kV_Run_do_to_end dc_Run_do_to_end pm_Run_do_to_end cd_Run_do_to_end ct_Run_do_to_end oc_Run_is_called_for kV_Run_is_called_for dc_Run_is_called_for pm_Run_is_called_for cd_Run_is_called_for ct_Run_is_called_for oc_run_row kV_run_row dc_run_row pm_run_row cd_run_row ct_run_row oc_read_recording kV_read_recording dc_read_recording pm_read_recording cd_read_recording ct_read_recording oc_recording_numbers kV_recording_numbers dc_recording_numbers pm_recording_numbers cd_recording_numbers ct_recording_numbers oc_cleaned kV_cleaned dc_cleaned pm_cleaned cd_cleaned ct_cleaned oc_without_first_slip kV_without_first_slip dc_without_first_slip pm_without_first_slip cd_without_first_slip ct_without_first_slip oc_become kV_become dc_become pm_become cd_become ct_become oc_become_of_one_field kV_become_of_one_field dc_become_of_one_field pm_become_of_one_field cd_become_of_one_field ct_become_of_one_field oc_deed_with kV_deed_with dc_deed_with pm_deed_with cd_deed_with ct_deed_with oc_fields_written kV_fields_written dc_fields_written pm_fields_written cd_fields_written ct_fields_written oc_fields_read kV_fields_read dc_fields_read pm_fields_read cd_fields_read ct_fields_read oc_piece_reads kV_piece_reads dc_piece_reads pm_piece_reads cd_piece_reads ct_piece_reads oc_rising kV_rising dc_rising pm_rising cd_rising ct_rising oc_rows_may_change kV_rows_may_change dc_rows_may_change pm_rows_may_change cd_rows_may_change ct_rows_may_change oc_reads_old_clipboard kV_reads_old_clipboard dc_reads_old_clipboard pm_reads_old_clipboard cd_reads_old_clipboard ct_reads_old_clipboard oc_surely_copies kV_surely_copies dc_surely_copies pm_surely_copies cd_surely_copies ct_surely_copies oc_read_fields kV_read_fields dc_read_fields pm_read_fields cd_read_fields ct_read_fields oc_is_against kV_is_against dc_is_against pm_is_against cd_is_against ct_is_against oc_Desk_init kV_Desk_init dc_Desk_init pm_Desk_init cd_Desk_init ct_Desk_init oc_Desk_put_program kV_Desk_put_program dc_Desk_put_program pm_Desk_put_program cd_Desk_put_program ct_Desk_put_program oc_Desk_told kV_Desk_told dc_Desk_told pm_Desk_told cd_Desk_told ct_Desk_told oc_Desk_touches kV_Desk_touches dc_Desk_touches pm_Desk_touches cd_Desk_touches ct_Desk_touches oc_Desk_ends kV_Desk_ends dc_Desk_ends pm_Desk_ends cd_Desk_ends ct_Desk_ends oc_Desk_allowed kV_Desk_allowed dc_Desk_allowed pm_Desk_allowed cd_Desk_allowed ct_Desk_allowed oc_Desk_run_on kV_Desk_run_on dc_Desk_run_on pm_Desk_run_on cd_Desk_run_on ct_Desk_run_on oc_Desk_changed_on kV_Desk_changed_on dc_Desk_changed_on pm_Desk_changed_on cd_Desk_changed_on ct_Desk_changed_on oc_Desk_join_program kV_Desk_join_program dc_Desk_join_program pm_Desk_join_program cd_Desk_join_program ct_Desk_join_program oc_Desk_clean kV_Desk_clean dc_Desk_clean pm_Desk_clean cd_Desk_clean ct_Desk_clean oc_Desk_same kV_Desk_same dc_Desk_same pm_Desk_same cd_Desk_same ct_Desk_same oc_answers kV_answers dc_answers pm_answers cd_answers ct_answers oc_answer_call kV_answer_call dc_answer_call pm_answer_call cd_answer_call ct_answer_call : Value} {t_DOWN t_UP t_TOP t_WRITE t_ADD t_COPY t_PASTE t_DELETE t_DOUBLE t_FIND t_FIELDS t_FARTHEST_VALUE t_DEED t_LOOP t_LOOP_TO_END t_PART t_MOST_ROUNDS t_MOST_PIECES t_MOST_DEPTH t_ROUNDS_TO_END t_MOST_ACCEPTED t_MOST_ROWS t_WELL t_NO_ROW_HERE t_AT_FIRST_ROW t_VALUE_BEYOND t_NO_ROOM t_NONE_FOUND t_TOO_LONG t_MOST_DEEDS_DONE t_MOST_ROUNDS_TO_END t_MOST_RECORDED t_PROGRAM t_TOLD t_TOUCHES t_ENDS t_ALLOWED t_RUN t_CHANGED t_JOIN t_CLEAN t_SAME : Tok}
    (a_Deed : PySem.W.nsIn K mainGlobals "Deed" = some (some (.ref C_Deed)))
    (pg_Deed : PySem.W.plainGet K C_Deed Str.empty = true)
    (hd_Deed : PySem.W.hasDictIn K C_Deed = true)
    (po_Deed : PySem.W.plainOver K C_Deed = true)
    (sa_Deed : PySem.W.findIn K (.ref C_Deed) "__setattr__" = some (some (.builtin "object.__setattr__")))
    (ha_Deed : PySem.W.findIn K (.ref C_Deed) "__class__" = some (some (.builtin "object.__class__")))
    (hm_Deed : PySem.W.mroIn K C_Deed (.type "object") = some true)
    (n_Deed_kind : PySem.W.findIn K (.ref C_Deed) "kind" = some none)
    (n_Deed_field : PySem.W.findIn K (.ref C_Deed) "field" = some none)
    (n_Deed_value : PySem.W.findIn K (.ref C_Deed) "value" = some none)
    (n_Deed_step : PySem.W.findIn K (.ref C_Deed) "step" = some none)
    (a_Reader : PySem.W.nsIn K mainGlobals "Reader" = some (some (.ref C_Reader)))
    (pg_Reader : PySem.W.plainGet K C_Reader Str.empty = true)
    (hd_Reader : PySem.W.hasDictIn K C_Reader = true)
    (po_Reader : PySem.W.plainOver K C_Reader = true)
    (sa_Reader : PySem.W.findIn K (.ref C_Reader) "__setattr__" = some (some (.builtin "object.__setattr__")))
    (ha_Reader : PySem.W.findIn K (.ref C_Reader) "__class__" = some (some (.builtin "object.__class__")))
    (hm_Reader : PySem.W.mroIn K C_Reader (.type "object") = some true)
    (n_Reader_numbers : PySem.W.findIn K (.ref C_Reader) "numbers" = some none)
    (n_Reader_place : PySem.W.findIn K (.ref C_Reader) "place" = some none)
    (a_Loop : PySem.W.nsIn K mainGlobals "Loop" = some (some (.ref C_Loop)))
    (pg_Loop : PySem.W.plainGet K C_Loop Str.empty = true)
    (hd_Loop : PySem.W.hasDictIn K C_Loop = true)
    (po_Loop : PySem.W.plainOver K C_Loop = true)
    (sa_Loop : PySem.W.findIn K (.ref C_Loop) "__setattr__" = some (some (.builtin "object.__setattr__")))
    (ha_Loop : PySem.W.findIn K (.ref C_Loop) "__class__" = some (some (.builtin "object.__class__")))
    (hm_Loop : PySem.W.mroIn K C_Loop (.type "object") = some true)
    (n_Loop_rounds : PySem.W.findIn K (.ref C_Loop) "rounds" = some none)
    (n_Loop_row : PySem.W.findIn K (.ref C_Loop) "row" = some none)
    (a_LoopToEnd : PySem.W.nsIn K mainGlobals "LoopToEnd" = some (some (.ref C_LoopToEnd)))
    (pg_LoopToEnd : PySem.W.plainGet K C_LoopToEnd Str.empty = true)
    (hd_LoopToEnd : PySem.W.hasDictIn K C_LoopToEnd = true)
    (po_LoopToEnd : PySem.W.plainOver K C_LoopToEnd = true)
    (sa_LoopToEnd : PySem.W.findIn K (.ref C_LoopToEnd) "__setattr__" = some (some (.builtin "object.__setattr__")))
    (ha_LoopToEnd : PySem.W.findIn K (.ref C_LoopToEnd) "__class__" = some (some (.builtin "object.__class__")))
    (hm_LoopToEnd : PySem.W.mroIn K C_LoopToEnd (.type "object") = some true)
    (n_LoopToEnd_row : PySem.W.findIn K (.ref C_LoopToEnd) "row" = some none)
    (a_Part : PySem.W.nsIn K mainGlobals "Part" = some (some (.ref C_Part)))
    (pg_Part : PySem.W.plainGet K C_Part Str.empty = true)
    (hd_Part : PySem.W.hasDictIn K C_Part = true)
    (po_Part : PySem.W.plainOver K C_Part = true)
    (sa_Part : PySem.W.findIn K (.ref C_Part) "__setattr__" = some (some (.builtin "object.__setattr__")))
    (ha_Part : PySem.W.findIn K (.ref C_Part) "__class__" = some (some (.builtin "object.__class__")))
    (hm_Part : PySem.W.mroIn K C_Part (.type "object") = some true)
    (n_Part_field : PySem.W.findIn K (.ref C_Part) "field" = some none)
    (n_Part_value : PySem.W.findIn K (.ref C_Part) "value" = some none)
    (n_Part_row : PySem.W.findIn K (.ref C_Part) "row" = some none)
    (a_Program : PySem.W.nsIn K mainGlobals "Program" = some (some (.ref C_Program)))
    (pg_Program : PySem.W.plainGet K C_Program Str.empty = true)
    (hd_Program : PySem.W.hasDictIn K C_Program = true)
    (po_Program : PySem.W.plainOver K C_Program = true)
    (sa_Program : PySem.W.findIn K (.ref C_Program) "__setattr__" = some (some (.builtin "object.__setattr__")))
    (ha_Program : PySem.W.findIn K (.ref C_Program) "__class__" = some (some (.builtin "object.__class__")))
    (hm_Program : PySem.W.mroIn K C_Program (.type "object") = some true)
    (n_Program_numbers : PySem.W.findIn K (.ref C_Program) "numbers" = some none)
    (n_Program_row : PySem.W.findIn K (.ref C_Program) "row" = some none)
    (n_Program_pieces : PySem.W.findIn K (.ref C_Program) "pieces" = some none)
    (a_Table : PySem.W.nsIn K mainGlobals "Table" = some (some (.ref C_Table)))
    (pg_Table : PySem.W.plainGet K C_Table Str.empty = true)
    (hd_Table : PySem.W.hasDictIn K C_Table = true)
    (po_Table : PySem.W.plainOver K C_Table = true)
    (sa_Table : PySem.W.findIn K (.ref C_Table) "__setattr__" = some (some (.builtin "object.__setattr__")))
    (ha_Table : PySem.W.findIn K (.ref C_Table) "__class__" = some (some (.builtin "object.__class__")))
    (hm_Table : PySem.W.mroIn K C_Table (.type "object") = some true)
    (n_Table_rows : PySem.W.findIn K (.ref C_Table) "rows" = some none)
    (n_Table_cursor : PySem.W.findIn K (.ref C_Table) "cursor" = some none)
    (n_Table_clipboard : PySem.W.findIn K (.ref C_Table) "clipboard" = some none)
    (a_Run : PySem.W.nsIn K mainGlobals "Run" = some (some (.ref C_Run)))
    (pg_Run : PySem.W.plainGet K C_Run Str.empty = true)
    (hd_Run : PySem.W.hasDictIn K C_Run = true)
    (po_Run : PySem.W.plainOver K C_Run = true)
    (sa_Run : PySem.W.findIn K (.ref C_Run) "__setattr__" = some (some (.builtin "object.__setattr__")))
    (ha_Run : PySem.W.findIn K (.ref C_Run) "__class__" = some (some (.builtin "object.__class__")))
    (hm_Run : PySem.W.mroIn K C_Run (.type "object") = some true)
    (n_Run_table : PySem.W.findIn K (.ref C_Run) "table" = some none)
    (n_Run_done : PySem.W.findIn K (.ref C_Run) "done" = some none)
    (n_Run_ended : PySem.W.findIn K (.ref C_Run) "ended" = some none)
    (a_Desk : PySem.W.nsIn K mainGlobals "Desk" = some (some (.ref C_Desk)))
    (pg_Desk : PySem.W.plainGet K C_Desk Str.empty = true)
    (hd_Desk : PySem.W.hasDictIn K C_Desk = true)
    (po_Desk : PySem.W.plainOver K C_Desk = true)
    (sa_Desk : PySem.W.findIn K (.ref C_Desk) "__setattr__" = some (some (.builtin "object.__setattr__")))
    (ha_Desk : PySem.W.findIn K (.ref C_Desk) "__class__" = some (some (.builtin "object.__class__")))
    (hm_Desk : PySem.W.mroIn K C_Desk (.type "object") = some true)
    (n_Desk_program : PySem.W.findIn K (.ref C_Desk) "program" = some none)
    (a_NotWhole : PySem.W.nsIn K mainGlobals "NotWhole" = some (some (.ref C_NotWhole)))
    (x_NotWhole : PySem.W.excIn K C_NotWhole [.type "Exception", .type "BaseException", .type "object"] "Exception.__new__" = true)
    (k_NotWhole : PySem.W.keepIn K (.ref C_NotWhole) = true)
    (b_NotWhole : PySem.W.subIn K (.ref C_NotWhole) (.type "BaseException") = some true)
    (t_NotWhole : PySem.W.typeIn K (.ref C_NotWhole) = some (.type "type"))
    (i_NotWhole : PySem.W.isClsIn K C_NotWhole = true)
    (s_NotWhole : PySem.W.subIn K (.ref C_NotWhole) (.ref C_NotWhole) = some true)
    (a_Deed_init : PySem.W.findIn K (.ref C_Deed) "__init__" = some (some (.ref f_Deed_init)))
    (i_Deed_init : PySem.W.isFn K (.ref f_Deed_init) = true)
    (l_Deed_init : K.lookup f_Deed_init = some ⟨oc_Deed_init, od_Deed_init, .func (PySem.W.fnOf "__init__" "Deed.__init__" (defArgs s_Deed_init) (defBody s_Deed_init) (defScope s_Deed_init) .none kV_Deed_init dc_Deed_init pm_Deed_init an_Deed_init cd_Deed_init ct_Deed_init), sl_Deed_init⟩)
    (c_Deed_init : PySem.W.codeIn K cd_Deed_init "Deed.__init__" = true)
    (k_Deed_init : PySem.W.keepIn K (.ref f_Deed_init) = true)
    (mk_Deed : PySem.W.makesIn K C_Deed = true)
    (kc_Deed : PySem.W.keepIn K (.ref C_Deed) = true)
    (a_Deed_has_field : PySem.W.findIn K (.ref C_Deed) "has_field" = some (some (.ref f_Deed_has_field)))
    (i_Deed_has_field : PySem.W.isFn K (.ref f_Deed_has_field) = true)
    (l_Deed_has_field : K.lookup f_Deed_has_field = some ⟨oc_Deed_has_field, od_Deed_has_field, .func (PySem.W.fnOf "has_field" "Deed.has_field" (defArgs s_Deed_has_field) (defBody s_Deed_has_field) (defScope s_Deed_has_field) .none kV_Deed_has_field dc_Deed_has_field pm_Deed_has_field an_Deed_has_field cd_Deed_has_field ct_Deed_has_field), sl_Deed_has_field⟩)
    (c_Deed_has_field : PySem.W.codeIn K cd_Deed_has_field "Deed.has_field" = true)
    (k_Deed_has_field : PySem.W.keepIn K (.ref f_Deed_has_field) = true)
    (a_Deed_has_value : PySem.W.findIn K (.ref C_Deed) "has_value" = some (some (.ref f_Deed_has_value)))
    (i_Deed_has_value : PySem.W.isFn K (.ref f_Deed_has_value) = true)
    (l_Deed_has_value : K.lookup f_Deed_has_value = some ⟨oc_Deed_has_value, od_Deed_has_value, .func (PySem.W.fnOf "has_value" "Deed.has_value" (defArgs s_Deed_has_value) (defBody s_Deed_has_value) (defScope s_Deed_has_value) .none kV_Deed_has_value dc_Deed_has_value pm_Deed_has_value an_Deed_has_value cd_Deed_has_value ct_Deed_has_value), sl_Deed_has_value⟩)
    (c_Deed_has_value : PySem.W.codeIn K cd_Deed_has_value "Deed.has_value" = true)
    (k_Deed_has_value : PySem.W.keepIn K (.ref f_Deed_has_value) = true)
    (a_Deed_writes_field : PySem.W.findIn K (.ref C_Deed) "writes_field" = some (some (.ref f_Deed_writes_field)))
    (i_Deed_writes_field : PySem.W.isFn K (.ref f_Deed_writes_field) = true)
    (l_Deed_writes_field : K.lookup f_Deed_writes_field = some ⟨oc_Deed_writes_field, od_Deed_writes_field, .func (PySem.W.fnOf "writes_field" "Deed.writes_field" (defArgs s_Deed_writes_field) (defBody s_Deed_writes_field) (defScope s_Deed_writes_field) .none kV_Deed_writes_field dc_Deed_writes_field pm_Deed_writes_field an_Deed_writes_field cd_Deed_writes_field ct_Deed_writes_field), sl_Deed_writes_field⟩)
    (c_Deed_writes_field : PySem.W.codeIn K cd_Deed_writes_field "Deed.writes_field" = true)
    (k_Deed_writes_field : PySem.W.keepIn K (.ref f_Deed_writes_field) = true)
    (a_Deed_reads_field : PySem.W.findIn K (.ref C_Deed) "reads_field" = some (some (.ref f_Deed_reads_field)))
    (i_Deed_reads_field : PySem.W.isFn K (.ref f_Deed_reads_field) = true)
    (l_Deed_reads_field : K.lookup f_Deed_reads_field = some ⟨oc_Deed_reads_field, od_Deed_reads_field, .func (PySem.W.fnOf "reads_field" "Deed.reads_field" (defArgs s_Deed_reads_field) (defBody s_Deed_reads_field) (defScope s_Deed_reads_field) .none kV_Deed_reads_field dc_Deed_reads_field pm_Deed_reads_field an_Deed_reads_field cd_Deed_reads_field ct_Deed_reads_field), sl_Deed_reads_field⟩)
    (c_Deed_reads_field : PySem.W.codeIn K cd_Deed_reads_field "Deed.reads_field" = true)
    (k_Deed_reads_field : PySem.W.keepIn K (.ref f_Deed_reads_field) = true)
    (a_Deed_changes_rows : PySem.W.findIn K (.ref C_Deed) "changes_rows" = some (some (.ref f_Deed_changes_rows)))
    (i_Deed_changes_rows : PySem.W.isFn K (.ref f_Deed_changes_rows) = true)
    (l_Deed_changes_rows : K.lookup f_Deed_changes_rows = some ⟨oc_Deed_changes_rows, od_Deed_changes_rows, .func (PySem.W.fnOf "changes_rows" "Deed.changes_rows" (defArgs s_Deed_changes_rows) (defBody s_Deed_changes_rows) (defScope s_Deed_changes_rows) .none kV_Deed_changes_rows dc_Deed_changes_rows pm_Deed_changes_rows an_Deed_changes_rows cd_Deed_changes_rows ct_Deed_changes_rows), sl_Deed_changes_rows⟩)
    (c_Deed_changes_rows : PySem.W.codeIn K cd_Deed_changes_rows "Deed.changes_rows" = true)
    (k_Deed_changes_rows : PySem.W.keepIn K (.ref f_Deed_changes_rows) = true)
    (a_read_field : PySem.W.nsIn K mainGlobals "read_field" = some (some (.ref f_read_field)))
    (l_read_field : K.lookup f_read_field = some ⟨oc_read_field, od_read_field, .func (PySem.W.fnOf "read_field" "read_field" (defArgs s_read_field) (defBody s_read_field) (defScope s_read_field) .none kV_read_field dc_read_field pm_read_field an_read_field cd_read_field ct_read_field), sl_read_field⟩)
    (c_read_field : PySem.W.codeIn K cd_read_field "read_field" = true)
    (k_read_field : PySem.W.keepIn K (.ref f_read_field) = true)
    (a_read_value : PySem.W.nsIn K mainGlobals "read_value" = some (some (.ref f_read_value)))
    (l_read_value : K.lookup f_read_value = some ⟨oc_read_value, od_read_value, .func (PySem.W.fnOf "read_value" "read_value" (defArgs s_read_value) (defBody s_read_value) (defScope s_read_value) .none kV_read_value dc_read_value pm_read_value an_read_value cd_read_value ct_read_value), sl_read_value⟩)
    (c_read_value : PySem.W.codeIn K cd_read_value "read_value" = true)
    (k_read_value : PySem.W.keepIn K (.ref f_read_value) = true)
    (a_read_deed : PySem.W.nsIn K mainGlobals "read_deed" = some (some (.ref f_read_deed)))
    (l_read_deed : K.lookup f_read_deed = some ⟨oc_read_deed, od_read_deed, .func (PySem.W.fnOf "read_deed" "read_deed" (defArgs s_read_deed) (defBody s_read_deed) (defScope s_read_deed) .none kV_read_deed dc_read_deed pm_read_deed an_read_deed cd_read_deed ct_read_deed), sl_read_deed⟩)
    (c_read_deed : PySem.W.codeIn K cd_read_deed "read_deed" = true)
    (k_read_deed : PySem.W.keepIn K (.ref f_read_deed) = true)
    (a_deed_numbers : PySem.W.nsIn K mainGlobals "deed_numbers" = some (some (.ref f_deed_numbers)))
    (l_deed_numbers : K.lookup f_deed_numbers = some ⟨oc_deed_numbers, od_deed_numbers, .func (PySem.W.fnOf "deed_numbers" "deed_numbers" (defArgs s_deed_numbers) (defBody s_deed_numbers) (defScope s_deed_numbers) .none kV_deed_numbers dc_deed_numbers pm_deed_numbers an_deed_numbers cd_deed_numbers ct_deed_numbers), sl_deed_numbers⟩)
    (c_deed_numbers : PySem.W.codeIn K cd_deed_numbers "deed_numbers" = true)
    (k_deed_numbers : PySem.W.keepIn K (.ref f_deed_numbers) = true)
    (a_Reader_init : PySem.W.findIn K (.ref C_Reader) "__init__" = some (some (.ref f_Reader_init)))
    (i_Reader_init : PySem.W.isFn K (.ref f_Reader_init) = true)
    (l_Reader_init : K.lookup f_Reader_init = some ⟨oc_Reader_init, od_Reader_init, .func (PySem.W.fnOf "__init__" "Reader.__init__" (defArgs s_Reader_init) (defBody s_Reader_init) (defScope s_Reader_init) .none kV_Reader_init dc_Reader_init pm_Reader_init an_Reader_init cd_Reader_init ct_Reader_init), sl_Reader_init⟩)
    (c_Reader_init : PySem.W.codeIn K cd_Reader_init "Reader.__init__" = true)
    (k_Reader_init : PySem.W.keepIn K (.ref f_Reader_init) = true)
    (mk_Reader : PySem.W.makesIn K C_Reader = true)
    (kc_Reader : PySem.W.keepIn K (.ref C_Reader) = true)
    (a_Reader_at_end : PySem.W.findIn K (.ref C_Reader) "at_end" = some (some (.ref f_Reader_at_end)))
    (i_Reader_at_end : PySem.W.isFn K (.ref f_Reader_at_end) = true)
    (l_Reader_at_end : K.lookup f_Reader_at_end = some ⟨oc_Reader_at_end, od_Reader_at_end, .func (PySem.W.fnOf "at_end" "Reader.at_end" (defArgs s_Reader_at_end) (defBody s_Reader_at_end) (defScope s_Reader_at_end) .none kV_Reader_at_end dc_Reader_at_end pm_Reader_at_end an_Reader_at_end cd_Reader_at_end ct_Reader_at_end), sl_Reader_at_end⟩)
    (c_Reader_at_end : PySem.W.codeIn K cd_Reader_at_end "Reader.at_end" = true)
    (k_Reader_at_end : PySem.W.keepIn K (.ref f_Reader_at_end) = true)
    (a_Reader_take : PySem.W.findIn K (.ref C_Reader) "take" = some (some (.ref f_Reader_take)))
    (i_Reader_take : PySem.W.isFn K (.ref f_Reader_take) = true)
    (l_Reader_take : K.lookup f_Reader_take = some ⟨oc_Reader_take, od_Reader_take, .func (PySem.W.fnOf "take" "Reader.take" (defArgs s_Reader_take) (defBody s_Reader_take) (defScope s_Reader_take) .none kV_Reader_take dc_Reader_take pm_Reader_take an_Reader_take cd_Reader_take ct_Reader_take), sl_Reader_take⟩)
    (c_Reader_take : PySem.W.codeIn K cd_Reader_take "Reader.take" = true)
    (k_Reader_take : PySem.W.keepIn K (.ref f_Reader_take) = true)
    (a_Reader_take_within : PySem.W.findIn K (.ref C_Reader) "take_within" = some (some (.ref f_Reader_take_within)))
    (i_Reader_take_within : PySem.W.isFn K (.ref f_Reader_take_within) = true)
    (l_Reader_take_within : K.lookup f_Reader_take_within = some ⟨oc_Reader_take_within, od_Reader_take_within, .func (PySem.W.fnOf "take_within" "Reader.take_within" (defArgs s_Reader_take_within) (defBody s_Reader_take_within) (defScope s_Reader_take_within) .none kV_Reader_take_within dc_Reader_take_within pm_Reader_take_within an_Reader_take_within cd_Reader_take_within ct_Reader_take_within), sl_Reader_take_within⟩)
    (c_Reader_take_within : PySem.W.codeIn K cd_Reader_take_within "Reader.take_within" = true)
    (k_Reader_take_within : PySem.W.keepIn K (.ref f_Reader_take_within) = true)
    (a_Reader_take_list : PySem.W.findIn K (.ref C_Reader) "take_list" = some (some (.ref f_Reader_take_list)))
    (i_Reader_take_list : PySem.W.isFn K (.ref f_Reader_take_list) = true)
    (l_Reader_take_list : K.lookup f_Reader_take_list = some ⟨oc_Reader_take_list, od_Reader_take_list, .func (PySem.W.fnOf "take_list" "Reader.take_list" (defArgs s_Reader_take_list) (defBody s_Reader_take_list) (defScope s_Reader_take_list) .none kV_Reader_take_list dc_Reader_take_list pm_Reader_take_list an_Reader_take_list cd_Reader_take_list ct_Reader_take_list), sl_Reader_take_list⟩)
    (c_Reader_take_list : PySem.W.codeIn K cd_Reader_take_list "Reader.take_list" = true)
    (k_Reader_take_list : PySem.W.keepIn K (.ref f_Reader_take_list) = true)
    (a_Reader_finish : PySem.W.findIn K (.ref C_Reader) "finish" = some (some (.ref f_Reader_finish)))
    (i_Reader_finish : PySem.W.isFn K (.ref f_Reader_finish) = true)
    (l_Reader_finish : K.lookup f_Reader_finish = some ⟨oc_Reader_finish, od_Reader_finish, .func (PySem.W.fnOf "finish" "Reader.finish" (defArgs s_Reader_finish) (defBody s_Reader_finish) (defScope s_Reader_finish) .none kV_Reader_finish dc_Reader_finish pm_Reader_finish an_Reader_finish cd_Reader_finish ct_Reader_finish), sl_Reader_finish⟩)
    (c_Reader_finish : PySem.W.codeIn K cd_Reader_finish "Reader.finish" = true)
    (k_Reader_finish : PySem.W.keepIn K (.ref f_Reader_finish) = true)
    (a_Loop_init : PySem.W.findIn K (.ref C_Loop) "__init__" = some (some (.ref f_Loop_init)))
    (i_Loop_init : PySem.W.isFn K (.ref f_Loop_init) = true)
    (l_Loop_init : K.lookup f_Loop_init = some ⟨oc_Loop_init, od_Loop_init, .func (PySem.W.fnOf "__init__" "Loop.__init__" (defArgs s_Loop_init) (defBody s_Loop_init) (defScope s_Loop_init) .none kV_Loop_init dc_Loop_init pm_Loop_init an_Loop_init cd_Loop_init ct_Loop_init), sl_Loop_init⟩)
    (c_Loop_init : PySem.W.codeIn K cd_Loop_init "Loop.__init__" = true)
    (k_Loop_init : PySem.W.keepIn K (.ref f_Loop_init) = true)
    (mk_Loop : PySem.W.makesIn K C_Loop = true)
    (kc_Loop : PySem.W.keepIn K (.ref C_Loop) = true)
    (a_LoopToEnd_init : PySem.W.findIn K (.ref C_LoopToEnd) "__init__" = some (some (.ref f_LoopToEnd_init)))
    (i_LoopToEnd_init : PySem.W.isFn K (.ref f_LoopToEnd_init) = true)
    (l_LoopToEnd_init : K.lookup f_LoopToEnd_init = some ⟨oc_LoopToEnd_init, od_LoopToEnd_init, .func (PySem.W.fnOf "__init__" "LoopToEnd.__init__" (defArgs s_LoopToEnd_init) (defBody s_LoopToEnd_init) (defScope s_LoopToEnd_init) .none kV_LoopToEnd_init dc_LoopToEnd_init pm_LoopToEnd_init an_LoopToEnd_init cd_LoopToEnd_init ct_LoopToEnd_init), sl_LoopToEnd_init⟩)
    (c_LoopToEnd_init : PySem.W.codeIn K cd_LoopToEnd_init "LoopToEnd.__init__" = true)
    (k_LoopToEnd_init : PySem.W.keepIn K (.ref f_LoopToEnd_init) = true)
    (mk_LoopToEnd : PySem.W.makesIn K C_LoopToEnd = true)
    (kc_LoopToEnd : PySem.W.keepIn K (.ref C_LoopToEnd) = true)
    (a_Part_init : PySem.W.findIn K (.ref C_Part) "__init__" = some (some (.ref f_Part_init)))
    (i_Part_init : PySem.W.isFn K (.ref f_Part_init) = true)
    (l_Part_init : K.lookup f_Part_init = some ⟨oc_Part_init, od_Part_init, .func (PySem.W.fnOf "__init__" "Part.__init__" (defArgs s_Part_init) (defBody s_Part_init) (defScope s_Part_init) .none kV_Part_init dc_Part_init pm_Part_init an_Part_init cd_Part_init ct_Part_init), sl_Part_init⟩)
    (c_Part_init : PySem.W.codeIn K cd_Part_init "Part.__init__" = true)
    (k_Part_init : PySem.W.keepIn K (.ref f_Part_init) = true)
    (mk_Part : PySem.W.makesIn K C_Part = true)
    (kc_Part : PySem.W.keepIn K (.ref C_Part) = true)
    (a_Program_init : PySem.W.findIn K (.ref C_Program) "__init__" = some (some (.ref f_Program_init)))
    (i_Program_init : PySem.W.isFn K (.ref f_Program_init) = true)
    (l_Program_init : K.lookup f_Program_init = some ⟨oc_Program_init, od_Program_init, .func (PySem.W.fnOf "__init__" "Program.__init__" (defArgs s_Program_init) (defBody s_Program_init) (defScope s_Program_init) .none kV_Program_init dc_Program_init pm_Program_init an_Program_init cd_Program_init ct_Program_init), sl_Program_init⟩)
    (c_Program_init : PySem.W.codeIn K cd_Program_init "Program.__init__" = true)
    (k_Program_init : PySem.W.keepIn K (.ref f_Program_init) = true)
    (mk_Program : PySem.W.makesIn K C_Program = true)
    (kc_Program : PySem.W.keepIn K (.ref C_Program) = true)
    (a_read_program : PySem.W.nsIn K mainGlobals "read_program" = some (some (.ref f_read_program)))
    (l_read_program : K.lookup f_read_program = some ⟨oc_read_program, od_read_program, .func (PySem.W.fnOf "read_program" "read_program" (defArgs s_read_program) (defBody s_read_program) (defScope s_read_program) .none kV_read_program dc_read_program pm_read_program an_read_program cd_read_program ct_read_program), sl_read_program⟩)
    (c_read_program : PySem.W.codeIn K cd_read_program "read_program" = true)
    (k_read_program : PySem.W.keepIn K (.ref f_read_program) = true)
    (a_numbers_joined : PySem.W.nsIn K mainGlobals "numbers_joined" = some (some (.ref f_numbers_joined)))
    (l_numbers_joined : K.lookup f_numbers_joined = some ⟨oc_numbers_joined, od_numbers_joined, .func (PySem.W.fnOf "numbers_joined" "numbers_joined" (defArgs s_numbers_joined) (defBody s_numbers_joined) (defScope s_numbers_joined) .none kV_numbers_joined dc_numbers_joined pm_numbers_joined an_numbers_joined cd_numbers_joined ct_numbers_joined), sl_numbers_joined⟩)
    (c_numbers_joined : PySem.W.codeIn K cd_numbers_joined "numbers_joined" = true)
    (k_numbers_joined : PySem.W.keepIn K (.ref f_numbers_joined) = true)
    (a_read_row : PySem.W.nsIn K mainGlobals "read_row" = some (some (.ref f_read_row)))
    (l_read_row : K.lookup f_read_row = some ⟨oc_read_row, od_read_row, .func (PySem.W.fnOf "read_row" "read_row" (defArgs s_read_row) (defBody s_read_row) (defScope s_read_row) .none kV_read_row dc_read_row pm_read_row an_read_row cd_read_row ct_read_row), sl_read_row⟩)
    (c_read_row : PySem.W.codeIn K cd_read_row "read_row" = true)
    (k_read_row : PySem.W.keepIn K (.ref f_read_row) = true)
    (a_read_piece : PySem.W.nsIn K mainGlobals "read_piece" = some (some (.ref f_read_piece)))
    (l_read_piece : K.lookup f_read_piece = some ⟨oc_read_piece, od_read_piece, .func (PySem.W.fnOf "read_piece" "read_piece" (defArgs s_read_piece) (defBody s_read_piece) (defScope s_read_piece) .none kV_read_piece dc_read_piece pm_read_piece an_read_piece cd_read_piece ct_read_piece), sl_read_piece⟩)
    (c_read_piece : PySem.W.codeIn K cd_read_piece "read_piece" = true)
    (k_read_piece : PySem.W.keepIn K (.ref f_read_piece) = true)
    (a_read_head : PySem.W.nsIn K mainGlobals "read_head" = some (some (.ref f_read_head)))
    (l_read_head : K.lookup f_read_head = some ⟨oc_read_head, od_read_head, .func (PySem.W.fnOf "read_head" "read_head" (defArgs s_read_head) (defBody s_read_head) (defScope s_read_head) .none kV_read_head dc_read_head pm_read_head an_read_head cd_read_head ct_read_head), sl_read_head⟩)
    (c_read_head : PySem.W.codeIn K cd_read_head "read_head" = true)
    (k_read_head : PySem.W.keepIn K (.ref f_read_head) = true)
    (a_read_stepped_deed : PySem.W.nsIn K mainGlobals "read_stepped_deed" = some (some (.ref f_read_stepped_deed)))
    (l_read_stepped_deed : K.lookup f_read_stepped_deed = some ⟨oc_read_stepped_deed, od_read_stepped_deed, .func (PySem.W.fnOf "read_stepped_deed" "read_stepped_deed" (defArgs s_read_stepped_deed) (defBody s_read_stepped_deed) (defScope s_read_stepped_deed) .none kV_read_stepped_deed dc_read_stepped_deed pm_read_stepped_deed an_read_stepped_deed cd_read_stepped_deed ct_read_stepped_deed), sl_read_stepped_deed⟩)
    (c_read_stepped_deed : PySem.W.codeIn K cd_read_stepped_deed "read_stepped_deed" = true)
    (k_read_stepped_deed : PySem.W.keepIn K (.ref f_read_stepped_deed) = true)
    (a_depth_of : PySem.W.nsIn K mainGlobals "depth_of" = some (some (.ref f_depth_of)))
    (l_depth_of : K.lookup f_depth_of = some ⟨oc_depth_of, od_depth_of, .func (PySem.W.fnOf "depth_of" "depth_of" (defArgs s_depth_of) (defBody s_depth_of) (defScope s_depth_of) .none kV_depth_of dc_depth_of pm_depth_of an_depth_of cd_depth_of ct_depth_of), sl_depth_of⟩)
    (c_depth_of : PySem.W.codeIn K cd_depth_of "depth_of" = true)
    (k_depth_of : PySem.W.keepIn K (.ref f_depth_of) = true)
    (a_rest_behind_row : PySem.W.nsIn K mainGlobals "rest_behind_row" = some (some (.ref f_rest_behind_row)))
    (l_rest_behind_row : K.lookup f_rest_behind_row = some ⟨oc_rest_behind_row, od_rest_behind_row, .func (PySem.W.fnOf "rest_behind_row" "rest_behind_row" (defArgs s_rest_behind_row) (defBody s_rest_behind_row) (defScope s_rest_behind_row) .none kV_rest_behind_row dc_rest_behind_row pm_rest_behind_row an_rest_behind_row cd_rest_behind_row ct_rest_behind_row), sl_rest_behind_row⟩)
    (c_rest_behind_row : PySem.W.codeIn K cd_rest_behind_row "rest_behind_row" = true)
    (k_rest_behind_row : PySem.W.keepIn K (.ref f_rest_behind_row) = true)
    (a_rest_behind_piece : PySem.W.nsIn K mainGlobals "rest_behind_piece" = some (some (.ref f_rest_behind_piece)))
    (l_rest_behind_piece : K.lookup f_rest_behind_piece = some ⟨oc_rest_behind_piece, od_rest_behind_piece, .func (PySem.W.fnOf "rest_behind_piece" "rest_behind_piece" (defArgs s_rest_behind_piece) (defBody s_rest_behind_piece) (defScope s_rest_behind_piece) .none kV_rest_behind_piece dc_rest_behind_piece pm_rest_behind_piece an_rest_behind_piece cd_rest_behind_piece ct_rest_behind_piece), sl_rest_behind_piece⟩)
    (c_rest_behind_piece : PySem.W.codeIn K cd_rest_behind_piece "rest_behind_piece" = true)
    (k_rest_behind_piece : PySem.W.keepIn K (.ref f_rest_behind_piece) = true)
    (a_rest_behind_deed : PySem.W.nsIn K mainGlobals "rest_behind_deed" = some (some (.ref f_rest_behind_deed)))
    (l_rest_behind_deed : K.lookup f_rest_behind_deed = some ⟨oc_rest_behind_deed, od_rest_behind_deed, .func (PySem.W.fnOf "rest_behind_deed" "rest_behind_deed" (defArgs s_rest_behind_deed) (defBody s_rest_behind_deed) (defScope s_rest_behind_deed) .none kV_rest_behind_deed dc_rest_behind_deed pm_rest_behind_deed an_rest_behind_deed cd_rest_behind_deed ct_rest_behind_deed), sl_rest_behind_deed⟩)
    (c_rest_behind_deed : PySem.W.codeIn K cd_rest_behind_deed "rest_behind_deed" = true)
    (k_rest_behind_deed : PySem.W.keepIn K (.ref f_rest_behind_deed) = true)
    (a_comes_nearer : PySem.W.nsIn K mainGlobals "comes_nearer" = some (some (.ref f_comes_nearer)))
    (l_comes_nearer : K.lookup f_comes_nearer = some ⟨oc_comes_nearer, od_comes_nearer, .func (PySem.W.fnOf "comes_nearer" "comes_nearer" (defArgs s_comes_nearer) (defBody s_comes_nearer) (defScope s_comes_nearer) .none kV_comes_nearer dc_comes_nearer pm_comes_nearer an_comes_nearer cd_comes_nearer ct_comes_nearer), sl_comes_nearer⟩)
    (c_comes_nearer : PySem.W.codeIn K cd_comes_nearer "comes_nearer" = true)
    (k_comes_nearer : PySem.W.keepIn K (.ref f_comes_nearer) = true)
    (a_first_endless : PySem.W.nsIn K mainGlobals "first_endless" = some (some (.ref f_first_endless)))
    (l_first_endless : K.lookup f_first_endless = some ⟨oc_first_endless, od_first_endless, .func (PySem.W.fnOf "first_endless" "first_endless" (defArgs s_first_endless) (defBody s_first_endless) (defScope s_first_endless) .none kV_first_endless dc_first_endless pm_first_endless an_first_endless cd_first_endless ct_first_endless), sl_first_endless⟩)
    (c_first_endless : PySem.W.codeIn K cd_first_endless "first_endless" = true)
    (k_first_endless : PySem.W.keepIn K (.ref f_first_endless) = true)
    (a_most_deeds : PySem.W.nsIn K mainGlobals "most_deeds" = some (some (.ref f_most_deeds)))
    (l_most_deeds : K.lookup f_most_deeds = some ⟨oc_most_deeds, od_most_deeds, .func (PySem.W.fnOf "most_deeds" "most_deeds" (defArgs s_most_deeds) (defBody s_most_deeds) (defScope s_most_deeds) .none kV_most_deeds dc_most_deeds pm_most_deeds an_most_deeds cd_most_deeds ct_most_deeds), sl_most_deeds⟩)
    (c_most_deeds : PySem.W.codeIn K cd_most_deeds "most_deeds" = true)
    (k_most_deeds : PySem.W.keepIn K (.ref f_most_deeds) = true)
    (a_most_deeds_of_piece : PySem.W.nsIn K mainGlobals "most_deeds_of_piece" = some (some (.ref f_most_deeds_of_piece)))
    (l_most_deeds_of_piece : K.lookup f_most_deeds_of_piece = some ⟨oc_most_deeds_of_piece, od_most_deeds_of_piece, .func (PySem.W.fnOf "most_deeds_of_piece" "most_deeds_of_piece" (defArgs s_most_deeds_of_piece) (defBody s_most_deeds_of_piece) (defScope s_most_deeds_of_piece) .none kV_most_deeds_of_piece dc_most_deeds_of_piece pm_most_deeds_of_piece an_most_deeds_of_piece cd_most_deeds_of_piece ct_most_deeds_of_piece), sl_most_deeds_of_piece⟩)
    (c_most_deeds_of_piece : PySem.W.codeIn K cd_most_deeds_of_piece "most_deeds_of_piece" = true)
    (k_most_deeds_of_piece : PySem.W.keepIn K (.ref f_most_deeds_of_piece) = true)
    (a_is_accepted : PySem.W.nsIn K mainGlobals "is_accepted" = some (some (.ref f_is_accepted)))
    (l_is_accepted : K.lookup f_is_accepted = some ⟨oc_is_accepted, od_is_accepted, .func (PySem.W.fnOf "is_accepted" "is_accepted" (defArgs s_is_accepted) (defBody s_is_accepted) (defScope s_is_accepted) .none kV_is_accepted dc_is_accepted pm_is_accepted an_is_accepted cd_is_accepted ct_is_accepted), sl_is_accepted⟩)
    (c_is_accepted : PySem.W.codeIn K cd_is_accepted "is_accepted" = true)
    (k_is_accepted : PySem.W.keepIn K (.ref f_is_accepted) = true)
    (a_Table_init : PySem.W.findIn K (.ref C_Table) "__init__" = some (some (.ref f_Table_init)))
    (i_Table_init : PySem.W.isFn K (.ref f_Table_init) = true)
    (l_Table_init : K.lookup f_Table_init = some ⟨oc_Table_init, od_Table_init, .func (PySem.W.fnOf "__init__" "Table.__init__" (defArgs s_Table_init) (defBody s_Table_init) (defScope s_Table_init) .none kV_Table_init dc_Table_init pm_Table_init an_Table_init cd_Table_init ct_Table_init), sl_Table_init⟩)
    (c_Table_init : PySem.W.codeIn K cd_Table_init "Table.__init__" = true)
    (k_Table_init : PySem.W.keepIn K (.ref f_Table_init) = true)
    (mk_Table : PySem.W.makesIn K C_Table = true)
    (kc_Table : PySem.W.keepIn K (.ref C_Table) = true)
    (a_Table_has_row_here : PySem.W.findIn K (.ref C_Table) "has_row_here" = some (some (.ref f_Table_has_row_here)))
    (i_Table_has_row_here : PySem.W.isFn K (.ref f_Table_has_row_here) = true)
    (l_Table_has_row_here : K.lookup f_Table_has_row_here = some ⟨oc_Table_has_row_here, od_Table_has_row_here, .func (PySem.W.fnOf "has_row_here" "Table.has_row_here" (defArgs s_Table_has_row_here) (defBody s_Table_has_row_here) (defScope s_Table_has_row_here) .none kV_Table_has_row_here dc_Table_has_row_here pm_Table_has_row_here an_Table_has_row_here cd_Table_has_row_here ct_Table_has_row_here), sl_Table_has_row_here⟩)
    (c_Table_has_row_here : PySem.W.codeIn K cd_Table_has_row_here "Table.has_row_here" = true)
    (k_Table_has_row_here : PySem.W.keepIn K (.ref f_Table_has_row_here) = true)
    (a_Table_copied : PySem.W.findIn K (.ref C_Table) "copied" = some (some (.ref f_Table_copied)))
    (i_Table_copied : PySem.W.isFn K (.ref f_Table_copied) = true)
    (l_Table_copied : K.lookup f_Table_copied = some ⟨oc_Table_copied, od_Table_copied, .func (PySem.W.fnOf "copied" "Table.copied" (defArgs s_Table_copied) (defBody s_Table_copied) (defScope s_Table_copied) .none kV_Table_copied dc_Table_copied pm_Table_copied an_Table_copied cd_Table_copied ct_Table_copied), sl_Table_copied⟩)
    (c_Table_copied : PySem.W.codeIn K cd_Table_copied "Table.copied" = true)
    (k_Table_copied : PySem.W.keepIn K (.ref f_Table_copied) = true)
    (a_Table_as_numbers : PySem.W.findIn K (.ref C_Table) "as_numbers" = some (some (.ref f_Table_as_numbers)))
    (i_Table_as_numbers : PySem.W.isFn K (.ref f_Table_as_numbers) = true)
    (l_Table_as_numbers : K.lookup f_Table_as_numbers = some ⟨oc_Table_as_numbers, od_Table_as_numbers, .func (PySem.W.fnOf "as_numbers" "Table.as_numbers" (defArgs s_Table_as_numbers) (defBody s_Table_as_numbers) (defScope s_Table_as_numbers) .none kV_Table_as_numbers dc_Table_as_numbers pm_Table_as_numbers an_Table_as_numbers cd_Table_as_numbers ct_Table_as_numbers), sl_Table_as_numbers⟩)
    (c_Table_as_numbers : PySem.W.codeIn K cd_Table_as_numbers "Table.as_numbers" = true)
    (k_Table_as_numbers : PySem.W.keepIn K (.ref f_Table_as_numbers) = true)
    (a_read_table : PySem.W.nsIn K mainGlobals "read_table" = some (some (.ref f_read_table)))
    (l_read_table : K.lookup f_read_table = some ⟨oc_read_table, od_read_table, .func (PySem.W.fnOf "read_table" "read_table" (defArgs s_read_table) (defBody s_read_table) (defScope s_read_table) .none kV_read_table dc_read_table pm_read_table an_read_table cd_read_table ct_read_table), sl_read_table⟩)
    (c_read_table : PySem.W.codeIn K cd_read_table "read_table" = true)
    (k_read_table : PySem.W.keepIn K (.ref f_read_table) = true)
    (a_places_changed : PySem.W.nsIn K mainGlobals "places_changed" = some (some (.ref f_places_changed)))
    (l_places_changed : K.lookup f_places_changed = some ⟨oc_places_changed, od_places_changed, .func (PySem.W.fnOf "places_changed" "places_changed" (defArgs s_places_changed) (defBody s_places_changed) (defScope s_places_changed) .none kV_places_changed dc_places_changed pm_places_changed an_places_changed cd_places_changed ct_places_changed), sl_places_changed⟩)
    (c_places_changed : PySem.W.codeIn K cd_places_changed "places_changed" = true)
    (k_places_changed : PySem.W.keepIn K (.ref f_places_changed) = true)
    (a_do_deed : PySem.W.nsIn K mainGlobals "do_deed" = some (some (.ref f_do_deed)))
    (l_do_deed : K.lookup f_do_deed = some ⟨oc_do_deed, od_do_deed, .func (PySem.W.fnOf "do_deed" "do_deed" (defArgs s_do_deed) (defBody s_do_deed) (defScope s_do_deed) .none kV_do_deed dc_do_deed pm_do_deed an_do_deed cd_do_deed ct_do_deed), sl_do_deed⟩)
    (c_do_deed : PySem.W.codeIn K cd_do_deed "do_deed" = true)
    (k_do_deed : PySem.W.keepIn K (.ref f_do_deed) = true)
    (a_go_up : PySem.W.nsIn K mainGlobals "go_up" = some (some (.ref f_go_up)))
    (l_go_up : K.lookup f_go_up = some ⟨oc_go_up, od_go_up, .func (PySem.W.fnOf "go_up" "go_up" (defArgs s_go_up) (defBody s_go_up) (defScope s_go_up) .none kV_go_up dc_go_up pm_go_up an_go_up cd_go_up ct_go_up), sl_go_up⟩)
    (c_go_up : PySem.W.codeIn K cd_go_up "go_up" = true)
    (k_go_up : PySem.W.keepIn K (.ref f_go_up) = true)
    (a_find_below : PySem.W.nsIn K mainGlobals "find_below" = some (some (.ref f_find_below)))
    (l_find_below : K.lookup f_find_below = some ⟨oc_find_below, od_find_below, .func (PySem.W.fnOf "find_below" "find_below" (defArgs s_find_below) (defBody s_find_below) (defScope s_find_below) .none kV_find_below dc_find_below pm_find_below an_find_below cd_find_below ct_find_below), sl_find_below⟩)
    (c_find_below : PySem.W.codeIn K cd_find_below "find_below" = true)
    (k_find_below : PySem.W.keepIn K (.ref f_find_below) = true)
    (a_do_with_field : PySem.W.nsIn K mainGlobals "do_with_field" = some (some (.ref f_do_with_field)))
    (l_do_with_field : K.lookup f_do_with_field = some ⟨oc_do_with_field, od_do_with_field, .func (PySem.W.fnOf "do_with_field" "do_with_field" (defArgs s_do_with_field) (defBody s_do_with_field) (defScope s_do_with_field) .none kV_do_with_field dc_do_with_field pm_do_with_field an_do_with_field cd_do_with_field ct_do_with_field), sl_do_with_field⟩)
    (c_do_with_field : PySem.W.codeIn K cd_do_with_field "do_with_field" = true)
    (k_do_with_field : PySem.W.keepIn K (.ref f_do_with_field) = true)
    (a_put_value : PySem.W.nsIn K mainGlobals "put_value" = some (some (.ref f_put_value)))
    (l_put_value : K.lookup f_put_value = some ⟨oc_put_value, od_put_value, .func (PySem.W.fnOf "put_value" "put_value" (defArgs s_put_value) (defBody s_put_value) (defScope s_put_value) .none kV_put_value dc_put_value pm_put_value an_put_value cd_put_value ct_put_value), sl_put_value⟩)
    (c_put_value : PySem.W.codeIn K cd_put_value "put_value" = true)
    (k_put_value : PySem.W.keepIn K (.ref f_put_value) = true)
    (a_do_with_row : PySem.W.nsIn K mainGlobals "do_with_row" = some (some (.ref f_do_with_row)))
    (l_do_with_row : K.lookup f_do_with_row = some ⟨oc_do_with_row, od_do_with_row, .func (PySem.W.fnOf "do_with_row" "do_with_row" (defArgs s_do_with_row) (defBody s_do_with_row) (defScope s_do_with_row) .none kV_do_with_row dc_do_with_row pm_do_with_row an_do_with_row cd_do_with_row ct_do_with_row), sl_do_with_row⟩)
    (c_do_with_row : PySem.W.codeIn K cd_do_with_row "do_with_row" = true)
    (k_do_with_row : PySem.W.keepIn K (.ref f_do_with_row) = true)
    (a_Run_init : PySem.W.findIn K (.ref C_Run) "__init__" = some (some (.ref f_Run_init)))
    (i_Run_init : PySem.W.isFn K (.ref f_Run_init) = true)
    (l_Run_init : K.lookup f_Run_init = some ⟨oc_Run_init, od_Run_init, .func (PySem.W.fnOf "__init__" "Run.__init__" (defArgs s_Run_init) (defBody s_Run_init) (defScope s_Run_init) .none kV_Run_init dc_Run_init pm_Run_init an_Run_init cd_Run_init ct_Run_init), sl_Run_init⟩)
    (c_Run_init : PySem.W.codeIn K cd_Run_init "Run.__init__" = true)
    (k_Run_init : PySem.W.keepIn K (.ref f_Run_init) = true)
    (mk_Run : PySem.W.makesIn K C_Run = true)
    (kc_Run : PySem.W.keepIn K (.ref C_Run) = true)
    (a_Run_do_row : PySem.W.findIn K (.ref C_Run) "do_row" = some (some (.ref f_Run_do_row)))
    (i_Run_do_row : PySem.W.isFn K (.ref f_Run_do_row) = true)
    (l_Run_do_row : K.lookup f_Run_do_row = some ⟨oc_Run_do_row, od_Run_do_row, .func (PySem.W.fnOf "do_row" "Run.do_row" (defArgs s_Run_do_row) (defBody s_Run_do_row) (defScope s_Run_do_row) .none kV_Run_do_row dc_Run_do_row pm_Run_do_row an_Run_do_row cd_Run_do_row ct_Run_do_row), sl_Run_do_row⟩)
    (c_Run_do_row : PySem.W.codeIn K cd_Run_do_row "Run.do_row" = true)
    (k_Run_do_row : PySem.W.keepIn K (.ref f_Run_do_row) = true)
    (a_Run_do_piece : PySem.W.findIn K (.ref C_Run) "do_piece" = some (some (.ref f_Run_do_piece)))
    (i_Run_do_piece : PySem.W.isFn K (.ref f_Run_do_piece) = true)
    (l_Run_do_piece : K.lookup f_Run_do_piece = some ⟨oc_Run_do_piece, od_Run_do_piece, .func (PySem.W.fnOf "do_piece" "Run.do_piece" (defArgs s_Run_do_piece) (defBody s_Run_do_piece) (defScope s_Run_do_piece) .none kV_Run_do_piece dc_Run_do_piece pm_Run_do_piece an_Run_do_piece cd_Run_do_piece ct_Run_do_piece), sl_Run_do_piece⟩)
    (c_Run_do_piece : PySem.W.codeIn K cd_Run_do_piece "Run.do_piece" = true)
    (k_Run_do_piece : PySem.W.keepIn K (.ref f_Run_do_piece) = true)
    (a_Run_do_counted : PySem.W.findIn K (.ref C_Run) "do_counted" = some (some (.ref f_Run_do_counted)))
    (i_Run_do_counted : PySem.W.isFn K (.ref f_Run_do_counted) = true)
    (l_Run_do_counted : K.lookup f_Run_do_counted = some ⟨oc_Run_do_counted, od_Run_do_counted, .func (PySem.W.fnOf "do_counted" "Run.do_counted" (defArgs s_Run_do_counted) (defBody s_Run_do_counted) (defScope s_Run_do_counted) .none kV_Run_do_counted dc_Run_do_counted pm_Run_do_counted an_Run_do_counted cd_Run_do_counted ct_Run_do_counted), sl_Run_do_counted⟩)
    (c_Run_do_counted : PySem.W.codeIn K cd_Run_do_counted "Run.do_counted" = true)
    (k_Run_do_counted : PySem.W.keepIn K (.ref f_Run_do_counted) = true)
    (a_Run_do_rounds : PySem.W.findIn K (.ref C_Run) "do_rounds" = some (some (.ref f_Run_do_rounds)))
    (i_Run_do_rounds : PySem.W.isFn K (.ref f_Run_do_rounds) = true)
    (l_Run_do_rounds : K.lookup f_Run_do_rounds = some ⟨oc_Run_do_rounds, od_Run_do_rounds, .func (PySem.W.fnOf "do_rounds" "Run.do_rounds" (defArgs s_Run_do_rounds) (defBody s_Run_do_rounds) (defScope s_Run_do_rounds) .none kV_Run_do_rounds dc_Run_do_rounds pm_Run_do_rounds an_Run_do_rounds cd_Run_do_rounds ct_Run_do_rounds), sl_Run_do_rounds⟩)
    (c_Run_do_rounds : PySem.W.codeIn K cd_Run_do_rounds "Run.do_rounds" = true)
    (k_Run_do_rounds : PySem.W.keepIn K (.ref f_Run_do_rounds) = true)
    (a_Run_do_to_end : PySem.W.findIn K (.ref C_Run) "do_to_end" = some (some (.ref f_Run_do_to_end)))
    (i_Run_do_to_end : PySem.W.isFn K (.ref f_Run_do_to_end) = true)
    (l_Run_do_to_end : K.lookup f_Run_do_to_end = some ⟨oc_Run_do_to_end, od_Run_do_to_end, .func (PySem.W.fnOf "do_to_end" "Run.do_to_end" (defArgs s_Run_do_to_end) (defBody s_Run_do_to_end) (defScope s_Run_do_to_end) .none kV_Run_do_to_end dc_Run_do_to_end pm_Run_do_to_end an_Run_do_to_end cd_Run_do_to_end ct_Run_do_to_end), sl_Run_do_to_end⟩)
    (c_Run_do_to_end : PySem.W.codeIn K cd_Run_do_to_end "Run.do_to_end" = true)
    (k_Run_do_to_end : PySem.W.keepIn K (.ref f_Run_do_to_end) = true)
    (a_Run_is_called_for : PySem.W.findIn K (.ref C_Run) "is_called_for" = some (some (.ref f_Run_is_called_for)))
    (i_Run_is_called_for : PySem.W.isFn K (.ref f_Run_is_called_for) = true)
    (l_Run_is_called_for : K.lookup f_Run_is_called_for = some ⟨oc_Run_is_called_for, od_Run_is_called_for, .func (PySem.W.fnOf "is_called_for" "Run.is_called_for" (defArgs s_Run_is_called_for) (defBody s_Run_is_called_for) (defScope s_Run_is_called_for) .none kV_Run_is_called_for dc_Run_is_called_for pm_Run_is_called_for an_Run_is_called_for cd_Run_is_called_for ct_Run_is_called_for), sl_Run_is_called_for⟩)
    (c_Run_is_called_for : PySem.W.codeIn K cd_Run_is_called_for "Run.is_called_for" = true)
    (k_Run_is_called_for : PySem.W.keepIn K (.ref f_Run_is_called_for) = true)
    (a_run_row : PySem.W.nsIn K mainGlobals "run_row" = some (some (.ref f_run_row)))
    (l_run_row : K.lookup f_run_row = some ⟨oc_run_row, od_run_row, .func (PySem.W.fnOf "run_row" "run_row" (defArgs s_run_row) (defBody s_run_row) (defScope s_run_row) .none kV_run_row dc_run_row pm_run_row an_run_row cd_run_row ct_run_row), sl_run_row⟩)
    (c_run_row : PySem.W.codeIn K cd_run_row "run_row" = true)
    (k_run_row : PySem.W.keepIn K (.ref f_run_row) = true)
    (a_read_recording : PySem.W.nsIn K mainGlobals "read_recording" = some (some (.ref f_read_recording)))
    (l_read_recording : K.lookup f_read_recording = some ⟨oc_read_recording, od_read_recording, .func (PySem.W.fnOf "read_recording" "read_recording" (defArgs s_read_recording) (defBody s_read_recording) (defScope s_read_recording) .none kV_read_recording dc_read_recording pm_read_recording an_read_recording cd_read_recording ct_read_recording), sl_read_recording⟩)
    (c_read_recording : PySem.W.codeIn K cd_read_recording "read_recording" = true)
    (k_read_recording : PySem.W.keepIn K (.ref f_read_recording) = true)
    (a_recording_numbers : PySem.W.nsIn K mainGlobals "recording_numbers" = some (some (.ref f_recording_numbers)))
    (l_recording_numbers : K.lookup f_recording_numbers = some ⟨oc_recording_numbers, od_recording_numbers, .func (PySem.W.fnOf "recording_numbers" "recording_numbers" (defArgs s_recording_numbers) (defBody s_recording_numbers) (defScope s_recording_numbers) .none kV_recording_numbers dc_recording_numbers pm_recording_numbers an_recording_numbers cd_recording_numbers ct_recording_numbers), sl_recording_numbers⟩)
    (c_recording_numbers : PySem.W.codeIn K cd_recording_numbers "recording_numbers" = true)
    (k_recording_numbers : PySem.W.keepIn K (.ref f_recording_numbers) = true)
    (a_cleaned : PySem.W.nsIn K mainGlobals "cleaned" = some (some (.ref f_cleaned)))
    (l_cleaned : K.lookup f_cleaned = some ⟨oc_cleaned, od_cleaned, .func (PySem.W.fnOf "cleaned" "cleaned" (defArgs s_cleaned) (defBody s_cleaned) (defScope s_cleaned) .none kV_cleaned dc_cleaned pm_cleaned an_cleaned cd_cleaned ct_cleaned), sl_cleaned⟩)
    (c_cleaned : PySem.W.codeIn K cd_cleaned "cleaned" = true)
    (k_cleaned : PySem.W.keepIn K (.ref f_cleaned) = true)
    (a_without_first_slip : PySem.W.nsIn K mainGlobals "without_first_slip" = some (some (.ref f_without_first_slip)))
    (l_without_first_slip : K.lookup f_without_first_slip = some ⟨oc_without_first_slip, od_without_first_slip, .func (PySem.W.fnOf "without_first_slip" "without_first_slip" (defArgs s_without_first_slip) (defBody s_without_first_slip) (defScope s_without_first_slip) .none kV_without_first_slip dc_without_first_slip pm_without_first_slip an_without_first_slip cd_without_first_slip ct_without_first_slip), sl_without_first_slip⟩)
    (c_without_first_slip : PySem.W.codeIn K cd_without_first_slip "without_first_slip" = true)
    (k_without_first_slip : PySem.W.keepIn K (.ref f_without_first_slip) = true)
    (a_become : PySem.W.nsIn K mainGlobals "become" = some (some (.ref f_become)))
    (l_become : K.lookup f_become = some ⟨oc_become, od_become, .func (PySem.W.fnOf "become" "become" (defArgs s_become) (defBody s_become) (defScope s_become) .none kV_become dc_become pm_become an_become cd_become ct_become), sl_become⟩)
    (c_become : PySem.W.codeIn K cd_become "become" = true)
    (k_become : PySem.W.keepIn K (.ref f_become) = true)
    (a_become_of_one_field : PySem.W.nsIn K mainGlobals "become_of_one_field" = some (some (.ref f_become_of_one_field)))
    (l_become_of_one_field : K.lookup f_become_of_one_field = some ⟨oc_become_of_one_field, od_become_of_one_field, .func (PySem.W.fnOf "become_of_one_field" "become_of_one_field" (defArgs s_become_of_one_field) (defBody s_become_of_one_field) (defScope s_become_of_one_field) .none kV_become_of_one_field dc_become_of_one_field pm_become_of_one_field an_become_of_one_field cd_become_of_one_field ct_become_of_one_field), sl_become_of_one_field⟩)
    (c_become_of_one_field : PySem.W.codeIn K cd_become_of_one_field "become_of_one_field" = true)
    (k_become_of_one_field : PySem.W.keepIn K (.ref f_become_of_one_field) = true)
    (a_deed_with : PySem.W.nsIn K mainGlobals "deed_with" = some (some (.ref f_deed_with)))
    (l_deed_with : K.lookup f_deed_with = some ⟨oc_deed_with, od_deed_with, .func (PySem.W.fnOf "deed_with" "deed_with" (defArgs s_deed_with) (defBody s_deed_with) (defScope s_deed_with) .none kV_deed_with dc_deed_with pm_deed_with an_deed_with cd_deed_with ct_deed_with), sl_deed_with⟩)
    (c_deed_with : PySem.W.codeIn K cd_deed_with "deed_with" = true)
    (k_deed_with : PySem.W.keepIn K (.ref f_deed_with) = true)
    (a_fields_written : PySem.W.nsIn K mainGlobals "fields_written" = some (some (.ref f_fields_written)))
    (l_fields_written : K.lookup f_fields_written = some ⟨oc_fields_written, od_fields_written, .func (PySem.W.fnOf "fields_written" "fields_written" (defArgs s_fields_written) (defBody s_fields_written) (defScope s_fields_written) .none kV_fields_written dc_fields_written pm_fields_written an_fields_written cd_fields_written ct_fields_written), sl_fields_written⟩)
    (c_fields_written : PySem.W.codeIn K cd_fields_written "fields_written" = true)
    (k_fields_written : PySem.W.keepIn K (.ref f_fields_written) = true)
    (a_fields_read : PySem.W.nsIn K mainGlobals "fields_read" = some (some (.ref f_fields_read)))
    (l_fields_read : K.lookup f_fields_read = some ⟨oc_fields_read, od_fields_read, .func (PySem.W.fnOf "fields_read" "fields_read" (defArgs s_fields_read) (defBody s_fields_read) (defScope s_fields_read) .none kV_fields_read dc_fields_read pm_fields_read an_fields_read cd_fields_read ct_fields_read), sl_fields_read⟩)
    (c_fields_read : PySem.W.codeIn K cd_fields_read "fields_read" = true)
    (k_fields_read : PySem.W.keepIn K (.ref f_fields_read) = true)
    (a_piece_reads : PySem.W.nsIn K mainGlobals "piece_reads" = some (some (.ref f_piece_reads)))
    (l_piece_reads : K.lookup f_piece_reads = some ⟨oc_piece_reads, od_piece_reads, .func (PySem.W.fnOf "piece_reads" "piece_reads" (defArgs s_piece_reads) (defBody s_piece_reads) (defScope s_piece_reads) .none kV_piece_reads dc_piece_reads pm_piece_reads an_piece_reads cd_piece_reads ct_piece_reads), sl_piece_reads⟩)
    (c_piece_reads : PySem.W.codeIn K cd_piece_reads "piece_reads" = true)
    (k_piece_reads : PySem.W.keepIn K (.ref f_piece_reads) = true)
    (a_rising : PySem.W.nsIn K mainGlobals "rising" = some (some (.ref f_rising)))
    (l_rising : K.lookup f_rising = some ⟨oc_rising, od_rising, .func (PySem.W.fnOf "rising" "rising" (defArgs s_rising) (defBody s_rising) (defScope s_rising) .none kV_rising dc_rising pm_rising an_rising cd_rising ct_rising), sl_rising⟩)
    (c_rising : PySem.W.codeIn K cd_rising "rising" = true)
    (k_rising : PySem.W.keepIn K (.ref f_rising) = true)
    (a_rows_may_change : PySem.W.nsIn K mainGlobals "rows_may_change" = some (some (.ref f_rows_may_change)))
    (l_rows_may_change : K.lookup f_rows_may_change = some ⟨oc_rows_may_change, od_rows_may_change, .func (PySem.W.fnOf "rows_may_change" "rows_may_change" (defArgs s_rows_may_change) (defBody s_rows_may_change) (defScope s_rows_may_change) .none kV_rows_may_change dc_rows_may_change pm_rows_may_change an_rows_may_change cd_rows_may_change ct_rows_may_change), sl_rows_may_change⟩)
    (c_rows_may_change : PySem.W.codeIn K cd_rows_may_change "rows_may_change" = true)
    (k_rows_may_change : PySem.W.keepIn K (.ref f_rows_may_change) = true)
    (a_reads_old_clipboard : PySem.W.nsIn K mainGlobals "reads_old_clipboard" = some (some (.ref f_reads_old_clipboard)))
    (l_reads_old_clipboard : K.lookup f_reads_old_clipboard = some ⟨oc_reads_old_clipboard, od_reads_old_clipboard, .func (PySem.W.fnOf "reads_old_clipboard" "reads_old_clipboard" (defArgs s_reads_old_clipboard) (defBody s_reads_old_clipboard) (defScope s_reads_old_clipboard) .none kV_reads_old_clipboard dc_reads_old_clipboard pm_reads_old_clipboard an_reads_old_clipboard cd_reads_old_clipboard ct_reads_old_clipboard), sl_reads_old_clipboard⟩)
    (c_reads_old_clipboard : PySem.W.codeIn K cd_reads_old_clipboard "reads_old_clipboard" = true)
    (k_reads_old_clipboard : PySem.W.keepIn K (.ref f_reads_old_clipboard) = true)
    (a_surely_copies : PySem.W.nsIn K mainGlobals "surely_copies" = some (some (.ref f_surely_copies)))
    (l_surely_copies : K.lookup f_surely_copies = some ⟨oc_surely_copies, od_surely_copies, .func (PySem.W.fnOf "surely_copies" "surely_copies" (defArgs s_surely_copies) (defBody s_surely_copies) (defScope s_surely_copies) .none kV_surely_copies dc_surely_copies pm_surely_copies an_surely_copies cd_surely_copies ct_surely_copies), sl_surely_copies⟩)
    (c_surely_copies : PySem.W.codeIn K cd_surely_copies "surely_copies" = true)
    (k_surely_copies : PySem.W.keepIn K (.ref f_surely_copies) = true)
    (a_read_fields : PySem.W.nsIn K mainGlobals "read_fields" = some (some (.ref f_read_fields)))
    (l_read_fields : K.lookup f_read_fields = some ⟨oc_read_fields, od_read_fields, .func (PySem.W.fnOf "read_fields" "read_fields" (defArgs s_read_fields) (defBody s_read_fields) (defScope s_read_fields) .none kV_read_fields dc_read_fields pm_read_fields an_read_fields cd_read_fields ct_read_fields), sl_read_fields⟩)
    (c_read_fields : PySem.W.codeIn K cd_read_fields "read_fields" = true)
    (k_read_fields : PySem.W.keepIn K (.ref f_read_fields) = true)
    (a_is_against : PySem.W.nsIn K mainGlobals "is_against" = some (some (.ref f_is_against)))
    (l_is_against : K.lookup f_is_against = some ⟨oc_is_against, od_is_against, .func (PySem.W.fnOf "is_against" "is_against" (defArgs s_is_against) (defBody s_is_against) (defScope s_is_against) .none kV_is_against dc_is_against pm_is_against an_is_against cd_is_against ct_is_against), sl_is_against⟩)
    (c_is_against : PySem.W.codeIn K cd_is_against "is_against" = true)
    (k_is_against : PySem.W.keepIn K (.ref f_is_against) = true)
    (a_Desk_init : PySem.W.findIn K (.ref C_Desk) "__init__" = some (some (.ref f_Desk_init)))
    (i_Desk_init : PySem.W.isFn K (.ref f_Desk_init) = true)
    (l_Desk_init : K.lookup f_Desk_init = some ⟨oc_Desk_init, od_Desk_init, .func (PySem.W.fnOf "__init__" "Desk.__init__" (defArgs s_Desk_init) (defBody s_Desk_init) (defScope s_Desk_init) .none kV_Desk_init dc_Desk_init pm_Desk_init an_Desk_init cd_Desk_init ct_Desk_init), sl_Desk_init⟩)
    (c_Desk_init : PySem.W.codeIn K cd_Desk_init "Desk.__init__" = true)
    (k_Desk_init : PySem.W.keepIn K (.ref f_Desk_init) = true)
    (mk_Desk : PySem.W.makesIn K C_Desk = true)
    (kc_Desk : PySem.W.keepIn K (.ref C_Desk) = true)
    (a_Desk_put_program : PySem.W.findIn K (.ref C_Desk) "put_program" = some (some (.ref f_Desk_put_program)))
    (i_Desk_put_program : PySem.W.isFn K (.ref f_Desk_put_program) = true)
    (l_Desk_put_program : K.lookup f_Desk_put_program = some ⟨oc_Desk_put_program, od_Desk_put_program, .func (PySem.W.fnOf "put_program" "Desk.put_program" (defArgs s_Desk_put_program) (defBody s_Desk_put_program) (defScope s_Desk_put_program) .none kV_Desk_put_program dc_Desk_put_program pm_Desk_put_program an_Desk_put_program cd_Desk_put_program ct_Desk_put_program), sl_Desk_put_program⟩)
    (c_Desk_put_program : PySem.W.codeIn K cd_Desk_put_program "Desk.put_program" = true)
    (k_Desk_put_program : PySem.W.keepIn K (.ref f_Desk_put_program) = true)
    (a_Desk_told : PySem.W.findIn K (.ref C_Desk) "told" = some (some (.ref f_Desk_told)))
    (i_Desk_told : PySem.W.isFn K (.ref f_Desk_told) = true)
    (l_Desk_told : K.lookup f_Desk_told = some ⟨oc_Desk_told, od_Desk_told, .func (PySem.W.fnOf "told" "Desk.told" (defArgs s_Desk_told) (defBody s_Desk_told) (defScope s_Desk_told) .none kV_Desk_told dc_Desk_told pm_Desk_told an_Desk_told cd_Desk_told ct_Desk_told), sl_Desk_told⟩)
    (c_Desk_told : PySem.W.codeIn K cd_Desk_told "Desk.told" = true)
    (k_Desk_told : PySem.W.keepIn K (.ref f_Desk_told) = true)
    (a_Desk_touches : PySem.W.findIn K (.ref C_Desk) "touches" = some (some (.ref f_Desk_touches)))
    (i_Desk_touches : PySem.W.isFn K (.ref f_Desk_touches) = true)
    (l_Desk_touches : K.lookup f_Desk_touches = some ⟨oc_Desk_touches, od_Desk_touches, .func (PySem.W.fnOf "touches" "Desk.touches" (defArgs s_Desk_touches) (defBody s_Desk_touches) (defScope s_Desk_touches) .none kV_Desk_touches dc_Desk_touches pm_Desk_touches an_Desk_touches cd_Desk_touches ct_Desk_touches), sl_Desk_touches⟩)
    (c_Desk_touches : PySem.W.codeIn K cd_Desk_touches "Desk.touches" = true)
    (k_Desk_touches : PySem.W.keepIn K (.ref f_Desk_touches) = true)
    (a_Desk_ends : PySem.W.findIn K (.ref C_Desk) "ends" = some (some (.ref f_Desk_ends)))
    (i_Desk_ends : PySem.W.isFn K (.ref f_Desk_ends) = true)
    (l_Desk_ends : K.lookup f_Desk_ends = some ⟨oc_Desk_ends, od_Desk_ends, .func (PySem.W.fnOf "ends" "Desk.ends" (defArgs s_Desk_ends) (defBody s_Desk_ends) (defScope s_Desk_ends) .none kV_Desk_ends dc_Desk_ends pm_Desk_ends an_Desk_ends cd_Desk_ends ct_Desk_ends), sl_Desk_ends⟩)
    (c_Desk_ends : PySem.W.codeIn K cd_Desk_ends "Desk.ends" = true)
    (k_Desk_ends : PySem.W.keepIn K (.ref f_Desk_ends) = true)
    (a_Desk_allowed : PySem.W.findIn K (.ref C_Desk) "allowed" = some (some (.ref f_Desk_allowed)))
    (i_Desk_allowed : PySem.W.isFn K (.ref f_Desk_allowed) = true)
    (l_Desk_allowed : K.lookup f_Desk_allowed = some ⟨oc_Desk_allowed, od_Desk_allowed, .func (PySem.W.fnOf "allowed" "Desk.allowed" (defArgs s_Desk_allowed) (defBody s_Desk_allowed) (defScope s_Desk_allowed) .none kV_Desk_allowed dc_Desk_allowed pm_Desk_allowed an_Desk_allowed cd_Desk_allowed ct_Desk_allowed), sl_Desk_allowed⟩)
    (c_Desk_allowed : PySem.W.codeIn K cd_Desk_allowed "Desk.allowed" = true)
    (k_Desk_allowed : PySem.W.keepIn K (.ref f_Desk_allowed) = true)
    (a_Desk_run_on : PySem.W.findIn K (.ref C_Desk) "run_on" = some (some (.ref f_Desk_run_on)))
    (i_Desk_run_on : PySem.W.isFn K (.ref f_Desk_run_on) = true)
    (l_Desk_run_on : K.lookup f_Desk_run_on = some ⟨oc_Desk_run_on, od_Desk_run_on, .func (PySem.W.fnOf "run_on" "Desk.run_on" (defArgs s_Desk_run_on) (defBody s_Desk_run_on) (defScope s_Desk_run_on) .none kV_Desk_run_on dc_Desk_run_on pm_Desk_run_on an_Desk_run_on cd_Desk_run_on ct_Desk_run_on), sl_Desk_run_on⟩)
    (c_Desk_run_on : PySem.W.codeIn K cd_Desk_run_on "Desk.run_on" = true)
    (k_Desk_run_on : PySem.W.keepIn K (.ref f_Desk_run_on) = true)
    (a_Desk_changed_on : PySem.W.findIn K (.ref C_Desk) "changed_on" = some (some (.ref f_Desk_changed_on)))
    (i_Desk_changed_on : PySem.W.isFn K (.ref f_Desk_changed_on) = true)
    (l_Desk_changed_on : K.lookup f_Desk_changed_on = some ⟨oc_Desk_changed_on, od_Desk_changed_on, .func (PySem.W.fnOf "changed_on" "Desk.changed_on" (defArgs s_Desk_changed_on) (defBody s_Desk_changed_on) (defScope s_Desk_changed_on) .none kV_Desk_changed_on dc_Desk_changed_on pm_Desk_changed_on an_Desk_changed_on cd_Desk_changed_on ct_Desk_changed_on), sl_Desk_changed_on⟩)
    (c_Desk_changed_on : PySem.W.codeIn K cd_Desk_changed_on "Desk.changed_on" = true)
    (k_Desk_changed_on : PySem.W.keepIn K (.ref f_Desk_changed_on) = true)
    (a_Desk_join_program : PySem.W.findIn K (.ref C_Desk) "join_program" = some (some (.ref f_Desk_join_program)))
    (i_Desk_join_program : PySem.W.isFn K (.ref f_Desk_join_program) = true)
    (l_Desk_join_program : K.lookup f_Desk_join_program = some ⟨oc_Desk_join_program, od_Desk_join_program, .func (PySem.W.fnOf "join_program" "Desk.join_program" (defArgs s_Desk_join_program) (defBody s_Desk_join_program) (defScope s_Desk_join_program) .none kV_Desk_join_program dc_Desk_join_program pm_Desk_join_program an_Desk_join_program cd_Desk_join_program ct_Desk_join_program), sl_Desk_join_program⟩)
    (c_Desk_join_program : PySem.W.codeIn K cd_Desk_join_program "Desk.join_program" = true)
    (k_Desk_join_program : PySem.W.keepIn K (.ref f_Desk_join_program) = true)
    (a_Desk_clean : PySem.W.findIn K (.ref C_Desk) "clean" = some (some (.ref f_Desk_clean)))
    (i_Desk_clean : PySem.W.isFn K (.ref f_Desk_clean) = true)
    (l_Desk_clean : K.lookup f_Desk_clean = some ⟨oc_Desk_clean, od_Desk_clean, .func (PySem.W.fnOf "clean" "Desk.clean" (defArgs s_Desk_clean) (defBody s_Desk_clean) (defScope s_Desk_clean) .none kV_Desk_clean dc_Desk_clean pm_Desk_clean an_Desk_clean cd_Desk_clean ct_Desk_clean), sl_Desk_clean⟩)
    (c_Desk_clean : PySem.W.codeIn K cd_Desk_clean "Desk.clean" = true)
    (k_Desk_clean : PySem.W.keepIn K (.ref f_Desk_clean) = true)
    (a_Desk_same : PySem.W.findIn K (.ref C_Desk) "same" = some (some (.ref f_Desk_same)))
    (i_Desk_same : PySem.W.isFn K (.ref f_Desk_same) = true)
    (l_Desk_same : K.lookup f_Desk_same = some ⟨oc_Desk_same, od_Desk_same, .func (PySem.W.fnOf "same" "Desk.same" (defArgs s_Desk_same) (defBody s_Desk_same) (defScope s_Desk_same) .none kV_Desk_same dc_Desk_same pm_Desk_same an_Desk_same cd_Desk_same ct_Desk_same), sl_Desk_same⟩)
    (c_Desk_same : PySem.W.codeIn K cd_Desk_same "Desk.same" = true)
    (k_Desk_same : PySem.W.keepIn K (.ref f_Desk_same) = true)
    (a_answers : PySem.W.nsIn K mainGlobals "answers" = some (some (.ref f_answers)))
    (l_answers : K.lookup f_answers = some ⟨oc_answers, od_answers, .func (PySem.W.fnOf "answers" "answers" (defArgs s_answers) (defBody s_answers) (defScope s_answers) .none kV_answers dc_answers pm_answers an_answers cd_answers ct_answers), sl_answers⟩)
    (c_answers : PySem.W.codeIn K cd_answers "answers" = true)
    (k_answers : PySem.W.keepIn K (.ref f_answers) = true)
    (a_answer_call : PySem.W.nsIn K mainGlobals "answer_call" = some (some (.ref f_answer_call)))
    (l_answer_call : K.lookup f_answer_call = some ⟨oc_answer_call, od_answer_call, .func (PySem.W.fnOf "answer_call" "answer_call" (defArgs s_answer_call) (defBody s_answer_call) (defScope s_answer_call) .none kV_answer_call dc_answer_call pm_answer_call an_answer_call cd_answer_call ct_answer_call), sl_answer_call⟩)
    (c_answer_call : PySem.W.codeIn K cd_answer_call "answer_call" = true)
    (k_answer_call : PySem.W.keepIn K (.ref f_answer_call) = true)
    (a_DOWN : PySem.W.nsIn K mainGlobals "DOWN" = some (some (.int (0) t_DOWN)))
    (a_UP : PySem.W.nsIn K mainGlobals "UP" = some (some (.int (1) t_UP)))
    (a_TOP : PySem.W.nsIn K mainGlobals "TOP" = some (some (.int (2) t_TOP)))
    (a_WRITE : PySem.W.nsIn K mainGlobals "WRITE" = some (some (.int (3) t_WRITE)))
    (a_ADD : PySem.W.nsIn K mainGlobals "ADD" = some (some (.int (4) t_ADD)))
    (a_COPY : PySem.W.nsIn K mainGlobals "COPY" = some (some (.int (5) t_COPY)))
    (a_PASTE : PySem.W.nsIn K mainGlobals "PASTE" = some (some (.int (6) t_PASTE)))
    (a_DELETE : PySem.W.nsIn K mainGlobals "DELETE" = some (some (.int (7) t_DELETE)))
    (a_DOUBLE : PySem.W.nsIn K mainGlobals "DOUBLE" = some (some (.int (8) t_DOUBLE)))
    (a_FIND : PySem.W.nsIn K mainGlobals "FIND" = some (some (.int (9) t_FIND)))
    (a_FIELDS : PySem.W.nsIn K mainGlobals "FIELDS" = some (some (.int (3) t_FIELDS)))
    (a_FARTHEST_VALUE : PySem.W.nsIn K mainGlobals "FARTHEST_VALUE" = some (some (.int (999) t_FARTHEST_VALUE)))
    (a_DEED : PySem.W.nsIn K mainGlobals "DEED" = some (some (.int (0) t_DEED)))
    (a_LOOP : PySem.W.nsIn K mainGlobals "LOOP" = some (some (.int (1) t_LOOP)))
    (a_LOOP_TO_END : PySem.W.nsIn K mainGlobals "LOOP_TO_END" = some (some (.int (2) t_LOOP_TO_END)))
    (a_PART : PySem.W.nsIn K mainGlobals "PART" = some (some (.int (3) t_PART)))
    (a_MOST_ROUNDS : PySem.W.nsIn K mainGlobals "MOST_ROUNDS" = some (some (.int (9) t_MOST_ROUNDS)))
    (a_MOST_PIECES : PySem.W.nsIn K mainGlobals "MOST_PIECES" = some (some (.int (16) t_MOST_PIECES)))
    (a_MOST_DEPTH : PySem.W.nsIn K mainGlobals "MOST_DEPTH" = some (some (.int (3) t_MOST_DEPTH)))
    (a_ROUNDS_TO_END : PySem.W.nsIn K mainGlobals "ROUNDS_TO_END" = some (some (.int (8) t_ROUNDS_TO_END)))
    (a_MOST_ACCEPTED : PySem.W.nsIn K mainGlobals "MOST_ACCEPTED" = some (some (.int (60) t_MOST_ACCEPTED)))
    (a_MOST_ROWS : PySem.W.nsIn K mainGlobals "MOST_ROWS" = some (some (.int (8) t_MOST_ROWS)))
    (a_WELL : PySem.W.nsIn K mainGlobals "WELL" = some (some (.int (0) t_WELL)))
    (a_NO_ROW_HERE : PySem.W.nsIn K mainGlobals "NO_ROW_HERE" = some (some (.int (1) t_NO_ROW_HERE)))
    (a_AT_FIRST_ROW : PySem.W.nsIn K mainGlobals "AT_FIRST_ROW" = some (some (.int (2) t_AT_FIRST_ROW)))
    (a_VALUE_BEYOND : PySem.W.nsIn K mainGlobals "VALUE_BEYOND" = some (some (.int (3) t_VALUE_BEYOND)))
    (a_NO_ROOM : PySem.W.nsIn K mainGlobals "NO_ROOM" = some (some (.int (4) t_NO_ROOM)))
    (a_NONE_FOUND : PySem.W.nsIn K mainGlobals "NONE_FOUND" = some (some (.int (5) t_NONE_FOUND)))
    (a_TOO_LONG : PySem.W.nsIn K mainGlobals "TOO_LONG" = some (some (.int (6) t_TOO_LONG)))
    (a_MOST_DEEDS_DONE : PySem.W.nsIn K mainGlobals "MOST_DEEDS_DONE" = some (some (.int (60) t_MOST_DEEDS_DONE)))
    (a_MOST_ROUNDS_TO_END : PySem.W.nsIn K mainGlobals "MOST_ROUNDS_TO_END" = some (some (.int (60) t_MOST_ROUNDS_TO_END)))
    (a_MOST_RECORDED : PySem.W.nsIn K mainGlobals "MOST_RECORDED" = some (some (.int (20) t_MOST_RECORDED)))
    (a_PROGRAM : PySem.W.nsIn K mainGlobals "PROGRAM" = some (some (.int (0) t_PROGRAM)))
    (a_TOLD : PySem.W.nsIn K mainGlobals "TOLD" = some (some (.int (1) t_TOLD)))
    (a_TOUCHES : PySem.W.nsIn K mainGlobals "TOUCHES" = some (some (.int (2) t_TOUCHES)))
    (a_ENDS : PySem.W.nsIn K mainGlobals "ENDS" = some (some (.int (3) t_ENDS)))
    (a_ALLOWED : PySem.W.nsIn K mainGlobals "ALLOWED" = some (some (.int (4) t_ALLOWED)))
    (a_RUN : PySem.W.nsIn K mainGlobals "RUN" = some (some (.int (5) t_RUN)))
    (a_CHANGED : PySem.W.nsIn K mainGlobals "CHANGED" = some (some (.int (6) t_CHANGED)))
    (a_JOIN : PySem.W.nsIn K mainGlobals "JOIN" = some (some (.int (7) t_JOIN)))
    (a_CLEAN : PySem.W.nsIn K mainGlobals "CLEAN" = some (some (.int (8) t_CLEAN)))
    (a_SAME : PySem.W.nsIn K mainGlobals "SAME" = some (some (.int (9) t_SAME)))
    (a_ValueError : PySem.W.nsIn K mainGlobals "ValueError" = some none)
    (a_any : PySem.W.nsIn K mainGlobals "any" = some none)
    (a_enumerate : PySem.W.nsIn K mainGlobals "enumerate" = some none)
    (a_isinstance : PySem.W.nsIn K mainGlobals "isinstance" = some none)
    (a_len : PySem.W.nsIn K mainGlobals "len" = some none)
    (a_list : PySem.W.nsIn K mainGlobals "list" = some none)
    (a_max : PySem.W.nsIn K mainGlobals "max" = some none)
    (a_range : PySem.W.nsIn K mainGlobals "range" = some none)
    (a_sum : PySem.W.nsIn K mainGlobals "sum" = some none)
    (hn : PySem.W.specialIn K (.builtin "object.__class__") "__get__" = some (some (.builtin "getset_descriptor.__get__")))
    (htk : PySem.W.takesIn K (.builtin "object.__class__") = some true)
    (ic_Deed : PySem.W.isClsIn K C_Deed = true)
    (ty_Deed : PySem.W.typeIn K (.ref C_Deed) = some (.type "type"))
    (s_Loop_Deed : PySem.W.subIn K (.ref C_Loop) (.ref C_Deed) = some false)
    (ne_Loop_Deed : C_Loop ≠ C_Deed)
    (s_LoopToEnd_Deed : PySem.W.subIn K (.ref C_LoopToEnd) (.ref C_Deed) = some false)
    (ne_LoopToEnd_Deed : C_LoopToEnd ≠ C_Deed)
    (s_Part_Deed : PySem.W.subIn K (.ref C_Part) (.ref C_Deed) = some false)
    (ne_Part_Deed : C_Part ≠ C_Deed)
    (ic_LoopToEnd : PySem.W.isClsIn K C_LoopToEnd = true)
    (ty_LoopToEnd : PySem.W.typeIn K (.ref C_LoopToEnd) = some (.type "type"))
    (s_Deed_LoopToEnd : PySem.W.subIn K (.ref C_Deed) (.ref C_LoopToEnd) = some false)
    (ne_Deed_LoopToEnd : C_Deed ≠ C_LoopToEnd)
    (s_Loop_LoopToEnd : PySem.W.subIn K (.ref C_Loop) (.ref C_LoopToEnd) = some false)
    (ne_Loop_LoopToEnd : C_Loop ≠ C_LoopToEnd)
    (s_Part_LoopToEnd : PySem.W.subIn K (.ref C_Part) (.ref C_LoopToEnd) = some false)
    (ne_Part_LoopToEnd : C_Part ≠ C_LoopToEnd)
    (ic_Loop : PySem.W.isClsIn K C_Loop = true)
    (ty_Loop : PySem.W.typeIn K (.ref C_Loop) = some (.type "type"))
    (s_Deed_Loop : PySem.W.subIn K (.ref C_Deed) (.ref C_Loop) = some false)
    (ne_Deed_Loop : C_Deed ≠ C_Loop)
    (s_LoopToEnd_Loop : PySem.W.subIn K (.ref C_LoopToEnd) (.ref C_Loop) = some false)
    (ne_LoopToEnd_Loop : C_LoopToEnd ≠ C_Loop)
    (s_Part_Loop : PySem.W.subIn K (.ref C_Part) (.ref C_Loop) = some false)
    (ne_Part_Loop : C_Part ≠ C_Loop)
    (ic_Part : PySem.W.isClsIn K C_Part = true)
    (ty_Part : PySem.W.typeIn K (.ref C_Part) = some (.type "type"))
    (s_Deed_Part : PySem.W.subIn K (.ref C_Deed) (.ref C_Part) = some false)
    (ne_Deed_Part : C_Deed ≠ C_Part)
    (s_Loop_Part : PySem.W.subIn K (.ref C_Loop) (.ref C_Part) = some false)
    (ne_Loop_Part : C_Loop ≠ C_Part)
    (s_LoopToEnd_Part : PySem.W.subIn K (.ref C_LoopToEnd) (.ref C_Part) = some false)
    (ne_LoopToEnd_Part : C_LoopToEnd ≠ C_Part)
    {goal : Prop} (k : ∀ t : T K mg, t.d_answers.f = f_answers → goal) : goal := k {
  k_Deed := ⟨C_Deed, ⟨pg_Deed, hd_Deed, po_Deed, sa_Deed⟩, PySem.W.mg_of X G a_Deed, ha_Deed, hm_Deed⟩,
  n_Deed_kind := n_Deed_kind,
  n_Deed_field := n_Deed_field,
  n_Deed_value := n_Deed_value,
  n_Deed_step := n_Deed_step,
  k_Reader := ⟨C_Reader, ⟨pg_Reader, hd_Reader, po_Reader, sa_Reader⟩, PySem.W.mg_of X G a_Reader, ha_Reader, hm_Reader⟩,
  n_Reader_numbers := n_Reader_numbers,
  n_Reader_place := n_Reader_place,
  k_Loop := ⟨C_Loop, ⟨pg_Loop, hd_Loop, po_Loop, sa_Loop⟩, PySem.W.mg_of X G a_Loop, ha_Loop, hm_Loop⟩,
  n_Loop_rounds := n_Loop_rounds,
  n_Loop_row := n_Loop_row,
  k_LoopToEnd := ⟨C_LoopToEnd, ⟨pg_LoopToEnd, hd_LoopToEnd, po_LoopToEnd, sa_LoopToEnd⟩, PySem.W.mg_of X G a_LoopToEnd, ha_LoopToEnd, hm_LoopToEnd⟩,
  n_LoopToEnd_row := n_LoopToEnd_row,
  k_Part := ⟨C_Part, ⟨pg_Part, hd_Part, po_Part, sa_Part⟩, PySem.W.mg_of X G a_Part, ha_Part, hm_Part⟩,
  n_Part_field := n_Part_field,
  n_Part_value := n_Part_value,
  n_Part_row := n_Part_row,
  k_Program := ⟨C_Program, ⟨pg_Program, hd_Program, po_Program, sa_Program⟩, PySem.W.mg_of X G a_Program, ha_Program, hm_Program⟩,
  n_Program_numbers := n_Program_numbers,
  n_Program_row := n_Program_row,
  n_Program_pieces := n_Program_pieces,
  k_Table := ⟨C_Table, ⟨pg_Table, hd_Table, po_Table, sa_Table⟩, PySem.W.mg_of X G a_Table, ha_Table, hm_Table⟩,
  n_Table_rows := n_Table_rows,
  n_Table_cursor := n_Table_cursor,
  n_Table_clipboard := n_Table_clipboard,
  k_Run := ⟨C_Run, ⟨pg_Run, hd_Run, po_Run, sa_Run⟩, PySem.W.mg_of X G a_Run, ha_Run, hm_Run⟩,
  n_Run_table := n_Run_table,
  n_Run_done := n_Run_done,
  n_Run_ended := n_Run_ended,
  k_Desk := ⟨C_Desk, ⟨pg_Desk, hd_Desk, po_Desk, sa_Desk⟩, PySem.W.mg_of X G a_Desk, ha_Desk, hm_Desk⟩,
  n_Desk_program := n_Desk_program,
  x_NotWhole := ⟨C_NotWhole, PySem.W.mg_of X G a_NotWhole, x_NotWhole, k_NotWhole, b_NotWhole, t_NotWhole, exm_self b_NotWhole i_NotWhole t_NotWhole s_NotWhole⟩,
  d_Deed_init := ⟨f_Deed_init, _, fun_mk (st := s_Deed_init) l_Deed_init c_Deed_init k_Deed_init, (fun_mk (st := s_Deed_init) l_Deed_init c_Deed_init k_Deed_init).binds (ps := ["self", "kind"]) (fun _ _ _ _ _ _ us hl => match us, hl with | [_, _], _ => rfl), ⟨mk_Deed, a_Deed_init, i_Deed_init, kc_Deed⟩⟩,
  d_Deed_has_field := ⟨f_Deed_has_field, _, fun_mk (st := s_Deed_has_field) l_Deed_has_field c_Deed_has_field k_Deed_has_field, (fun_mk (st := s_Deed_has_field) l_Deed_has_field c_Deed_has_field k_Deed_has_field).binds (ps := ["self"]) (fun _ _ _ _ _ _ us hl => match us, hl with | [_], _ => rfl), ⟨a_Deed_has_field, i_Deed_has_field, k_Deed_has_field⟩⟩,
  d_Deed_has_value := ⟨f_Deed_has_value, _, fun_mk (st := s_Deed_has_value) l_Deed_has_value c_Deed_has_value k_Deed_has_value, (fun_mk (st := s_Deed_has_value) l_Deed_has_value c_Deed_has_value k_Deed_has_value).binds (ps := ["self"]) (fun _ _ _ _ _ _ us hl => match us, hl with | [_], _ => rfl), ⟨a_Deed_has_value, i_Deed_has_value, k_Deed_has_value⟩⟩,
  d_Deed_writes_field := ⟨f_Deed_writes_field, _, fun_mk (st := s_Deed_writes_field) l_Deed_writes_field c_Deed_writes_field k_Deed_writes_field, (fun_mk (st := s_Deed_writes_field) l_Deed_writes_field c_Deed_writes_field k_Deed_writes_field).binds (ps := ["self"]) (fun _ _ _ _ _ _ us hl => match us, hl with | [_], _ => rfl), ⟨a_Deed_writes_field, i_Deed_writes_field, k_Deed_writes_field⟩⟩,
  d_Deed_reads_field := ⟨f_Deed_reads_field, _, fun_mk (st := s_Deed_reads_field) l_Deed_reads_field c_Deed_reads_field k_Deed_reads_field, (fun_mk (st := s_Deed_reads_field) l_Deed_reads_field c_Deed_reads_field k_Deed_reads_field).binds (ps := ["self"]) (fun _ _ _ _ _ _ us hl => match us, hl with | [_], _ => rfl), ⟨a_Deed_reads_field, i_Deed_reads_field, k_Deed_reads_field⟩⟩,
  d_Deed_changes_rows := ⟨f_Deed_changes_rows, _, fun_mk (st := s_Deed_changes_rows) l_Deed_changes_rows c_Deed_changes_rows k_Deed_changes_rows, (fun_mk (st := s_Deed_changes_rows) l_Deed_changes_rows c_Deed_changes_rows k_Deed_changes_rows).binds (ps := ["self"]) (fun _ _ _ _ _ _ us hl => match us, hl with | [_], _ => rfl), ⟨a_Deed_changes_rows, i_Deed_changes_rows, k_Deed_changes_rows⟩⟩,
  d_read_field := ⟨f_read_field, _, fun_mk (st := s_read_field) l_read_field c_read_field k_read_field, (fun_mk (st := s_read_field) l_read_field c_read_field k_read_field).binds (ps := ["reader"]) (fun _ _ _ _ _ _ us hl => match us, hl with | [_], _ => rfl), PySem.W.mg_of X G a_read_field⟩,
  d_read_value := ⟨f_read_value, _, fun_mk (st := s_read_value) l_read_value c_read_value k_read_value, (fun_mk (st := s_read_value) l_read_value c_read_value k_read_value).binds (ps := ["reader"]) (fun _ _ _ _ _ _ us hl => match us, hl with | [_], _ => rfl), PySem.W.mg_of X G a_read_value⟩,
  d_read_deed := ⟨f_read_deed, _, fun_mk (st := s_read_deed) l_read_deed c_read_deed k_read_deed, (fun_mk (st := s_read_deed) l_read_deed c_read_deed k_read_deed).binds (ps := ["reader"]) (fun _ _ _ _ _ _ us hl => match us, hl with | [_], _ => rfl), PySem.W.mg_of X G a_read_deed⟩,
  d_deed_numbers := ⟨f_deed_numbers, _, fun_mk (st := s_deed_numbers) l_deed_numbers c_deed_numbers k_deed_numbers, (fun_mk (st := s_deed_numbers) l_deed_numbers c_deed_numbers k_deed_numbers).binds (ps := ["deed"]) (fun _ _ _ _ _ _ us hl => match us, hl with | [_], _ => rfl), PySem.W.mg_of X G a_deed_numbers⟩,
  d_Reader_init := ⟨f_Reader_init, _, fun_mk (st := s_Reader_init) l_Reader_init c_Reader_init k_Reader_init, (fun_mk (st := s_Reader_init) l_Reader_init c_Reader_init k_Reader_init).binds (ps := ["self", "numbers"]) (fun _ _ _ _ _ _ us hl => match us, hl with | [_, _], _ => rfl), ⟨mk_Reader, a_Reader_init, i_Reader_init, kc_Reader⟩⟩,
  d_Reader_at_end := ⟨f_Reader_at_end, _, fun_mk (st := s_Reader_at_end) l_Reader_at_end c_Reader_at_end k_Reader_at_end, (fun_mk (st := s_Reader_at_end) l_Reader_at_end c_Reader_at_end k_Reader_at_end).binds (ps := ["self"]) (fun _ _ _ _ _ _ us hl => match us, hl with | [_], _ => rfl), ⟨a_Reader_at_end, i_Reader_at_end, k_Reader_at_end⟩⟩,
  d_Reader_take := ⟨f_Reader_take, _, fun_mk (st := s_Reader_take) l_Reader_take c_Reader_take k_Reader_take, (fun_mk (st := s_Reader_take) l_Reader_take c_Reader_take k_Reader_take).binds (ps := ["self"]) (fun _ _ _ _ _ _ us hl => match us, hl with | [_], _ => rfl), ⟨a_Reader_take, i_Reader_take, k_Reader_take⟩⟩,
  d_Reader_take_within := ⟨f_Reader_take_within, _, fun_mk (st := s_Reader_take_within) l_Reader_take_within c_Reader_take_within k_Reader_take_within, (fun_mk (st := s_Reader_take_within) l_Reader_take_within c_Reader_take_within k_Reader_take_within).binds (ps := ["self", "low", "high"]) (fun _ _ _ _ _ _ us hl => match us, hl with | [_, _, _], _ => rfl), ⟨a_Reader_take_within, i_Reader_take_within, k_Reader_take_within⟩⟩,
  d_Reader_take_list := ⟨f_Reader_take_list, _, fun_mk (st := s_Reader_take_list) l_Reader_take_list c_Reader_take_list k_Reader_take_list, (fun_mk (st := s_Reader_take_list) l_Reader_take_list c_Reader_take_list k_Reader_take_list).binds (ps := ["self"]) (fun _ _ _ _ _ _ us hl => match us, hl with | [_], _ => rfl), ⟨a_Reader_take_list, i_Reader_take_list, k_Reader_take_list⟩⟩,
  d_Reader_finish := ⟨f_Reader_finish, _, fun_mk (st := s_Reader_finish) l_Reader_finish c_Reader_finish k_Reader_finish, (fun_mk (st := s_Reader_finish) l_Reader_finish c_Reader_finish k_Reader_finish).binds (ps := ["self"]) (fun _ _ _ _ _ _ us hl => match us, hl with | [_], _ => rfl), ⟨a_Reader_finish, i_Reader_finish, k_Reader_finish⟩⟩,
  d_Loop_init := ⟨f_Loop_init, _, fun_mk (st := s_Loop_init) l_Loop_init c_Loop_init k_Loop_init, (fun_mk (st := s_Loop_init) l_Loop_init c_Loop_init k_Loop_init).binds (ps := ["self", "rounds"]) (fun _ _ _ _ _ _ us hl => match us, hl with | [_, _], _ => rfl), ⟨mk_Loop, a_Loop_init, i_Loop_init, kc_Loop⟩⟩,
  d_LoopToEnd_init := ⟨f_LoopToEnd_init, _, fun_mk (st := s_LoopToEnd_init) l_LoopToEnd_init c_LoopToEnd_init k_LoopToEnd_init, (fun_mk (st := s_LoopToEnd_init) l_LoopToEnd_init c_LoopToEnd_init k_LoopToEnd_init).binds (ps := ["self"]) (fun _ _ _ _ _ _ us hl => match us, hl with | [_], _ => rfl), ⟨mk_LoopToEnd, a_LoopToEnd_init, i_LoopToEnd_init, kc_LoopToEnd⟩⟩,
  d_Part_init := ⟨f_Part_init, _, fun_mk (st := s_Part_init) l_Part_init c_Part_init k_Part_init, (fun_mk (st := s_Part_init) l_Part_init c_Part_init k_Part_init).binds (ps := ["self", "field", "value"]) (fun _ _ _ _ _ _ us hl => match us, hl with | [_, _, _], _ => rfl), ⟨mk_Part, a_Part_init, i_Part_init, kc_Part⟩⟩,
  d_Program_init := ⟨f_Program_init, _, fun_mk (st := s_Program_init) l_Program_init c_Program_init k_Program_init, (fun_mk (st := s_Program_init) l_Program_init c_Program_init k_Program_init).binds (ps := ["self", "numbers", "row", "pieces"]) (fun _ _ _ _ _ _ us hl => match us, hl with | [_, _, _, _], _ => rfl), ⟨mk_Program, a_Program_init, i_Program_init, kc_Program⟩⟩,
  d_read_program := ⟨f_read_program, _, fun_mk (st := s_read_program) l_read_program c_read_program k_read_program, (fun_mk (st := s_read_program) l_read_program c_read_program k_read_program).binds (ps := ["numbers"]) (fun _ _ _ _ _ _ us hl => match us, hl with | [_], _ => rfl), PySem.W.mg_of X G a_read_program⟩,
  d_numbers_joined := ⟨f_numbers_joined, _, fun_mk (st := s_numbers_joined) l_numbers_joined c_numbers_joined k_numbers_joined, (fun_mk (st := s_numbers_joined) l_numbers_joined c_numbers_joined k_numbers_joined).binds (ps := ["first", "second"]) (fun _ _ _ _ _ _ us hl => match us, hl with | [_, _], _ => rfl), PySem.W.mg_of X G a_numbers_joined⟩,
  d_read_row := ⟨f_read_row, _, fun_mk (st := s_read_row) l_read_row c_read_row k_read_row, (fun_mk (st := s_read_row) l_read_row c_read_row k_read_row).binds (ps := ["reader", "pieces", "depth"]) (fun _ _ _ _ _ _ us hl => match us, hl with | [_, _, _], _ => rfl), PySem.W.mg_of X G a_read_row⟩,
  d_read_piece := ⟨f_read_piece, _, fun_mk (st := s_read_piece) l_read_piece c_read_piece k_read_piece, (fun_mk (st := s_read_piece) l_read_piece c_read_piece k_read_piece).binds (ps := ["reader", "pieces", "depth"]) (fun _ _ _ _ _ _ us hl => match us, hl with | [_, _, _], _ => rfl), PySem.W.mg_of X G a_read_piece⟩,
  d_read_head := ⟨f_read_head, _, fun_mk (st := s_read_head) l_read_head c_read_head k_read_head, (fun_mk (st := s_read_head) l_read_head c_read_head k_read_head).binds (ps := ["reader"]) (fun _ _ _ _ _ _ us hl => match us, hl with | [_], _ => rfl), PySem.W.mg_of X G a_read_head⟩,
  d_read_stepped_deed := ⟨f_read_stepped_deed, _, fun_mk (st := s_read_stepped_deed) l_read_stepped_deed c_read_stepped_deed k_read_stepped_deed, (fun_mk (st := s_read_stepped_deed) l_read_stepped_deed c_read_stepped_deed k_read_stepped_deed).binds (ps := ["reader"]) (fun _ _ _ _ _ _ us hl => match us, hl with | [_], _ => rfl), PySem.W.mg_of X G a_read_stepped_deed⟩,
  d_depth_of := ⟨f_depth_of, _, fun_mk (st := s_depth_of) l_depth_of c_depth_of k_depth_of, (fun_mk (st := s_depth_of) l_depth_of c_depth_of k_depth_of).binds (ps := ["row"]) (fun _ _ _ _ _ _ us hl => match us, hl with | [_], _ => rfl), PySem.W.mg_of X G a_depth_of⟩,
  d_rest_behind_row := ⟨f_rest_behind_row, _, fun_mk (st := s_rest_behind_row) l_rest_behind_row c_rest_behind_row k_rest_behind_row, (fun_mk (st := s_rest_behind_row) l_rest_behind_row c_rest_behind_row k_rest_behind_row).binds (ps := ["row"]) (fun _ _ _ _ _ _ us hl => match us, hl with | [_], _ => rfl), PySem.W.mg_of X G a_rest_behind_row⟩,
  d_rest_behind_piece := ⟨f_rest_behind_piece, _, fun_mk (st := s_rest_behind_piece) l_rest_behind_piece c_rest_behind_piece k_rest_behind_piece, (fun_mk (st := s_rest_behind_piece) l_rest_behind_piece c_rest_behind_piece k_rest_behind_piece).binds (ps := ["piece"]) (fun _ _ _ _ _ _ us hl => match us, hl with | [_], _ => rfl), PySem.W.mg_of X G a_rest_behind_piece⟩,
  d_rest_behind_deed := ⟨f_rest_behind_deed, _, fun_mk (st := s_rest_behind_deed) l_rest_behind_deed c_rest_behind_deed k_rest_behind_deed, (fun_mk (st := s_rest_behind_deed) l_rest_behind_deed c_rest_behind_deed k_rest_behind_deed).binds (ps := ["deed"]) (fun _ _ _ _ _ _ us hl => match us, hl with | [_], _ => rfl), PySem.W.mg_of X G a_rest_behind_deed⟩,
  d_comes_nearer := ⟨f_comes_nearer, _, fun_mk (st := s_comes_nearer) l_comes_nearer c_comes_nearer k_comes_nearer, (fun_mk (st := s_comes_nearer) l_comes_nearer c_comes_nearer k_comes_nearer).binds (ps := ["loop"]) (fun _ _ _ _ _ _ us hl => match us, hl with | [_], _ => rfl), PySem.W.mg_of X G a_comes_nearer⟩,
  d_first_endless := ⟨f_first_endless, _, fun_mk (st := s_first_endless) l_first_endless c_first_endless k_first_endless, (fun_mk (st := s_first_endless) l_first_endless c_first_endless k_first_endless).binds (ps := ["pieces"]) (fun _ _ _ _ _ _ us hl => match us, hl with | [_], _ => rfl), PySem.W.mg_of X G a_first_endless⟩,
  d_most_deeds := ⟨f_most_deeds, _, fun_mk (st := s_most_deeds) l_most_deeds c_most_deeds k_most_deeds, (fun_mk (st := s_most_deeds) l_most_deeds c_most_deeds k_most_deeds).binds (ps := ["row"]) (fun _ _ _ _ _ _ us hl => match us, hl with | [_], _ => rfl), PySem.W.mg_of X G a_most_deeds⟩,
  d_most_deeds_of_piece := ⟨f_most_deeds_of_piece, _, fun_mk (st := s_most_deeds_of_piece) l_most_deeds_of_piece c_most_deeds_of_piece k_most_deeds_of_piece, (fun_mk (st := s_most_deeds_of_piece) l_most_deeds_of_piece c_most_deeds_of_piece k_most_deeds_of_piece).binds (ps := ["piece"]) (fun _ _ _ _ _ _ us hl => match us, hl with | [_], _ => rfl), PySem.W.mg_of X G a_most_deeds_of_piece⟩,
  d_is_accepted := ⟨f_is_accepted, _, fun_mk (st := s_is_accepted) l_is_accepted c_is_accepted k_is_accepted, (fun_mk (st := s_is_accepted) l_is_accepted c_is_accepted k_is_accepted).binds (ps := ["program"]) (fun _ _ _ _ _ _ us hl => match us, hl with | [_], _ => rfl), PySem.W.mg_of X G a_is_accepted⟩,
  d_Table_init := ⟨f_Table_init, _, fun_mk (st := s_Table_init) l_Table_init c_Table_init k_Table_init, (fun_mk (st := s_Table_init) l_Table_init c_Table_init k_Table_init).binds (ps := ["self", "rows", "cursor", "clipboard"]) (fun _ _ _ _ _ _ us hl => match us, hl with | [_, _, _, _], _ => rfl), ⟨mk_Table, a_Table_init, i_Table_init, kc_Table⟩⟩,
  d_Table_has_row_here := ⟨f_Table_has_row_here, _, fun_mk (st := s_Table_has_row_here) l_Table_has_row_here c_Table_has_row_here k_Table_has_row_here, (fun_mk (st := s_Table_has_row_here) l_Table_has_row_here c_Table_has_row_here k_Table_has_row_here).binds (ps := ["self"]) (fun _ _ _ _ _ _ us hl => match us, hl with | [_], _ => rfl), ⟨a_Table_has_row_here, i_Table_has_row_here, k_Table_has_row_here⟩⟩,
  d_Table_copied := ⟨f_Table_copied, _, fun_mk (st := s_Table_copied) l_Table_copied c_Table_copied k_Table_copied, (fun_mk (st := s_Table_copied) l_Table_copied c_Table_copied k_Table_copied).binds (ps := ["self"]) (fun _ _ _ _ _ _ us hl => match us, hl with | [_], _ => rfl), ⟨a_Table_copied, i_Table_copied, k_Table_copied⟩⟩,
  d_Table_as_numbers := ⟨f_Table_as_numbers, _, fun_mk (st := s_Table_as_numbers) l_Table_as_numbers c_Table_as_numbers k_Table_as_numbers, (fun_mk (st := s_Table_as_numbers) l_Table_as_numbers c_Table_as_numbers k_Table_as_numbers).binds (ps := ["self"]) (fun _ _ _ _ _ _ us hl => match us, hl with | [_], _ => rfl), ⟨a_Table_as_numbers, i_Table_as_numbers, k_Table_as_numbers⟩⟩,
  d_read_table := ⟨f_read_table, _, fun_mk (st := s_read_table) l_read_table c_read_table k_read_table, (fun_mk (st := s_read_table) l_read_table c_read_table k_read_table).binds (ps := ["numbers"]) (fun _ _ _ _ _ _ us hl => match us, hl with | [_], _ => rfl), PySem.W.mg_of X G a_read_table⟩,
  d_places_changed := ⟨f_places_changed, _, fun_mk (st := s_places_changed) l_places_changed c_places_changed k_places_changed, (fun_mk (st := s_places_changed) l_places_changed c_places_changed k_places_changed).binds (ps := ["before", "behind"]) (fun _ _ _ _ _ _ us hl => match us, hl with | [_, _], _ => rfl), PySem.W.mg_of X G a_places_changed⟩,
  d_do_deed := ⟨f_do_deed, _, fun_mk (st := s_do_deed) l_do_deed c_do_deed k_do_deed, (fun_mk (st := s_do_deed) l_do_deed c_do_deed k_do_deed).binds (ps := ["table", "deed", "value"]) (fun _ _ _ _ _ _ us hl => match us, hl with | [_, _, _], _ => rfl), PySem.W.mg_of X G a_do_deed⟩,
  d_go_up := ⟨f_go_up, _, fun_mk (st := s_go_up) l_go_up c_go_up k_go_up, (fun_mk (st := s_go_up) l_go_up c_go_up k_go_up).binds (ps := ["table"]) (fun _ _ _ _ _ _ us hl => match us, hl with | [_], _ => rfl), PySem.W.mg_of X G a_go_up⟩,
  d_find_below := ⟨f_find_below, _, fun_mk (st := s_find_below) l_find_below c_find_below k_find_below, (fun_mk (st := s_find_below) l_find_below c_find_below k_find_below).binds (ps := ["table", "field", "value"]) (fun _ _ _ _ _ _ us hl => match us, hl with | [_, _, _], _ => rfl), PySem.W.mg_of X G a_find_below⟩,
  d_do_with_field := ⟨f_do_with_field, _, fun_mk (st := s_do_with_field) l_do_with_field c_do_with_field k_do_with_field, (fun_mk (st := s_do_with_field) l_do_with_field c_do_with_field k_do_with_field).binds (ps := ["table", "deed", "value"]) (fun _ _ _ _ _ _ us hl => match us, hl with | [_, _, _], _ => rfl), PySem.W.mg_of X G a_do_with_field⟩,
  d_put_value := ⟨f_put_value, _, fun_mk (st := s_put_value) l_put_value c_put_value k_put_value, (fun_mk (st := s_put_value) l_put_value c_put_value k_put_value).binds (ps := ["row", "field", "value"]) (fun _ _ _ _ _ _ us hl => match us, hl with | [_, _, _], _ => rfl), PySem.W.mg_of X G a_put_value⟩,
  d_do_with_row := ⟨f_do_with_row, _, fun_mk (st := s_do_with_row) l_do_with_row c_do_with_row k_do_with_row, (fun_mk (st := s_do_with_row) l_do_with_row c_do_with_row k_do_with_row).binds (ps := ["table", "deed"]) (fun _ _ _ _ _ _ us hl => match us, hl with | [_, _], _ => rfl), PySem.W.mg_of X G a_do_with_row⟩,
  d_Run_init := ⟨f_Run_init, _, fun_mk (st := s_Run_init) l_Run_init c_Run_init k_Run_init, (fun_mk (st := s_Run_init) l_Run_init c_Run_init k_Run_init).binds (ps := ["self", "table"]) (fun _ _ _ _ _ _ us hl => match us, hl with | [_, _], _ => rfl), ⟨mk_Run, a_Run_init, i_Run_init, kc_Run⟩⟩,
  d_Run_do_row := ⟨f_Run_do_row, _, fun_mk (st := s_Run_do_row) l_Run_do_row c_Run_do_row k_Run_do_row, (fun_mk (st := s_Run_do_row) l_Run_do_row c_Run_do_row k_Run_do_row).binds (ps := ["self", "row", "number"]) (fun _ _ _ _ _ _ us hl => match us, hl with | [_, _, _], _ => rfl), ⟨a_Run_do_row, i_Run_do_row, k_Run_do_row⟩⟩,
  d_Run_do_piece := ⟨f_Run_do_piece, _, fun_mk (st := s_Run_do_piece) l_Run_do_piece c_Run_do_piece k_Run_do_piece, (fun_mk (st := s_Run_do_piece) l_Run_do_piece c_Run_do_piece k_Run_do_piece).binds (ps := ["self", "piece", "number"]) (fun _ _ _ _ _ _ us hl => match us, hl with | [_, _, _], _ => rfl), ⟨a_Run_do_piece, i_Run_do_piece, k_Run_do_piece⟩⟩,
  d_Run_do_counted := ⟨f_Run_do_counted, _, fun_mk (st := s_Run_do_counted) l_Run_do_counted c_Run_do_counted k_Run_do_counted, (fun_mk (st := s_Run_do_counted) l_Run_do_counted c_Run_do_counted k_Run_do_counted).binds (ps := ["self", "deed", "number"]) (fun _ _ _ _ _ _ us hl => match us, hl with | [_, _, _], _ => rfl), ⟨a_Run_do_counted, i_Run_do_counted, k_Run_do_counted⟩⟩,
  d_Run_do_rounds := ⟨f_Run_do_rounds, _, fun_mk (st := s_Run_do_rounds) l_Run_do_rounds c_Run_do_rounds k_Run_do_rounds, (fun_mk (st := s_Run_do_rounds) l_Run_do_rounds c_Run_do_rounds k_Run_do_rounds).binds (ps := ["self", "loop"]) (fun _ _ _ _ _ _ us hl => match us, hl with | [_, _], _ => rfl), ⟨a_Run_do_rounds, i_Run_do_rounds, k_Run_do_rounds⟩⟩,
  d_Run_do_to_end := ⟨f_Run_do_to_end, _, fun_mk (st := s_Run_do_to_end) l_Run_do_to_end c_Run_do_to_end k_Run_do_to_end, (fun_mk (st := s_Run_do_to_end) l_Run_do_to_end c_Run_do_to_end k_Run_do_to_end).binds (ps := ["self", "loop"]) (fun _ _ _ _ _ _ us hl => match us, hl with | [_, _], _ => rfl), ⟨a_Run_do_to_end, i_Run_do_to_end, k_Run_do_to_end⟩⟩,
  d_Run_is_called_for := ⟨f_Run_is_called_for, _, fun_mk (st := s_Run_is_called_for) l_Run_is_called_for c_Run_is_called_for k_Run_is_called_for, (fun_mk (st := s_Run_is_called_for) l_Run_is_called_for c_Run_is_called_for k_Run_is_called_for).binds (ps := ["self", "part"]) (fun _ _ _ _ _ _ us hl => match us, hl with | [_, _], _ => rfl), ⟨a_Run_is_called_for, i_Run_is_called_for, k_Run_is_called_for⟩⟩,
  d_run_row := ⟨f_run_row, _, fun_mk (st := s_run_row) l_run_row c_run_row k_run_row, (fun_mk (st := s_run_row) l_run_row c_run_row k_run_row).binds (ps := ["row", "table"]) (fun _ _ _ _ _ _ us hl => match us, hl with | [_, _], _ => rfl), PySem.W.mg_of X G a_run_row⟩,
  d_read_recording := ⟨f_read_recording, _, fun_mk (st := s_read_recording) l_read_recording c_read_recording k_read_recording, (fun_mk (st := s_read_recording) l_read_recording c_read_recording k_read_recording).binds (ps := ["numbers"]) (fun _ _ _ _ _ _ us hl => match us, hl with | [_], _ => rfl), PySem.W.mg_of X G a_read_recording⟩,
  d_recording_numbers := ⟨f_recording_numbers, _, fun_mk (st := s_recording_numbers) l_recording_numbers c_recording_numbers k_recording_numbers, (fun_mk (st := s_recording_numbers) l_recording_numbers c_recording_numbers k_recording_numbers).binds (ps := ["deeds"]) (fun _ _ _ _ _ _ us hl => match us, hl with | [_], _ => rfl), PySem.W.mg_of X G a_recording_numbers⟩,
  d_cleaned := ⟨f_cleaned, _, fun_mk (st := s_cleaned) l_cleaned c_cleaned k_cleaned, (fun_mk (st := s_cleaned) l_cleaned c_cleaned k_cleaned).binds (ps := ["deeds"]) (fun _ _ _ _ _ _ us hl => match us, hl with | [_], _ => rfl), PySem.W.mg_of X G a_cleaned⟩,
  d_without_first_slip := ⟨f_without_first_slip, _, fun_mk (st := s_without_first_slip) l_without_first_slip c_without_first_slip k_without_first_slip, (fun_mk (st := s_without_first_slip) l_without_first_slip c_without_first_slip k_without_first_slip).binds (ps := ["deeds"]) (fun _ _ _ _ _ _ us hl => match us, hl with | [_], _ => rfl), PySem.W.mg_of X G a_without_first_slip⟩,
  d_become := ⟨f_become, _, fun_mk (st := s_become) l_become c_become k_become, (fun_mk (st := s_become) l_become c_become k_become).binds (ps := ["first", "second"]) (fun _ _ _ _ _ _ us hl => match us, hl with | [_, _], _ => rfl), PySem.W.mg_of X G a_become⟩,
  d_become_of_one_field := ⟨f_become_of_one_field, _, fun_mk (st := s_become_of_one_field) l_become_of_one_field c_become_of_one_field k_become_of_one_field, (fun_mk (st := s_become_of_one_field) l_become_of_one_field c_become_of_one_field k_become_of_one_field).binds (ps := ["first", "second"]) (fun _ _ _ _ _ _ us hl => match us, hl with | [_, _], _ => rfl), PySem.W.mg_of X G a_become_of_one_field⟩,
  d_deed_with := ⟨f_deed_with, _, fun_mk (st := s_deed_with) l_deed_with c_deed_with k_deed_with, (fun_mk (st := s_deed_with) l_deed_with c_deed_with k_deed_with).binds (ps := ["kind", "field", "value"]) (fun _ _ _ _ _ _ us hl => match us, hl with | [_, _, _], _ => rfl), PySem.W.mg_of X G a_deed_with⟩,
  d_fields_written := ⟨f_fields_written, _, fun_mk (st := s_fields_written) l_fields_written c_fields_written k_fields_written, (fun_mk (st := s_fields_written) l_fields_written c_fields_written k_fields_written).binds (ps := ["pieces"]) (fun _ _ _ _ _ _ us hl => match us, hl with | [_], _ => rfl), PySem.W.mg_of X G a_fields_written⟩,
  d_fields_read := ⟨f_fields_read, _, fun_mk (st := s_fields_read) l_fields_read c_fields_read k_fields_read, (fun_mk (st := s_fields_read) l_fields_read c_fields_read k_fields_read).binds (ps := ["pieces"]) (fun _ _ _ _ _ _ us hl => match us, hl with | [_], _ => rfl), PySem.W.mg_of X G a_fields_read⟩,
  d_piece_reads := ⟨f_piece_reads, _, fun_mk (st := s_piece_reads) l_piece_reads c_piece_reads k_piece_reads, (fun_mk (st := s_piece_reads) l_piece_reads c_piece_reads k_piece_reads).binds (ps := ["piece"]) (fun _ _ _ _ _ _ us hl => match us, hl with | [_], _ => rfl), PySem.W.mg_of X G a_piece_reads⟩,
  d_rising := ⟨f_rising, _, fun_mk (st := s_rising) l_rising c_rising k_rising, (fun_mk (st := s_rising) l_rising c_rising k_rising).binds (ps := ["fields"]) (fun _ _ _ _ _ _ us hl => match us, hl with | [_], _ => rfl), PySem.W.mg_of X G a_rising⟩,
  d_rows_may_change := ⟨f_rows_may_change, _, fun_mk (st := s_rows_may_change) l_rows_may_change c_rows_may_change k_rows_may_change, (fun_mk (st := s_rows_may_change) l_rows_may_change c_rows_may_change k_rows_may_change).binds (ps := ["pieces"]) (fun _ _ _ _ _ _ us hl => match us, hl with | [_], _ => rfl), PySem.W.mg_of X G a_rows_may_change⟩,
  d_reads_old_clipboard := ⟨f_reads_old_clipboard, _, fun_mk (st := s_reads_old_clipboard) l_reads_old_clipboard c_reads_old_clipboard k_reads_old_clipboard, (fun_mk (st := s_reads_old_clipboard) l_reads_old_clipboard c_reads_old_clipboard k_reads_old_clipboard).binds (ps := ["row", "copied"]) (fun _ _ _ _ _ _ us hl => match us, hl with | [_, _], _ => rfl), PySem.W.mg_of X G a_reads_old_clipboard⟩,
  d_surely_copies := ⟨f_surely_copies, _, fun_mk (st := s_surely_copies) l_surely_copies c_surely_copies k_surely_copies, (fun_mk (st := s_surely_copies) l_surely_copies c_surely_copies k_surely_copies).binds (ps := ["piece"]) (fun _ _ _ _ _ _ us hl => match us, hl with | [_], _ => rfl), PySem.W.mg_of X G a_surely_copies⟩,
  d_read_fields := ⟨f_read_fields, _, fun_mk (st := s_read_fields) l_read_fields c_read_fields k_read_fields, (fun_mk (st := s_read_fields) l_read_fields c_read_fields k_read_fields).binds (ps := ["numbers"]) (fun _ _ _ _ _ _ us hl => match us, hl with | [_], _ => rfl), PySem.W.mg_of X G a_read_fields⟩,
  d_is_against := ⟨f_is_against, _, fun_mk (st := s_is_against) l_is_against c_is_against k_is_against, (fun_mk (st := s_is_against) l_is_against c_is_against k_is_against).binds (ps := ["piece", "rows", "fields"]) (fun _ _ _ _ _ _ us hl => match us, hl with | [_, _, _], _ => rfl), PySem.W.mg_of X G a_is_against⟩,
  d_Desk_init := ⟨f_Desk_init, _, fun_mk (st := s_Desk_init) l_Desk_init c_Desk_init k_Desk_init, (fun_mk (st := s_Desk_init) l_Desk_init c_Desk_init k_Desk_init).binds (ps := ["self"]) (fun _ _ _ _ _ _ us hl => match us, hl with | [_], _ => rfl), ⟨mk_Desk, a_Desk_init, i_Desk_init, kc_Desk⟩⟩,
  d_Desk_put_program := ⟨f_Desk_put_program, _, fun_mk (st := s_Desk_put_program) l_Desk_put_program c_Desk_put_program k_Desk_put_program, (fun_mk (st := s_Desk_put_program) l_Desk_put_program c_Desk_put_program k_Desk_put_program).binds (ps := ["self", "numbers"]) (fun _ _ _ _ _ _ us hl => match us, hl with | [_, _], _ => rfl), ⟨a_Desk_put_program, i_Desk_put_program, k_Desk_put_program⟩⟩,
  d_Desk_told := ⟨f_Desk_told, _, fun_mk (st := s_Desk_told) l_Desk_told c_Desk_told k_Desk_told, (fun_mk (st := s_Desk_told) l_Desk_told c_Desk_told k_Desk_told).binds (ps := ["self"]) (fun _ _ _ _ _ _ us hl => match us, hl with | [_], _ => rfl), ⟨a_Desk_told, i_Desk_told, k_Desk_told⟩⟩,
  d_Desk_touches := ⟨f_Desk_touches, _, fun_mk (st := s_Desk_touches) l_Desk_touches c_Desk_touches k_Desk_touches, (fun_mk (st := s_Desk_touches) l_Desk_touches c_Desk_touches k_Desk_touches).binds (ps := ["self"]) (fun _ _ _ _ _ _ us hl => match us, hl with | [_], _ => rfl), ⟨a_Desk_touches, i_Desk_touches, k_Desk_touches⟩⟩,
  d_Desk_ends := ⟨f_Desk_ends, _, fun_mk (st := s_Desk_ends) l_Desk_ends c_Desk_ends k_Desk_ends, (fun_mk (st := s_Desk_ends) l_Desk_ends c_Desk_ends k_Desk_ends).binds (ps := ["self"]) (fun _ _ _ _ _ _ us hl => match us, hl with | [_], _ => rfl), ⟨a_Desk_ends, i_Desk_ends, k_Desk_ends⟩⟩,
  d_Desk_allowed := ⟨f_Desk_allowed, _, fun_mk (st := s_Desk_allowed) l_Desk_allowed c_Desk_allowed k_Desk_allowed, (fun_mk (st := s_Desk_allowed) l_Desk_allowed c_Desk_allowed k_Desk_allowed).binds (ps := ["self", "rows", "numbers"]) (fun _ _ _ _ _ _ us hl => match us, hl with | [_, _, _], _ => rfl), ⟨a_Desk_allowed, i_Desk_allowed, k_Desk_allowed⟩⟩,
  d_Desk_run_on := ⟨f_Desk_run_on, _, fun_mk (st := s_Desk_run_on) l_Desk_run_on c_Desk_run_on k_Desk_run_on, (fun_mk (st := s_Desk_run_on) l_Desk_run_on c_Desk_run_on k_Desk_run_on).binds (ps := ["self", "numbers"]) (fun _ _ _ _ _ _ us hl => match us, hl with | [_, _], _ => rfl), ⟨a_Desk_run_on, i_Desk_run_on, k_Desk_run_on⟩⟩,
  d_Desk_changed_on := ⟨f_Desk_changed_on, _, fun_mk (st := s_Desk_changed_on) l_Desk_changed_on c_Desk_changed_on k_Desk_changed_on, (fun_mk (st := s_Desk_changed_on) l_Desk_changed_on c_Desk_changed_on k_Desk_changed_on).binds (ps := ["self", "numbers"]) (fun _ _ _ _ _ _ us hl => match us, hl with | [_, _], _ => rfl), ⟨a_Desk_changed_on, i_Desk_changed_on, k_Desk_changed_on⟩⟩,
  d_Desk_join_program := ⟨f_Desk_join_program, _, fun_mk (st := s_Desk_join_program) l_Desk_join_program c_Desk_join_program k_Desk_join_program, (fun_mk (st := s_Desk_join_program) l_Desk_join_program c_Desk_join_program k_Desk_join_program).binds (ps := ["self", "numbers"]) (fun _ _ _ _ _ _ us hl => match us, hl with | [_, _], _ => rfl), ⟨a_Desk_join_program, i_Desk_join_program, k_Desk_join_program⟩⟩,
  d_Desk_clean := ⟨f_Desk_clean, _, fun_mk (st := s_Desk_clean) l_Desk_clean c_Desk_clean k_Desk_clean, (fun_mk (st := s_Desk_clean) l_Desk_clean c_Desk_clean k_Desk_clean).binds (ps := ["self", "numbers"]) (fun _ _ _ _ _ _ us hl => match us, hl with | [_, _], _ => rfl), ⟨a_Desk_clean, i_Desk_clean, k_Desk_clean⟩⟩,
  d_Desk_same := ⟨f_Desk_same, _, fun_mk (st := s_Desk_same) l_Desk_same c_Desk_same k_Desk_same, (fun_mk (st := s_Desk_same) l_Desk_same c_Desk_same k_Desk_same).binds (ps := ["self", "recorded", "numbers"]) (fun _ _ _ _ _ _ us hl => match us, hl with | [_, _, _], _ => rfl), ⟨a_Desk_same, i_Desk_same, k_Desk_same⟩⟩,
  d_answers := ⟨f_answers, _, fun_mk (st := s_answers) l_answers c_answers k_answers, (fun_mk (st := s_answers) l_answers c_answers k_answers).binds (ps := ["calls"]) (fun _ _ _ _ _ _ us hl => match us, hl with | [_], _ => rfl), PySem.W.mg_of X G a_answers⟩,
  d_answer_call := ⟨f_answer_call, _, fun_mk (st := s_answer_call) l_answer_call c_answer_call k_answer_call, (fun_mk (st := s_answer_call) l_answer_call c_answer_call k_answer_call).binds (ps := ["desk", "line"]) (fun _ _ _ _ _ _ us hl => match us, hl with | [_, _], _ => rfl), PySem.W.mg_of X G a_answer_call⟩,
  c_DOWN := ⟨_, PySem.W.mg_of X G a_DOWN⟩,
  c_UP := ⟨_, PySem.W.mg_of X G a_UP⟩,
  c_TOP := ⟨_, PySem.W.mg_of X G a_TOP⟩,
  c_WRITE := ⟨_, PySem.W.mg_of X G a_WRITE⟩,
  c_ADD := ⟨_, PySem.W.mg_of X G a_ADD⟩,
  c_COPY := ⟨_, PySem.W.mg_of X G a_COPY⟩,
  c_PASTE := ⟨_, PySem.W.mg_of X G a_PASTE⟩,
  c_DELETE := ⟨_, PySem.W.mg_of X G a_DELETE⟩,
  c_DOUBLE := ⟨_, PySem.W.mg_of X G a_DOUBLE⟩,
  c_FIND := ⟨_, PySem.W.mg_of X G a_FIND⟩,
  c_FIELDS := ⟨_, PySem.W.mg_of X G a_FIELDS⟩,
  c_FARTHEST_VALUE := ⟨_, PySem.W.mg_of X G a_FARTHEST_VALUE⟩,
  c_DEED := ⟨_, PySem.W.mg_of X G a_DEED⟩,
  c_LOOP := ⟨_, PySem.W.mg_of X G a_LOOP⟩,
  c_LOOP_TO_END := ⟨_, PySem.W.mg_of X G a_LOOP_TO_END⟩,
  c_PART := ⟨_, PySem.W.mg_of X G a_PART⟩,
  c_MOST_ROUNDS := ⟨_, PySem.W.mg_of X G a_MOST_ROUNDS⟩,
  c_MOST_PIECES := ⟨_, PySem.W.mg_of X G a_MOST_PIECES⟩,
  c_MOST_DEPTH := ⟨_, PySem.W.mg_of X G a_MOST_DEPTH⟩,
  c_ROUNDS_TO_END := ⟨_, PySem.W.mg_of X G a_ROUNDS_TO_END⟩,
  c_MOST_ACCEPTED := ⟨_, PySem.W.mg_of X G a_MOST_ACCEPTED⟩,
  c_MOST_ROWS := ⟨_, PySem.W.mg_of X G a_MOST_ROWS⟩,
  c_WELL := ⟨_, PySem.W.mg_of X G a_WELL⟩,
  c_NO_ROW_HERE := ⟨_, PySem.W.mg_of X G a_NO_ROW_HERE⟩,
  c_AT_FIRST_ROW := ⟨_, PySem.W.mg_of X G a_AT_FIRST_ROW⟩,
  c_VALUE_BEYOND := ⟨_, PySem.W.mg_of X G a_VALUE_BEYOND⟩,
  c_NO_ROOM := ⟨_, PySem.W.mg_of X G a_NO_ROOM⟩,
  c_NONE_FOUND := ⟨_, PySem.W.mg_of X G a_NONE_FOUND⟩,
  c_TOO_LONG := ⟨_, PySem.W.mg_of X G a_TOO_LONG⟩,
  c_MOST_DEEDS_DONE := ⟨_, PySem.W.mg_of X G a_MOST_DEEDS_DONE⟩,
  c_MOST_ROUNDS_TO_END := ⟨_, PySem.W.mg_of X G a_MOST_ROUNDS_TO_END⟩,
  c_MOST_RECORDED := ⟨_, PySem.W.mg_of X G a_MOST_RECORDED⟩,
  c_PROGRAM := ⟨_, PySem.W.mg_of X G a_PROGRAM⟩,
  c_TOLD := ⟨_, PySem.W.mg_of X G a_TOLD⟩,
  c_TOUCHES := ⟨_, PySem.W.mg_of X G a_TOUCHES⟩,
  c_ENDS := ⟨_, PySem.W.mg_of X G a_ENDS⟩,
  c_ALLOWED := ⟨_, PySem.W.mg_of X G a_ALLOWED⟩,
  c_RUN := ⟨_, PySem.W.mg_of X G a_RUN⟩,
  c_CHANGED := ⟨_, PySem.W.mg_of X G a_CHANGED⟩,
  c_JOIN := ⟨_, PySem.W.mg_of X G a_JOIN⟩,
  c_CLEAN := ⟨_, PySem.W.mg_of X G a_CLEAN⟩,
  c_SAME := ⟨_, PySem.W.mg_of X G a_SAME⟩,
  z_ValueError := PySem.W.mg_none_of X G a_ValueError,
  z_any := PySem.W.mg_none_of X G a_any,
  z_enumerate := PySem.W.mg_none_of X G a_enumerate,
  z_isinstance := PySem.W.mg_none_of X G a_isinstance,
  z_len := PySem.W.mg_none_of X G a_len,
  z_list := PySem.W.mg_none_of X G a_list,
  z_max := PySem.W.mg_none_of X G a_max,
  z_range := PySem.W.mg_none_of X G a_range,
  z_sum := PySem.W.mg_none_of X G a_sum,
  hn := hn,
  htk := htk,
  i_Deed_Deed := kit_same,
  i_Loop_Deed := kit_ne ne_Loop_Deed ic_Deed ty_Deed s_Loop_Deed,
  i_LoopToEnd_Deed := kit_ne ne_LoopToEnd_Deed ic_Deed ty_Deed s_LoopToEnd_Deed,
  i_Part_Deed := kit_ne ne_Part_Deed ic_Deed ty_Deed s_Part_Deed,
  i_Deed_LoopToEnd := kit_ne ne_Deed_LoopToEnd ic_LoopToEnd ty_LoopToEnd s_Deed_LoopToEnd,
  i_Loop_LoopToEnd := kit_ne ne_Loop_LoopToEnd ic_LoopToEnd ty_LoopToEnd s_Loop_LoopToEnd,
  i_LoopToEnd_LoopToEnd := kit_same,
  i_Part_LoopToEnd := kit_ne ne_Part_LoopToEnd ic_LoopToEnd ty_LoopToEnd s_Part_LoopToEnd,
  i_Deed_Loop := kit_ne ne_Deed_Loop ic_Loop ty_Loop s_Deed_Loop,
  i_Loop_Loop := kit_same,
  i_LoopToEnd_Loop := kit_ne ne_LoopToEnd_Loop ic_Loop ty_Loop s_LoopToEnd_Loop,
  i_Part_Loop := kit_ne ne_Part_Loop ic_Loop ty_Loop s_Part_Loop,
  i_Deed_Part := kit_ne ne_Deed_Part ic_Part ty_Part s_Deed_Part,
  i_Loop_Part := kit_ne ne_Loop_Part ic_Part ty_Part s_Loop_Part,
  i_LoopToEnd_Part := kit_ne ne_LoopToEnd_Part ic_Part ty_Part s_LoopToEnd_Part,
  i_Part_Part := kit_same } rfl
end G
open PySem PySem.W PyProof.Rows
set_option maxRecDepth 100000 in
set_option maxHeartbeats 8000000 in
theorem PySem.Challenge.cw_programends_s01_answers_holds : PySem.Challenge.rw_programends_s01_answers.Holds := by
  w_on; k_headS; (case hw => exact ⟨[.list [.int 1]], by decide +kernel, by decide +kernel⟩)
  k_fillS
  refine L2.walk_specK (r := PySem.Challenge.rw_programends_s01_answers) (k := 40) (CX := L2.CX0) (ps := ["calls"]) (sp := G.spMain) (by decide +kernel) rfl rfl ⟨rfl, by decide, by decide⟩ (fun w h Y => PySem.W.kIn_of Y) ?F ?S (fun _ _ _ _ z => z)
  case F =>
    intro w mg fa h Y KX GG hmg
    refine' G.all_mk KX GG ?a_Deed ?pg_Deed ?hd_Deed ?po_Deed ?sa_Deed ?ha_Deed ?hm_Deed ?n_Deed_kind ?n_Deed_field ?n_Deed_value ?n_Deed_step ?a_Reader ?pg_Reader ?hd_Reader ?po_Reader ?sa_Reader ?ha_Reader ?hm_Reader ?n_Reader_numbers ?n_Reader_place ?a_Loop ?pg_Loop ?hd_Loop ?po_Loop ?sa_Loop ?ha_Loop ?hm_Loop ?n_Loop_rounds ?n_Loop_row ?a_LoopToEnd ?pg_LoopToEnd ?hd_LoopToEnd ?po_LoopToEnd ?sa_LoopToEnd ?ha_LoopToEnd ?hm_LoopToEnd ?n_LoopToEnd_row ?a_Part ?pg_Part ?hd_Part ?po_Part ?sa_Part ?ha_Part ?hm_Part ?n_Part_field ?n_Part_value ?n_Part_row ?a_Program ?pg_Program ?hd_Program ?po_Program ?sa_Program ?ha_Program ?hm_Program ?n_Program_numbers ?n_Program_row ?n_Program_pieces ?a_Table ?pg_Table ?hd_Table ?po_Table ?sa_Table ?ha_Table ?hm_Table ?n_Table_rows ?n_Table_cursor ?n_Table_clipboard ?a_Run ?pg_Run ?hd_Run ?po_Run ?sa_Run ?ha_Run ?hm_Run ?n_Run_table ?n_Run_done ?n_Run_ended ?a_Desk ?pg_Desk ?hd_Desk ?po_Desk ?sa_Desk ?ha_Desk ?hm_Desk ?n_Desk_program ?a_NotWhole ?x_NotWhole ?k_NotWhole ?b_NotWhole ?t_NotWhole ?i_NotWhole ?s_NotWhole ?a_Deed_init ?i_Deed_init ?l_Deed_init ?c_Deed_init ?k_Deed_init ?mk_Deed ?kc_Deed ?a_Deed_has_field ?i_Deed_has_field ?l_Deed_has_field ?c_Deed_has_field ?k_Deed_has_field ?a_Deed_has_value ?i_Deed_has_value ?l_Deed_has_value ?c_Deed_has_value ?k_Deed_has_value ?a_Deed_writes_field ?i_Deed_writes_field ?l_Deed_writes_field ?c_Deed_writes_field ?k_Deed_writes_field ?a_Deed_reads_field ?i_Deed_reads_field ?l_Deed_reads_field ?c_Deed_reads_field ?k_Deed_reads_field ?a_Deed_changes_rows ?i_Deed_changes_rows ?l_Deed_changes_rows ?c_Deed_changes_rows ?k_Deed_changes_rows ?a_read_field ?l_read_field ?c_read_field ?k_read_field ?a_read_value ?l_read_value ?c_read_value ?k_read_value ?a_read_deed ?l_read_deed ?c_read_deed ?k_read_deed ?a_deed_numbers ?l_deed_numbers ?c_deed_numbers ?k_deed_numbers ?a_Reader_init ?i_Reader_init ?l_Reader_init ?c_Reader_init ?k_Reader_init ?mk_Reader ?kc_Reader ?a_Reader_at_end ?i_Reader_at_end ?l_Reader_at_end ?c_Reader_at_end ?k_Reader_at_end ?a_Reader_take ?i_Reader_take ?l_Reader_take ?c_Reader_take ?k_Reader_take ?a_Reader_take_within ?i_Reader_take_within ?l_Reader_take_within ?c_Reader_take_within ?k_Reader_take_within ?a_Reader_take_list ?i_Reader_take_list ?l_Reader_take_list ?c_Reader_take_list ?k_Reader_take_list ?a_Reader_finish ?i_Reader_finish ?l_Reader_finish ?c_Reader_finish ?k_Reader_finish ?a_Loop_init ?i_Loop_init ?l_Loop_init ?c_Loop_init ?k_Loop_init ?mk_Loop ?kc_Loop ?a_LoopToEnd_init ?i_LoopToEnd_init ?l_LoopToEnd_init ?c_LoopToEnd_init ?k_LoopToEnd_init ?mk_LoopToEnd ?kc_LoopToEnd ?a_Part_init ?i_Part_init ?l_Part_init ?c_Part_init ?k_Part_init ?mk_Part ?kc_Part ?a_Program_init ?i_Program_init ?l_Program_init ?c_Program_init ?k_Program_init ?mk_Program ?kc_Program ?a_read_program ?l_read_program ?c_read_program ?k_read_program ?a_numbers_joined ?l_numbers_joined ?c_numbers_joined ?k_numbers_joined ?a_read_row ?l_read_row ?c_read_row ?k_read_row ?a_read_piece ?l_read_piece ?c_read_piece ?k_read_piece ?a_read_head ?l_read_head ?c_read_head ?k_read_head ?a_read_stepped_deed ?l_read_stepped_deed ?c_read_stepped_deed ?k_read_stepped_deed ?a_depth_of ?l_depth_of ?c_depth_of ?k_depth_of ?a_rest_behind_row ?l_rest_behind_row ?c_rest_behind_row ?k_rest_behind_row ?a_rest_behind_piece ?l_rest_behind_piece ?c_rest_behind_piece ?k_rest_behind_piece ?a_rest_behind_deed ?l_rest_behind_deed ?c_rest_behind_deed ?k_rest_behind_deed ?a_comes_nearer ?l_comes_nearer ?c_comes_nearer ?k_comes_nearer ?a_first_endless ?l_first_endless ?c_first_endless ?k_first_endless ?a_most_deeds ?l_most_deeds ?c_most_deeds ?k_most_deeds ?a_most_deeds_of_piece ?l_most_deeds_of_piece ?c_most_deeds_of_piece ?k_most_deeds_of_piece ?a_is_accepted ?l_is_accepted ?c_is_accepted ?k_is_accepted ?a_Table_init ?i_Table_init ?l_Table_init ?c_Table_init ?k_Table_init ?mk_Table ?kc_Table ?a_Table_has_row_here ?i_Table_has_row_here ?l_Table_has_row_here ?c_Table_has_row_here ?k_Table_has_row_here ?a_Table_copied ?i_Table_copied ?l_Table_copied ?c_Table_copied ?k_Table_copied ?a_Table_as_numbers ?i_Table_as_numbers ?l_Table_as_numbers ?c_Table_as_numbers ?k_Table_as_numbers ?a_read_table ?l_read_table ?c_read_table ?k_read_table ?a_places_changed ?l_places_changed ?c_places_changed ?k_places_changed ?a_do_deed ?l_do_deed ?c_do_deed ?k_do_deed ?a_go_up ?l_go_up ?c_go_up ?k_go_up ?a_find_below ?l_find_below ?c_find_below ?k_find_below ?a_do_with_field ?l_do_with_field ?c_do_with_field ?k_do_with_field ?a_put_value ?l_put_value ?c_put_value ?k_put_value ?a_do_with_row ?l_do_with_row ?c_do_with_row ?k_do_with_row ?a_Run_init ?i_Run_init ?l_Run_init ?c_Run_init ?k_Run_init ?mk_Run ?kc_Run ?a_Run_do_row ?i_Run_do_row ?l_Run_do_row ?c_Run_do_row ?k_Run_do_row ?a_Run_do_piece ?i_Run_do_piece ?l_Run_do_piece ?c_Run_do_piece ?k_Run_do_piece ?a_Run_do_counted ?i_Run_do_counted ?l_Run_do_counted ?c_Run_do_counted ?k_Run_do_counted ?a_Run_do_rounds ?i_Run_do_rounds ?l_Run_do_rounds ?c_Run_do_rounds ?k_Run_do_rounds ?a_Run_do_to_end ?i_Run_do_to_end ?l_Run_do_to_end ?c_Run_do_to_end ?k_Run_do_to_end ?a_Run_is_called_for ?i_Run_is_called_for ?l_Run_is_called_for ?c_Run_is_called_for ?k_Run_is_called_for ?a_run_row ?l_run_row ?c_run_row ?k_run_row ?a_read_recording ?l_read_recording ?c_read_recording ?k_read_recording ?a_recording_numbers ?l_recording_numbers ?c_recording_numbers ?k_recording_numbers ?a_cleaned ?l_cleaned ?c_cleaned ?k_cleaned ?a_without_first_slip ?l_without_first_slip ?c_without_first_slip ?k_without_first_slip ?a_become ?l_become ?c_become ?k_become ?a_become_of_one_field ?l_become_of_one_field ?c_become_of_one_field ?k_become_of_one_field ?a_deed_with ?l_deed_with ?c_deed_with ?k_deed_with ?a_fields_written ?l_fields_written ?c_fields_written ?k_fields_written ?a_fields_read ?l_fields_read ?c_fields_read ?k_fields_read ?a_piece_reads ?l_piece_reads ?c_piece_reads ?k_piece_reads ?a_rising ?l_rising ?c_rising ?k_rising ?a_rows_may_change ?l_rows_may_change ?c_rows_may_change ?k_rows_may_change ?a_reads_old_clipboard ?l_reads_old_clipboard ?c_reads_old_clipboard ?k_reads_old_clipboard ?a_surely_copies ?l_surely_copies ?c_surely_copies ?k_surely_copies ?a_read_fields ?l_read_fields ?c_read_fields ?k_read_fields ?a_is_against ?l_is_against ?c_is_against ?k_is_against ?a_Desk_init ?i_Desk_init ?l_Desk_init ?c_Desk_init ?k_Desk_init ?mk_Desk ?kc_Desk ?a_Desk_put_program ?i_Desk_put_program ?l_Desk_put_program ?c_Desk_put_program ?k_Desk_put_program ?a_Desk_told ?i_Desk_told ?l_Desk_told ?c_Desk_told ?k_Desk_told ?a_Desk_touches ?i_Desk_touches ?l_Desk_touches ?c_Desk_touches ?k_Desk_touches ?a_Desk_ends ?i_Desk_ends ?l_Desk_ends ?c_Desk_ends ?k_Desk_ends ?a_Desk_allowed ?i_Desk_allowed ?l_Desk_allowed ?c_Desk_allowed ?k_Desk_allowed ?a_Desk_run_on ?i_Desk_run_on ?l_Desk_run_on ?c_Desk_run_on ?k_Desk_run_on ?a_Desk_changed_on ?i_Desk_changed_on ?l_Desk_changed_on ?c_Desk_changed_on ?k_Desk_changed_on ?a_Desk_join_program ?i_Desk_join_program ?l_Desk_join_program ?c_Desk_join_program ?k_Desk_join_program ?a_Desk_clean ?i_Desk_clean ?l_Desk_clean ?c_Desk_clean ?k_Desk_clean ?a_Desk_same ?i_Desk_same ?l_Desk_same ?c_Desk_same ?k_Desk_same ?a_answers ?l_answers ?c_answers ?k_answers ?a_answer_call ?l_answer_call ?c_answer_call ?k_answer_call ?a_DOWN ?a_UP ?a_TOP ?a_WRITE ?a_ADD ?a_COPY ?a_PASTE ?a_DELETE ?a_DOUBLE ?a_FIND ?a_FIELDS ?a_FARTHEST_VALUE ?a_DEED ?a_LOOP ?a_LOOP_TO_END ?a_PART ?a_MOST_ROUNDS ?a_MOST_PIECES ?a_MOST_DEPTH ?a_ROUNDS_TO_END ?a_MOST_ACCEPTED ?a_MOST_ROWS ?a_WELL ?a_NO_ROW_HERE ?a_AT_FIRST_ROW ?a_VALUE_BEYOND ?a_NO_ROOM ?a_NONE_FOUND ?a_TOO_LONG ?a_MOST_DEEDS_DONE ?a_MOST_ROUNDS_TO_END ?a_MOST_RECORDED ?a_PROGRAM ?a_TOLD ?a_TOUCHES ?a_ENDS ?a_ALLOWED ?a_RUN ?a_CHANGED ?a_JOIN ?a_CLEAN ?a_SAME ?a_ValueError ?a_any ?a_enumerate ?a_isinstance ?a_len ?a_list ?a_max ?a_range ?a_sum ?hn ?htk ?ic_Deed ?ty_Deed ?s_Loop_Deed ?ne_Loop_Deed ?s_LoopToEnd_Deed ?ne_LoopToEnd_Deed ?s_Part_Deed ?ne_Part_Deed ?ic_LoopToEnd ?ty_LoopToEnd ?s_Deed_LoopToEnd ?ne_Deed_LoopToEnd ?s_Loop_LoopToEnd ?ne_Loop_LoopToEnd ?s_Part_LoopToEnd ?ne_Part_LoopToEnd ?ic_Loop ?ty_Loop ?s_Deed_Loop ?ne_Deed_Loop ?s_LoopToEnd_Loop ?ne_LoopToEnd_Loop ?s_Part_Loop ?ne_Part_Loop ?ic_Part ?ty_Part ?s_Deed_Part ?ne_Deed_Part ?s_Loop_Part ?ne_Loop_Part ?s_LoopToEnd_Part ?ne_LoopToEnd_Part ?kk
    (case a_Deed => k_is)
    (case pg_Deed => k_is)
    (case hd_Deed => k_is)
    (case po_Deed => k_is)
    (case sa_Deed => k_is)
    (case ha_Deed => k_is)
    (case hm_Deed => k_is)
    (case n_Deed_kind => k_is)
    (case n_Deed_field => k_is)
    (case n_Deed_value => k_is)
    (case n_Deed_step => k_is)
    (case a_Reader => k_is)
    (case pg_Reader => k_is)
    (case hd_Reader => k_is)
    (case po_Reader => k_is)
    (case sa_Reader => k_is)
    (case ha_Reader => k_is)
    (case hm_Reader => k_is)
    (case n_Reader_numbers => k_is)
    (case n_Reader_place => k_is)
    (case a_Loop => k_is)
    (case pg_Loop => k_is)
    (case hd_Loop => k_is)
    (case po_Loop => k_is)
    (case sa_Loop => k_is)
    (case ha_Loop => k_is)
    (case hm_Loop => k_is)
    (case n_Loop_rounds => k_is)
    (case n_Loop_row => k_is)
    (case a_LoopToEnd => k_is)
    (case pg_LoopToEnd => k_is)
    (case hd_LoopToEnd => k_is)
    (case po_LoopToEnd => k_is)
    (case sa_LoopToEnd => k_is)
    (case ha_LoopToEnd => k_is)
    (case hm_LoopToEnd => k_is)
    (case n_LoopToEnd_row => k_is)
    (case a_Part => k_is)
    (case pg_Part => k_is)
    (case hd_Part => k_is)
    (case po_Part => k_is)
    (case sa_Part => k_is)
    (case ha_Part => k_is)
    (case hm_Part => k_is)
    (case n_Part_field => k_is)
    (case n_Part_value => k_is)
    (case n_Part_row => k_is)
    (case a_Program => k_is)
    (case pg_Program => k_is)
    (case hd_Program => k_is)
    (case po_Program => k_is)
    (case sa_Program => k_is)
    (case ha_Program => k_is)
    (case hm_Program => k_is)
    (case n_Program_numbers => k_is)
    (case n_Program_row => k_is)
    (case n_Program_pieces => k_is)
    (case a_Table => k_is)
    (case pg_Table => k_is)
    (case hd_Table => k_is)
    (case po_Table => k_is)
    (case sa_Table => k_is)
    (case ha_Table => k_is)
    (case hm_Table => k_is)
    (case n_Table_rows => k_is)
    (case n_Table_cursor => k_is)
    (case n_Table_clipboard => k_is)
    (case a_Run => k_is)
    (case pg_Run => k_is)
    (case hd_Run => k_is)
    (case po_Run => k_is)
    (case sa_Run => k_is)
    (case ha_Run => k_is)
    (case hm_Run => k_is)
    (case n_Run_table => k_is)
    (case n_Run_done => k_is)
    (case n_Run_ended => k_is)
    (case a_Desk => k_is)
    (case pg_Desk => k_is)
    (case hd_Desk => k_is)
    (case po_Desk => k_is)
    (case sa_Desk => k_is)
    (case ha_Desk => k_is)
    (case hm_Desk => k_is)
    (case n_Desk_program => k_is)
    (case a_NotWhole => k_is)
    (case x_NotWhole => k_exc)
    (case k_NotWhole => k_is)
    (case b_NotWhole => k_is)
    (case t_NotWhole => k_is)
    (case i_NotWhole => k_is)
    (case s_NotWhole => first | rfl | k_is)
    (case a_Deed_init => k_is)
    (case i_Deed_init => k_is)
    (case l_Deed_init => k_is)
    (case c_Deed_init => k_is)
    (case k_Deed_init => k_is)
    (case mk_Deed => k_is)
    (case kc_Deed => k_is)
    (case a_Deed_has_field => k_is)
    (case i_Deed_has_field => k_is)
    (case l_Deed_has_field => k_is)
    (case c_Deed_has_field => k_is)
    (case k_Deed_has_field => k_is)
    (case a_Deed_has_value => k_is)
    (case i_Deed_has_value => k_is)
    (case l_Deed_has_value => k_is)
    (case c_Deed_has_value => k_is)
    (case k_Deed_has_value => k_is)
    (case a_Deed_writes_field => k_is)
    (case i_Deed_writes_field => k_is)
    (case l_Deed_writes_field => k_is)
    (case c_Deed_writes_field => k_is)
    (case k_Deed_writes_field => k_is)
    (case a_Deed_reads_field => k_is)
    (case i_Deed_reads_field => k_is)
    (case l_Deed_reads_field => k_is)
    (case c_Deed_reads_field => k_is)
    (case k_Deed_reads_field => k_is)
    (case a_Deed_changes_rows => k_is)
    (case i_Deed_changes_rows => k_is)
    (case l_Deed_changes_rows => k_is)
    (case c_Deed_changes_rows => k_is)
    (case k_Deed_changes_rows => k_is)
    (case a_read_field => k_is)
    (case l_read_field => k_is)
    (case c_read_field => k_is)
    (case k_read_field => k_is)
    (case a_read_value => k_is)
    (case l_read_value => k_is)
    (case c_read_value => k_is)
    (case k_read_value => k_is)
    (case a_read_deed => k_is)
    (case l_read_deed => k_is)
    (case c_read_deed => k_is)
    (case k_read_deed => k_is)
    (case a_deed_numbers => k_is)
    (case l_deed_numbers => k_is)
    (case c_deed_numbers => k_is)
    (case k_deed_numbers => k_is)
    (case a_Reader_init => k_is)
    (case i_Reader_init => k_is)
    (case l_Reader_init => k_is)
    (case c_Reader_init => k_is)
    (case k_Reader_init => k_is)
    (case mk_Reader => k_is)
    (case kc_Reader => k_is)
    (case a_Reader_at_end => k_is)
    (case i_Reader_at_end => k_is)
    (case l_Reader_at_end => k_is)
    (case c_Reader_at_end => k_is)
    (case k_Reader_at_end => k_is)
    (case a_Reader_take => k_is)
    (case i_Reader_take => k_is)
    (case l_Reader_take => k_is)
    (case c_Reader_take => k_is)
    (case k_Reader_take => k_is)
    (case a_Reader_take_within => k_is)
    (case i_Reader_take_within => k_is)
    (case l_Reader_take_within => k_is)
    (case c_Reader_take_within => k_is)
    (case k_Reader_take_within => k_is)
    (case a_Reader_take_list => k_is)
    (case i_Reader_take_list => k_is)
    (case l_Reader_take_list => k_is)
    (case c_Reader_take_list => k_is)
    (case k_Reader_take_list => k_is)
    (case a_Reader_finish => k_is)
    (case i_Reader_finish => k_is)
    (case l_Reader_finish => k_is)
    (case c_Reader_finish => k_is)
    (case k_Reader_finish => k_is)
    (case a_Loop_init => k_is)
    (case i_Loop_init => k_is)
    (case l_Loop_init => k_is)
    (case c_Loop_init => k_is)
    (case k_Loop_init => k_is)
    (case mk_Loop => k_is)
    (case kc_Loop => k_is)
    (case a_LoopToEnd_init => k_is)
    (case i_LoopToEnd_init => k_is)
    (case l_LoopToEnd_init => k_is)
    (case c_LoopToEnd_init => k_is)
    (case k_LoopToEnd_init => k_is)
    (case mk_LoopToEnd => k_is)
    (case kc_LoopToEnd => k_is)
    (case a_Part_init => k_is)
    (case i_Part_init => k_is)
    (case l_Part_init => k_is)
    (case c_Part_init => k_is)
    (case k_Part_init => k_is)
    (case mk_Part => k_is)
    (case kc_Part => k_is)
    (case a_Program_init => k_is)
    (case i_Program_init => k_is)
    (case l_Program_init => k_is)
    (case c_Program_init => k_is)
    (case k_Program_init => k_is)
    (case mk_Program => k_is)
    (case kc_Program => k_is)
    (case a_read_program => k_is)
    (case l_read_program => k_is)
    (case c_read_program => k_is)
    (case k_read_program => k_is)
    (case a_numbers_joined => k_is)
    (case l_numbers_joined => k_is)
    (case c_numbers_joined => k_is)
    (case k_numbers_joined => k_is)
    (case a_read_row => k_is)
    (case l_read_row => k_is)
    (case c_read_row => k_is)
    (case k_read_row => k_is)
    (case a_read_piece => k_is)
    (case l_read_piece => k_is)
    (case c_read_piece => k_is)
    (case k_read_piece => k_is)
    (case a_read_head => k_is)
    (case l_read_head => k_is)
    (case c_read_head => k_is)
    (case k_read_head => k_is)
    (case a_read_stepped_deed => k_is)
    (case l_read_stepped_deed => k_is)
    (case c_read_stepped_deed => k_is)
    (case k_read_stepped_deed => k_is)
    (case a_depth_of => k_is)
    (case l_depth_of => k_is)
    (case c_depth_of => k_is)
    (case k_depth_of => k_is)
    (case a_rest_behind_row => k_is)
    (case l_rest_behind_row => k_is)
    (case c_rest_behind_row => k_is)
    (case k_rest_behind_row => k_is)
    (case a_rest_behind_piece => k_is)
    (case l_rest_behind_piece => k_is)
    (case c_rest_behind_piece => k_is)
    (case k_rest_behind_piece => k_is)
    (case a_rest_behind_deed => k_is)
    (case l_rest_behind_deed => k_is)
    (case c_rest_behind_deed => k_is)
    (case k_rest_behind_deed => k_is)
    (case a_comes_nearer => k_is)
    (case l_comes_nearer => k_is)
    (case c_comes_nearer => k_is)
    (case k_comes_nearer => k_is)
    (case a_first_endless => k_is)
    (case l_first_endless => k_is)
    (case c_first_endless => k_is)
    (case k_first_endless => k_is)
    (case a_most_deeds => k_is)
    (case l_most_deeds => k_is)
    (case c_most_deeds => k_is)
    (case k_most_deeds => k_is)
    (case a_most_deeds_of_piece => k_is)
    (case l_most_deeds_of_piece => k_is)
    (case c_most_deeds_of_piece => k_is)
    (case k_most_deeds_of_piece => k_is)
    (case a_is_accepted => k_is)
    (case l_is_accepted => k_is)
    (case c_is_accepted => k_is)
    (case k_is_accepted => k_is)
    (case a_Table_init => k_is)
    (case i_Table_init => k_is)
    (case l_Table_init => k_is)
    (case c_Table_init => k_is)
    (case k_Table_init => k_is)
    (case mk_Table => k_is)
    (case kc_Table => k_is)
    (case a_Table_has_row_here => k_is)
    (case i_Table_has_row_here => k_is)
    (case l_Table_has_row_here => k_is)
    (case c_Table_has_row_here => k_is)
    (case k_Table_has_row_here => k_is)
    (case a_Table_copied => k_is)
    (case i_Table_copied => k_is)
    (case l_Table_copied => k_is)
    (case c_Table_copied => k_is)
    (case k_Table_copied => k_is)
    (case a_Table_as_numbers => k_is)
    (case i_Table_as_numbers => k_is)
    (case l_Table_as_numbers => k_is)
    (case c_Table_as_numbers => k_is)
    (case k_Table_as_numbers => k_is)
    (case a_read_table => k_is)
    (case l_read_table => k_is)
    (case c_read_table => k_is)
    (case k_read_table => k_is)
    (case a_places_changed => k_is)
    (case l_places_changed => k_is)
    (case c_places_changed => k_is)
    (case k_places_changed => k_is)
    (case a_do_deed => k_is)
    (case l_do_deed => k_is)
    (case c_do_deed => k_is)
    (case k_do_deed => k_is)
    (case a_go_up => k_is)
    (case l_go_up => k_is)
    (case c_go_up => k_is)
    (case k_go_up => k_is)
    (case a_find_below => k_is)
    (case l_find_below => k_is)
    (case c_find_below => k_is)
    (case k_find_below => k_is)
    (case a_do_with_field => k_is)
    (case l_do_with_field => k_is)
    (case c_do_with_field => k_is)
    (case k_do_with_field => k_is)
    (case a_put_value => k_is)
    (case l_put_value => k_is)
    (case c_put_value => k_is)
    (case k_put_value => k_is)
    (case a_do_with_row => k_is)
    (case l_do_with_row => k_is)
    (case c_do_with_row => k_is)
    (case k_do_with_row => k_is)
    (case a_Run_init => k_is)
    (case i_Run_init => k_is)
    (case l_Run_init => k_is)
    (case c_Run_init => k_is)
    (case k_Run_init => k_is)
    (case mk_Run => k_is)
    (case kc_Run => k_is)
    (case a_Run_do_row => k_is)
    (case i_Run_do_row => k_is)
    (case l_Run_do_row => k_is)
    (case c_Run_do_row => k_is)
    (case k_Run_do_row => k_is)
    (case a_Run_do_piece => k_is)
    (case i_Run_do_piece => k_is)
    (case l_Run_do_piece => k_is)
    (case c_Run_do_piece => k_is)
    (case k_Run_do_piece => k_is)
    (case a_Run_do_counted => k_is)
    (case i_Run_do_counted => k_is)
    (case l_Run_do_counted => k_is)
    (case c_Run_do_counted => k_is)
    (case k_Run_do_counted => k_is)
    (case a_Run_do_rounds => k_is)
    (case i_Run_do_rounds => k_is)
    (case l_Run_do_rounds => k_is)
    (case c_Run_do_rounds => k_is)
    (case k_Run_do_rounds => k_is)
    (case a_Run_do_to_end => k_is)
    (case i_Run_do_to_end => k_is)
    (case l_Run_do_to_end => k_is)
    (case c_Run_do_to_end => k_is)
    (case k_Run_do_to_end => k_is)
    (case a_Run_is_called_for => k_is)
    (case i_Run_is_called_for => k_is)
    (case l_Run_is_called_for => k_is)
    (case c_Run_is_called_for => k_is)
    (case k_Run_is_called_for => k_is)
    (case a_run_row => k_is)
    (case l_run_row => k_is)
    (case c_run_row => k_is)
    (case k_run_row => k_is)
    (case a_read_recording => k_is)
    (case l_read_recording => k_is)
    (case c_read_recording => k_is)
    (case k_read_recording => k_is)
    (case a_recording_numbers => k_is)
    (case l_recording_numbers => k_is)
    (case c_recording_numbers => k_is)
    (case k_recording_numbers => k_is)
    (case a_cleaned => k_is)
    (case l_cleaned => k_is)
    (case c_cleaned => k_is)
    (case k_cleaned => k_is)
    (case a_without_first_slip => k_is)
    (case l_without_first_slip => k_is)
    (case c_without_first_slip => k_is)
    (case k_without_first_slip => k_is)
    (case a_become => k_is)
    (case l_become => k_is)
    (case c_become => k_is)
    (case k_become => k_is)
    (case a_become_of_one_field => k_is)
    (case l_become_of_one_field => k_is)
    (case c_become_of_one_field => k_is)
    (case k_become_of_one_field => k_is)
    (case a_deed_with => k_is)
    (case l_deed_with => k_is)
    (case c_deed_with => k_is)
    (case k_deed_with => k_is)
    (case a_fields_written => k_is)
    (case l_fields_written => k_is)
    (case c_fields_written => k_is)
    (case k_fields_written => k_is)
    (case a_fields_read => k_is)
    (case l_fields_read => k_is)
    (case c_fields_read => k_is)
    (case k_fields_read => k_is)
    (case a_piece_reads => k_is)
    (case l_piece_reads => k_is)
    (case c_piece_reads => k_is)
    (case k_piece_reads => k_is)
    (case a_rising => k_is)
    (case l_rising => k_is)
    (case c_rising => k_is)
    (case k_rising => k_is)
    (case a_rows_may_change => k_is)
    (case l_rows_may_change => k_is)
    (case c_rows_may_change => k_is)
    (case k_rows_may_change => k_is)
    (case a_reads_old_clipboard => k_is)
    (case l_reads_old_clipboard => k_is)
    (case c_reads_old_clipboard => k_is)
    (case k_reads_old_clipboard => k_is)
    (case a_surely_copies => k_is)
    (case l_surely_copies => k_is)
    (case c_surely_copies => k_is)
    (case k_surely_copies => k_is)
    (case a_read_fields => k_is)
    (case l_read_fields => k_is)
    (case c_read_fields => k_is)
    (case k_read_fields => k_is)
    (case a_is_against => k_is)
    (case l_is_against => k_is)
    (case c_is_against => k_is)
    (case k_is_against => k_is)
    (case a_Desk_init => k_is)
    (case i_Desk_init => k_is)
    (case l_Desk_init => k_is)
    (case c_Desk_init => k_is)
    (case k_Desk_init => k_is)
    (case mk_Desk => k_is)
    (case kc_Desk => k_is)
    (case a_Desk_put_program => k_is)
    (case i_Desk_put_program => k_is)
    (case l_Desk_put_program => k_is)
    (case c_Desk_put_program => k_is)
    (case k_Desk_put_program => k_is)
    (case a_Desk_told => k_is)
    (case i_Desk_told => k_is)
    (case l_Desk_told => k_is)
    (case c_Desk_told => k_is)
    (case k_Desk_told => k_is)
    (case a_Desk_touches => k_is)
    (case i_Desk_touches => k_is)
    (case l_Desk_touches => k_is)
    (case c_Desk_touches => k_is)
    (case k_Desk_touches => k_is)
    (case a_Desk_ends => k_is)
    (case i_Desk_ends => k_is)
    (case l_Desk_ends => k_is)
    (case c_Desk_ends => k_is)
    (case k_Desk_ends => k_is)
    (case a_Desk_allowed => k_is)
    (case i_Desk_allowed => k_is)
    (case l_Desk_allowed => k_is)
    (case c_Desk_allowed => k_is)
    (case k_Desk_allowed => k_is)
    (case a_Desk_run_on => k_is)
    (case i_Desk_run_on => k_is)
    (case l_Desk_run_on => k_is)
    (case c_Desk_run_on => k_is)
    (case k_Desk_run_on => k_is)
    (case a_Desk_changed_on => k_is)
    (case i_Desk_changed_on => k_is)
    (case l_Desk_changed_on => k_is)
    (case c_Desk_changed_on => k_is)
    (case k_Desk_changed_on => k_is)
    (case a_Desk_join_program => k_is)
    (case i_Desk_join_program => k_is)
    (case l_Desk_join_program => k_is)
    (case c_Desk_join_program => k_is)
    (case k_Desk_join_program => k_is)
    (case a_Desk_clean => k_is)
    (case i_Desk_clean => k_is)
    (case l_Desk_clean => k_is)
    (case c_Desk_clean => k_is)
    (case k_Desk_clean => k_is)
    (case a_Desk_same => k_is)
    (case i_Desk_same => k_is)
    (case l_Desk_same => k_is)
    (case c_Desk_same => k_is)
    (case k_Desk_same => k_is)
    (case a_answers => k_is)
    (case l_answers => k_is)
    (case c_answers => k_is)
    (case k_answers => k_is)
    (case a_answer_call => k_is)
    (case l_answer_call => k_is)
    (case c_answer_call => k_is)
    (case k_answer_call => k_is)
    (case a_DOWN => k_is)
    (case a_UP => k_is)
    (case a_TOP => k_is)
    (case a_WRITE => k_is)
    (case a_ADD => k_is)
    (case a_COPY => k_is)
    (case a_PASTE => k_is)
    (case a_DELETE => k_is)
    (case a_DOUBLE => k_is)
    (case a_FIND => k_is)
    (case a_FIELDS => k_is)
    (case a_FARTHEST_VALUE => k_is)
    (case a_DEED => k_is)
    (case a_LOOP => k_is)
    (case a_LOOP_TO_END => k_is)
    (case a_PART => k_is)
    (case a_MOST_ROUNDS => k_is)
    (case a_MOST_PIECES => k_is)
    (case a_MOST_DEPTH => k_is)
    (case a_ROUNDS_TO_END => k_is)
    (case a_MOST_ACCEPTED => k_is)
    (case a_MOST_ROWS => k_is)
    (case a_WELL => k_is)
    (case a_NO_ROW_HERE => k_is)
    (case a_AT_FIRST_ROW => k_is)
    (case a_VALUE_BEYOND => k_is)
    (case a_NO_ROOM => k_is)
    (case a_NONE_FOUND => k_is)
    (case a_TOO_LONG => k_is)
    (case a_MOST_DEEDS_DONE => k_is)
    (case a_MOST_ROUNDS_TO_END => k_is)
    (case a_MOST_RECORDED => k_is)
    (case a_PROGRAM => k_is)
    (case a_TOLD => k_is)
    (case a_TOUCHES => k_is)
    (case a_ENDS => k_is)
    (case a_ALLOWED => k_is)
    (case a_RUN => k_is)
    (case a_CHANGED => k_is)
    (case a_JOIN => k_is)
    (case a_CLEAN => k_is)
    (case a_SAME => k_is)
    (case a_ValueError => k_is)
    (case a_any => k_is)
    (case a_enumerate => k_is)
    (case a_isinstance => k_is)
    (case a_len => k_is)
    (case a_list => k_is)
    (case a_max => k_is)
    (case a_range => k_is)
    (case a_sum => k_is)
    (case hn => k_is)
    (case htk => k_is)
    (case ic_Deed => k_is)
    (case ty_Deed => k_is)
    (case s_Loop_Deed => k_is)
    (case ne_Loop_Deed => decide)
    (case s_LoopToEnd_Deed => k_is)
    (case ne_LoopToEnd_Deed => decide)
    (case s_Part_Deed => k_is)
    (case ne_Part_Deed => decide)
    (case ic_LoopToEnd => k_is)
    (case ty_LoopToEnd => k_is)
    (case s_Deed_LoopToEnd => k_is)
    (case ne_Deed_LoopToEnd => decide)
    (case s_Loop_LoopToEnd => k_is)
    (case ne_Loop_LoopToEnd => decide)
    (case s_Part_LoopToEnd => k_is)
    (case ne_Part_LoopToEnd => decide)
    (case ic_Loop => k_is)
    (case ty_Loop => k_is)
    (case s_Deed_Loop => k_is)
    (case ne_Deed_Loop => decide)
    (case s_LoopToEnd_Loop => k_is)
    (case ne_LoopToEnd_Loop => decide)
    (case s_Part_Loop => k_is)
    (case ne_Part_Loop => decide)
    (case ic_Part => k_is)
    (case ty_Part => k_is)
    (case s_Deed_Part => k_is)
    (case ne_Deed_Part => decide)
    (case s_Loop_Part => k_is)
    (case ne_Loop_Part => decide)
    (case s_LoopToEnd_Part => k_is)
    (case ne_LoopToEnd_Part => decide)
    case kk =>
      intro t ht
      have e : t.d_answers.f = fa := by
        have e2 : some (Value.ref t.d_answers.f) = some (Value.ref fa) := t.d_answers.g.symm.trans hmg
        injection e2 with e3
        injection e3
      subst e
      exact ⟨t.d_answers.d, fun s us hu => G.bind_answers t s us hu, fun base _ _ => G.ok_answers t⟩
  case S =>
    intro K H xs a hO hwi hask hx
    cases hx with
    | cons h1 h2 =>
      cases h2
      cases h1 with
      | lst hs ha =>
        have e := L2.ints_dw a.1 _ ha
        subst e
        have q : ((Codec.inLen 0 7400 a.1 && a.1.all (Codec.inInt (Int.negSucc 999999999999999999) (Int.ofNat 1000000000000000000))) && true) = true := hwi
        rw [Bool.and_eq_true, Bool.and_eq_true] at q
        exact ⟨_, a.1, rfl, hs, (Codec.inNat_iff.mp q.1.1).2, hask, fun H' p hp => .lst (L2.SqL.of hp) (L2.dw_ints _)⟩
