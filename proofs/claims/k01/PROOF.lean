import PyProof.Rows.All
import Wide.All
import OpenK.AllK
import Wide.FinOn
import HandS.ForMost
import HandS.IsInst
import HandS.Style
import HandS.Zip
import HandS.Walk
import HandS.Exc
import HandS.TryOnly
import HandS.ExcOwn
import HandS.WordsExc
import HandS.ExcIs
import KE.OsGo
import HandS.Codes
import HandS.Text
import KE.KTupSum
import PySem.Challenge.RW_wheelchorus_k01_rows_and_blocks
set_option Elab.async false
set_option linter.all false
set_option maxRecDepth 100000
set_option maxHeartbeats 4000000
/-! Numbers as lists of digits, their rows, and where two rows part. -/
namespace Wm
open PySem L2
def codes (ds : List Nat) : List Nat := ds.map (· + 48)
def numS (ds : List Nat) : Str := ⟨(codes ds).toArray⟩
structure Dig (ds : List Nat) : Prop where
  dig : ∀ d ∈ ds, 1 ≤ d ∧ d ≤ 9
structure Num (ds : List Nat) : Prop where
  pos : 1 ≤ ds.length
  len : ds.length ≤ 4
  dig : ∀ d ∈ ds, 1 ≤ d ∧ d ≤ 9
  sum : ds.sum ≤ 24
def blk (d : Nat) : List Int := (List.replicate d [1, 0]).flatten
def rowL : List Nat → List Int
  | [] => [0, 0]
  | d :: ds => blk d ++ ([0, 0] ++ rowL ds)
structure Diff (xs ys : List Int) (k : Nat) (a b : Int) : Prop where
  one : xs[k]? = some a
  two : ys[k]? = some b
  ne : a ≠ b
  eq : ∀ j, j < k → xs[j]? = ys[j]?
theorem Diff.symm {xs ys : List Int} {k : Nat} {a b : Int} (h : Diff xs ys k a b) : Diff ys xs k b a :=
  ⟨h.two, h.one, h.ne.symm, fun j l => (h.eq j l).symm⟩
theorem Diff.cons {xs ys : List Int} {k : Nat} {a b : Int} (z : Int) (h : Diff xs ys k a b) : Diff (z :: xs) (z :: ys) (k + 1) a b := by
  refine ⟨by simpa using h.one, by simpa using h.two, h.ne, fun j l => ?_⟩
  cases j with
  | zero => rfl
  | succ j => simpa using h.eq j (by omega)
theorem Diff.app {xs ys : List Int} {k : Nat} {a b : Int} : ∀ (p : List Int), Diff xs ys k a b → Diff (p ++ xs) (p ++ ys) (p.length + k) a b
  | [], h => by simpa using h
  | z :: p, h => by
    have ih := (Diff.app p h).cons z
    have e : (z :: p).length + k = p.length + k + 1 := by simp only [List.length_cons]; omega
    rw [e]
    exact ih
theorem Diff.uniq {xs ys : List Int} {k l : Nat} {a b c d : Int} (h : Diff xs ys k a b) (g : Diff xs ys l c d) : k = l ∧ a = c ∧ b = d := by
  have e : k = l := by
    rcases Nat.lt_trichotomy k l with x | x | x
    · exact absurd (by have q := g.eq k x; rw [h.one, h.two] at q; exact Option.some.inj q) h.ne
    · exact x
    · exact absurd (by have q := h.eq l x; rw [g.one, g.two] at q; exact Option.some.inj q) g.ne
  subst e
  exact ⟨rfl, Option.some.inj (h.one.symm.trans g.one), Option.some.inj (h.two.symm.trans g.two)⟩
theorem Diff.lt1 {xs ys : List Int} {k : Nat} {a b : Int} (h : Diff xs ys k a b) : k < xs.length := (List.getElem?_eq_some_iff.mp h.one).1
theorem Diff.lt2 {xs ys : List Int} {k : Nat} {a b : Int} (h : Diff xs ys k a b) : k < ys.length := (List.getElem?_eq_some_iff.mp h.two).1
theorem blk_add (d e : Nat) : blk (d + e) = blk d ++ blk e := by
  unfold blk
  rw [← List.replicate_append_replicate, List.flatten_append]
theorem blk_succ (e : Nat) : blk (e + 1) = [1, 0] ++ blk e := by
  rw [Nat.add_comm, blk_add]
  rfl
theorem blk_len (d : Nat) : (blk d).length = 2 * d := by
  induction d with
  | zero => rfl
  | succ d ih => rw [blk_succ, List.length_append, ih]; simp only [List.length_cons, List.length_nil]; omega
theorem row_less (d e : Nat) (ds es : List Nat) (h : d < e) : Diff (rowL (d :: ds)) (rowL (e :: es)) (2 * d) 0 1 := by
  obtain ⟨f, rfl⟩ : ∃ f, e = d + (f + 1) := ⟨e - d - 1, by omega⟩
  have h0 : Diff ([0, 0] ++ rowL ds) ([1, 0] ++ (blk f ++ ([0, 0] ++ rowL es))) 0 0 1 := ⟨rfl, rfl, by decide, fun j l => absurd l (Nat.not_lt_zero _)⟩
  have h1 := h0.app (blk d)
  rw [blk_len, Nat.add_zero] at h1
  have e1 : rowL ((d + (f + 1)) :: es) = blk d ++ ([1, 0] ++ (blk f ++ ([0, 0] ++ rowL es))) := by
    show blk (d + (f + 1)) ++ _ = _
    rw [blk_add, blk_succ, List.append_assoc, List.append_assoc]
  rw [e1]
  exact h1
theorem rows_part : ∀ (ds es : List Nat), (∀ d ∈ ds, 1 ≤ d) → (∀ e ∈ es, 1 ≤ e) →
    ds = es ∨ (∃ k, Diff (rowL ds) (rowL es) k 1 0 ∧ es < ds) ∨ (∃ k, Diff (rowL ds) (rowL es) k 0 1 ∧ ds < es)
  | [], [], _, _ => .inl rfl
  | [], e :: es, _, h => by
    obtain ⟨f, rfl⟩ : ∃ f, e = f + 1 := ⟨e - 1, by have := h e (by simp); omega⟩
    refine .inr (.inr ⟨0, ⟨rfl, ?_, by decide, fun j l => absurd l (Nat.not_lt_zero _)⟩, List.nil_lt_cons _ _⟩)
    show (blk (f + 1) ++ _)[0]? = _
    rw [blk_succ]
    rfl
  | d :: ds, [], h, _ => by
    obtain ⟨f, rfl⟩ : ∃ f, d = f + 1 := ⟨d - 1, by have := h d (by simp); omega⟩
    refine .inr (.inl ⟨0, ⟨?_, rfl, by decide, fun j l => absurd l (Nat.not_lt_zero _)⟩, List.nil_lt_cons _ _⟩)
    show (blk (f + 1) ++ _)[0]? = _
    rw [blk_succ]
    rfl
  | d :: ds, e :: es, h, g => by
    rcases Nat.lt_trichotomy d e with x | x | x
    · exact .inr (.inr ⟨_, row_less d e ds es x, List.cons_lt_cons_iff.mpr (.inl x)⟩)
    · subst x
      rcases rows_part ds es (fun y m => h y (List.mem_cons_of_mem _ m)) (fun y m => g y (List.mem_cons_of_mem _ m)) with q | ⟨k, q, l⟩ | ⟨k, q, l⟩
      · exact .inl (by rw [q])
      · exact .inr (.inl ⟨_, (q.app [0, 0]).app (blk d), List.cons_lt_cons_iff.mpr (.inr ⟨rfl, l⟩)⟩)
      · exact .inr (.inr ⟨_, (q.app [0, 0]).app (blk d), List.cons_lt_cons_iff.mpr (.inr ⟨rfl, l⟩)⟩)
    · exact .inr (.inl ⟨_, (row_less e d es ds x).symm, List.cons_lt_cons_iff.mpr (.inl x)⟩)
theorem codes_lt : ∀ (ds es : List Nat), ds < es → codes ds < codes es
  | [], [], h => absurd h (List.lt_irrefl _)
  | [], _ :: _, _ => List.nil_lt_cons _ _
  | _ :: _, [], h => absurd h (List.not_lt_nil _)
  | d :: ds, e :: es, h => by
    rcases List.cons_lt_cons_iff.mp h with x | ⟨x, y⟩
    · exact List.cons_lt_cons_iff.mpr (.inl (Nat.add_lt_add_right x 48))
    · exact List.cons_lt_cons_iff.mpr (.inr ⟨by rw [x], codes_lt ds es y⟩)
theorem codes_inj : ∀ (ds es : List Nat), codes ds = codes es → ds = es
  | [], [], _ => rfl
  | [], _ :: _, h => by simp [codes] at h
  | _ :: _, [], h => by simp [codes] at h
  | d :: ds, e :: es, h => by
    have h1 : d + 48 = e + 48 := (List.cons.inj h).1
    have h2 : codes ds = codes es := (List.cons.inj h).2
    rw [codes_inj ds es h2, show d = e by omega]
theorem numS_cps (ds : List Nat) : (numS ds).cps.toList = codes ds := rfl
theorem numS_inj {ds es : List Nat} (h : numS ds = numS es) : ds = es := codes_inj _ _ (by rw [← numS_cps, h, numS_cps])
theorem numS_len (ds : List Nat) : (numS ds).length = ds.length := by
  show (codes ds).toArray.size = _
  simp [codes]
theorem lt_asymm' {a b : List Nat} (h : a < b) : ¬ b < a := fun g => List.lt_irrefl _ (List.lt_trans h g)
theorem rowL_le : ∀ ds : List Nat, (∀ d ∈ ds, d ≤ 9) → (rowL ds).length ≤ 20 * ds.length + 2
  | [], _ => by decide
  | d :: ds, h => by
    have ih := rowL_le ds fun y m => h y (List.mem_cons_of_mem _ m)
    have hd := h d (by simp)
    show (blk d ++ ([0, 0] ++ rowL ds)).length ≤ _
    rw [List.length_append, List.length_append, blk_len]
    simp only [List.length_cons, List.length_nil]
    omega
end Wm
/-! Digits as signs, texts of digits cut and joined; what a heap keeps. -/
namespace Wm
open PySem L2
theorem dig_cases {d : Nat} (h : 1 ≤ d ∧ d ≤ 9) : d = 1 ∨ d = 2 ∨ d = 3 ∨ d = 4 ∨ d = 5 ∨ d = 6 ∨ d = 7 ∨ d = 8 ∨ d = 9 := by omega
theorem dig_int {d : Nat} (h : 1 ≤ d ∧ d ≤ 9) : PySem.intText? ⟨#[d + 48]⟩ = some (d : Int) := by
  rcases dig_cases h with e | e | e | e | e | e | e | e | e <;> subst e <;> decide +kernel
theorem dig_in {d : Nat} (h : 1 ≤ d ∧ d ≤ 9) : (d + 48) ∈ ("123456789" : Str).cps.toList := by
  rcases dig_cases h with e | e | e | e | e | e | e | e | e <;> subst e <;> decide +kernel
theorem dig_str {d : Nat} (h : 1 ≤ d ∧ d ≤ 9) : ((toString (d : Int) : String) : Str) = numS [d] := by
  rcases dig_cases h with e | e | e | e | e | e | e | e | e <;> subst e <;> decide +kernel
theorem numS_app (ds es : List Nat) : numS ds ++ numS es = numS (ds ++ es) := by
  refine PyProof.Rows.ext_toList ?_
  show ((numS ds).cps ++ (numS es).cps).toList = _
  rw [Array.toList_append, numS_cps, numS_cps, numS_cps]
  simp [codes]
theorem numS_nil : numS [] = ("" : Str) := by decide +kernel
theorem numS_take (ds : List Nat) (k : Nat) : cutS (numS ds) none (some (k : Int)) = numS (ds.take k) := by
  refine PyProof.Rows.ext_toList ?_
  show ((codes ds).drop 0).take (HT.sIx (numS ds).length (numS ds).length (some (k : Int)) - 0) = codes (ds.take k)
  rw [numS_len, HT.sIx_nat, List.drop_zero, Nat.sub_zero]
  simp only [codes, ← List.map_take]
  congr 1
  rw [List.take_eq_take_iff]
  omega
theorem numS_last (ds : List Nat) : cutS (numS ds) none (some (-1)) = numS ds.dropLast := by
  refine PyProof.Rows.ext_toList ?_
  show ((codes ds).drop 0).take (HT.sIx (numS ds).length (numS ds).length (some (-1)) - 0) = codes ds.dropLast
  rw [numS_len, List.drop_zero, Nat.sub_zero, List.dropLast_eq_take]
  simp only [codes, ← List.map_take]
  have e : HT.sIx ds.length ds.length (some (-1)) = ds.length - 1 := by
    unfold HT.sIx
    simp only [show (-1 : Int) < 0 by decide, if_true]
    omega
  rw [e]
theorem numS_at (ds : List Nat) (i : Nat) (hi : i < ds.length) : (numS ds).cps[i]? = some (ds[i] + 48) := by
  show ((codes ds).toArray)[i]? = _
  simp [codes, hi]
theorem numS_size (ds : List Nat) : (numS ds).cps.size = ds.length := numS_len ds

/-! heaps -/
theorem same_new {H : Hp} {p : Addr} {o : HO} (n : H p = none) : Same H (upd H p o) := fun b u e => by
  rw [upd_ne (ne_of_none e n)]
  exact e
theorem at_old {H : Hp} {p q : Addr} {o u : HO} (h : H p = some o) (n : H q = none) : upd H q u p = some o := by
  rw [upd_ne (ne_of_none h n)]
  exact h
theorem sameT {K : PySem.W.Frag} {H H' : Hp} {a : Addr} {xs : List V} (e : Same H H') (h : SqT K H a xs) : SqT K H' a xs := by
  rcases h with (h | ⟨o, h⟩) | h
  · exact .inl (.inl (e _ _ h))
  · exact .inl (.inr ⟨o, e _ _ h⟩)
  · exact .inr h
/-- what stood stands, but for what H did not know and the object at p, which is new since -/
theorem same_mut {H H' : Hp} {p : Addr} {o : HO} (s : Same H H') (n : H p = none) : Same H (upd H' p o) := fun b u e => by
  rw [upd_ne (ne_of_none e n)]
  exact s b u e
def But (b : Addr) (H H' : Hp) : Prop := ∀ p o, p ≠ b → H p = some o → H' p = some o
theorem But.refl (b : Addr) (H : Hp) : But b H H := fun _ _ _ h => h
theorem But.trans {b : Addr} {H H1 H2 : Hp} (x : But b H H1) (y : But b H1 H2) : But b H H2 := fun p o n h => y p o n (x p o n h)
theorem But.of {b : Addr} {H H' : Hp} (s : Same H H') : But b H H' := fun p o _ h => s p o h
theorem But.set {b : Addr} {H : Hp} {o : HO} : But b H (upd H b o) := fun p u n h => by
  rw [upd_ne n]
  exact h
/-- the bag of draws: its cells' list and its four numbers -/
def Bag (H : Hp) (b : Addr) (n : Nat) : Prop :=
  ∃ (c : Addr) (x k m z : Int) (ns : List Int), H b = some (.lst [.int x, .ref c, .int k, .int m, .int z]) ∧ H c = some (.lst (ns.map V.int)) ∧ 0 ≤ k ∧ 0 ≤ m ∧ m ≤ (n : Int)
theorem bag_ne {H : Hp} {b c : Addr} {x k m z : Int} {ns : List Int} (hb : H b = some (.lst [.int x, .ref c, .int k, .int m, .int z])) (hc : H c = some (.lst (ns.map V.int))) : c ≠ b := by
  intro e
  subst e
  rw [hb] at hc
  have q := Option.some.inj hc
  have q2 : ([.int x, .ref c, .int k, .int m, .int z] : List V) = ns.map V.int := by injection q
  cases ns with
  | nil => simp at q2
  | cons u r => cases r with
    | nil => simp at q2
    | cons v r => simp at q2
theorem Bag.mono {H : Hp} {b : Addr} {n m : Nat} (h : Bag H b n) (l : n ≤ m) : Bag H b m := by
  obtain ⟨c, x, k, q, z, ns, h1, h2, h3, h4, h5⟩ := h
  exact ⟨c, x, k, q, z, ns, h1, h2, h3, h4, by omega⟩
theorem Bag.keep {H H' : Hp} {b : Addr} {n : Nat} (h : Bag H b n) (s : Same H H') : Bag H' b n := by
  obtain ⟨c, x, k, q, z, ns, h1, h2, h3, h4, h5⟩ := h
  exact ⟨c, x, k, q, z, ns, s _ _ h1, s _ _ h2, h3, h4, h5⟩
end Wm
namespace Wm
open PySem L2
theorem yesT {σ : L2.St} {H : Hp} {A B : Hp → Prop} (h : A H) : tYes σ H (fun b H3 => if b = true then A H3 else B H3) := by
  show (if true = true then A H else B H)
  rw [if_pos rfl]
  exact h
end Wm
/-! row[::2] of a list or a tuple; a loop over a list or a tuple. -/
namespace Hf
open PySem PySem.Spec PyProof.Rows L2
def ev2 {α : Type} : List α → List α
  | [] => []
  | [x] => [x]
  | x :: _ :: r => x :: ev2 r
theorem ev2_le {α : Type} : ∀ xs : List α, (ev2 xs).length ≤ xs.length
  | [] => Nat.le_refl _
  | [_] => Nat.le_refl _
  | x :: y :: r => by
    have ih := ev2_le r
    show (ev2 r).length + 1 ≤ r.length + 2
    omega
theorem ev2_mem {α : Type} {z : α} : ∀ {xs : List α}, z ∈ ev2 xs → z ∈ xs
  | [], h => h
  | [_], h => h
  | x :: y :: r, h => by
    rcases List.mem_cons.mp h with e | e
    · rw [e]; simp
    · exact List.mem_cons_of_mem _ (List.mem_cons_of_mem _ (ev2_mem e))
theorem ev2_map {α β : Type} (f : α → β) : ∀ xs : List α, ev2 (xs.map f) = (ev2 xs).map f
  | [] => rfl
  | [_] => rfl
  | x :: y :: r => by
    show f x :: ev2 (r.map f) = f x :: (ev2 r).map f
    rw [ev2_map f r]
theorem ev2_pick {α : Type} : ∀ xs : List α, (List.range ((xs.length + 1) / 2)).filterMap (fun k => xs[2 * k]?) = ev2 xs
  | [] => by simp [ev2]
  | [x] => by
    rw [show ([x].length + 1) / 2 = 1 by simp, show List.range 1 = [0] by decide]
    simp [ev2]
  | x :: y :: r => by
    have ih := ev2_pick r
    have e : ((x :: y :: r).length + 1) / 2 = (r.length + 1) / 2 + 1 := by
      show (r.length + 1 + 1 + 1) / 2 = _
      omega
    rw [e, List.range_succ_eq_map, List.filterMap_cons]
    show x :: _ = x :: ev2 r
    rw [List.filterMap_map, ← ih]
    rfl
theorem ev2_vals : ∀ {xs : List V} {us : List Value}, Vals xs us → Vals (ev2 xs) (ev2 us)
  | [], _, h => by cases h; exact .nil
  | [x], _, h => by
    cases h with
    | cons a b =>
      cases b
      exact .cons a .nil
  | x :: y :: r, _, h => by
    cases h with
    | cons a b =>
      cases b with
      | cons c d => exact .cons a (ev2_vals d)
theorem pick2 (items : Array Value) : slicePick items none none (some 2) = (ev2 items.toList).toArray := by
  have e := ev2_pick items.toList
  unfold slicePick
  have b : sliceBounds none none (some 2) items.size = (0, (items.size : Int), 2) := by
    first
    | rfl
    | simp [sliceBounds]
  rw [b]
  show ((sliceRange 0 (items.size : Int) 2).filterMap (items[·]?)).toArray = _
  have r : sliceRange 0 (items.size : Int) 2 = (List.range ((items.size + 1) / 2)).map fun k => 2 * k := by
    unfold sliceRange
    have h1 : (2 : Int) > 0 := by decide
    by_cases h : (0 : Int) < (items.size : Int)
    · have e : ((items.size : Int) - 0 + 2 - 1) / 2 = (((items.size + 1) / 2 : Nat) : Int) := by omega
      simp only [h1, if_true, h, e, Int.toNat_natCast]
      apply List.map_congr_left
      intro k _
      omega
    · have e : items.size = 0 := by omega
      simp [e]
  rw [r, List.filterMap_map]
  rw [Array.length_toList] at e
  rw [← e]
  refine congrArg List.toArray (congrArg (fun f => List.filterMap f _) (funext fun k => ?_))
  show items[2 * k]? = _
  rw [Array.getElem?_toList]
section
variable {prog : Program} {w : World} {A : Around} {E : Value → Shared → Prop} {s : Shared}
theorem places2 (n : Nat) : Builtin.Slice.slicePlaces 0 (n : Int) 2 = (n + 1) / 2 := by
  unfold Builtin.Slice.slicePlaces
  have h1 : (2 : Int) > 0 := by omega
  simp only [h1, if_true]
  split <;> omega
theorem adjust2 (n : Nat) : Builtin.Slice.sliceAdjust none none 2 (n : Int) = (0, (n : Int)) := by
  have h1 : ¬ ((2 : Int) < 0) := by omega
  unfold Builtin.Slice.sliceAdjust
  simp only [h1, if_false]
theorem sliceApplied2 {sl : Addr} {t : Tok} {n : Nat} {Q : Int × Int × Nat → Shared → Prop} (hs : s.heap.IsSliceOf sl .none .none (.int 2 t))
    (h : Q (0, 2, (n + 1) / 2) s) : wpAny (model prog w) A (Builtin.Slice.sliceApplied (.ref sl) (pure (n : Int))) Q E s := by
  obtain ⟨os, hos, hcs, hds⟩ := id hs
  unfold Builtin.Slice.sliceApplied Builtin.Slice.sliceFields
  refine wpAny_bind (wpAny_bind (wpAny_field hos hds (x := .none) rfl (wpAny_bind (wpAny_field hos hds (x := .none) rfl (wpAny_bind (wpAny_field hos hds (x := .int 2 t) rfl (wpAny_pure ?_)))))))
  refine wpAny_bind (slicePart_int ?_)
  show wpAny _ _ (if ((2 : Int) == 0) = true then _ else _) _ _ s
  rw [if_neg (by decide)]
  refine wpAny_bind (HT.slicePart_ .none (wpAny_bind (HT.slicePart_ .none (wpAny_bind (wpAny_pure ?_)))))
  show wpAny _ _ (match Builtin.Slice.sliceAdjust none none 2 (n : Int) with | (lo, hi) => pure (lo, (2 : Int), Builtin.Slice.slicePlaces lo hi 2)) _ _ s
  rw [adjust2 n]
  show wpAny _ _ (pure ((0 : Int), (2 : Int), Builtin.Slice.slicePlaces (0 : Int) (n : Int) 2)) _ _ s
  rw [places2]
  exact wpAny_pure h
theorem pick2t (xs : Array Value) : ((List.range ((xs.size + 1) / 2)).filterMap fun (m : Nat) => xs[((0 : Int) + (m : Int) * 2).toNat]?).toArray = (ev2 xs.toList).toArray := by
  have e : (fun (m : Nat) => xs[((0 : Int) + (m : Int) * 2).toNat]?) = fun m => xs.toList[2 * m]? := by
    funext m
    have : ((0 : Int) + (m : Int) * 2).toNat = 2 * m := by omega
    rw [this, Array.getElem?_toList]
  rw [e, ← ev2_pick xs.toList, Array.length_toList]
theorem getItem_tuple_2 {t sl : Addr} {tk : Tok} {items : Array Value} {Q : Value → Shared → Prop} (ht : IsTup s.heap t items) (hs : s.heap.IsSliceOf sl .none .none (.int 2 tk))
    (h : Q (.ref s.heap.objs.size) { s with heap := s.heap.push { cls := .type "tuple", data := .seq (ev2 items.toList).toArray } })
    (hsz : items.size ≤ sizeLine) : wpAny (model prog w) A (getItem (.ref t) (.ref sl)) Q E s := by
  have htake : sizeOk (.seq (ev2 items.toList).toArray) := by
    show (ev2 items.toList).toArray.size ≤ sizeLine
    rw [List.size_toArray]
    exact Nat.le_trans (ev2_le items.toList) (by rw [Array.length_toList]; exact hsz)
  obtain ⟨os, hos, hcs, hds⟩ := id hs
  have hTs : s.TypeIs (.ref sl) "slice" := ⟨os, hos, hcs⟩
  unfold getItem
  try with_reducible refine wpAny_holding ?_
  first | refine wpAny_bind (wpAny_pure ?_) | skip
  refine wpAny_bind (wpAny_sequenceKey ht.typeIs (by decide) ?_)
  refine wpAny_bind (wpAny_callSpecial?_slot (name := Str.ofString "__getitem__") ht.typeIs PyProof.Rows.slot_tuple_getitem
    (wpAny_call_entry PyProof.Rows.slot_tuple_getitem ht.typeIs entry_tuple_getitem ?_ (args_tuple_getitem _ _)))
  show wpAny _ _ (Builtin.Tuple.tupleItemsOf (.ref t) >>= _) _ _ s
  refine wpAny_bind (tupleItemsOf_ ht ?_)
  refine wpAny_bind (wpAny_typeOf hTs ?_)
  rw [if_pos (by decide)]
  refine wpAny_bind (sliceApplied2 hs ?_)
  have hno : ¬ (((0 : Int) == 0 && (2 : Int) == 1 && ((items.size + 1) / 2) == items.size) = true) := by
    intro q
    rw [Bool.and_eq_true, Bool.and_eq_true] at q
    exact absurd q.1.2 (by decide)
  show wpAny _ _ (if ((0 : Int) == 0 && (2 : Int) == 1 && ((items.size + 1) / 2) == items.size) = true then _ else _) _ _ s
  rw [if_neg hno, pick2t]
  first
    | exact wpAny_bind (m := Builtin.Tuple.tupleExact _) (wpAny_newObj_type (wpAny_pure ⟨_, rfl, wpAny_pure h⟩) htake)
    | exact wpAny_bind (m := Builtin.Tuple.tupleExact _) (wpAny_newObj_type (wpAny_bind (wpAny_pure (wpAny_pure ⟨_, rfl, wpAny_pure h⟩))) htake)
    | exact wpAny_bind (wpAny_bind (m := Builtin.Tuple.tupleExact _) (wpAny_newObj_type (wpAny_pure (wpAny_pure ⟨_, rfl, wpAny_pure h⟩)) htake))
    | exact wpAny_bind (wpAny_bind (m := Builtin.Tuple.tupleExact _) (wpAny_newObj_type (wpAny_pure ⟨_, rfl, wpAny_pure h⟩) htake))
end
section
variable {X : Cx}
def tHalf (K : PySem.W.Frag) (te : TE) : TE := fun σ H Q => te σ H fun x H1 => ∃ a xs, x = .ref a ∧ (SqL K H1 a xs ∨ SqT K H1 a xs) ∧
  ∀ p H2, (∀ b o, H1 b = some o → H2 b = some o) → H1 p = none → (SqL K H2 p (ev2 xs) ∨ SqT K H2 p (ev2 xs)) → Q (.ref p) H2
theorem new_same {H : Hp} {p : Addr} {o : HO} (n : H p = none) : ∀ b u, H b = some u → upd H p o b = some u := fun b u e => by
  rw [upd_ne (ne_of_none e n)]
  exact e
theorem pe_half {e : Expr} {te : TE} {k : Nat} {p1 p3 pos : Pos} (he : PE X e te) : PE X (.Subscript e (.Slice none none (some (.Constant (.int 2) k p1)) p3) pos) (tHalf X.K te) := by
  refine ⟨fun pins s σ H Q I h => ?_⟩
  refine Subscript_ (thn (he.run pins s σ H _ I h) fun v s1 ⟨x, H1, I1, r1, q1⟩ => ?_)
  obtain ⟨a, xs, ex, hq, q⟩ := q1
  subst ex
  cases r1
  have hst : PO X (some (.Constant (.int 2) k p1)) (tPart (tC (.int 2))) := po_some pe_int
  refine wpAny_Slice (thn (po_none.run pins s1 σ H1 (fun o H2 => o = none ∧ H2 = H1) I1 ⟨rfl, rfl⟩) fun vl s2 ⟨l, H2, I2, pl, el, e2⟩ => ?_)
  subst el e2
  refine thn (po_none.run pins s2 σ H2 (fun o H3 => o = none ∧ H3 = H2) I2 ⟨rfl, rfl⟩) fun vu s3 ⟨u, H3, I3, pu, eu, e3⟩ => ?_
  subst eu e3
  refine thn (hst.run pins s3 σ H3 (fun o H4 => o = some 2 ∧ H4 = H3) I3 ⟨2, rfl, rfl, rfl⟩) fun vs s4 ⟨o, H4, I4, ps, eo, e4⟩ => ?_
  subst eo e4
  have I5 : Inv X pins σ H4 { s4 with heap := s4.heap.push { cls := .type "slice", data := .fields #[vl, vu, vs] } } := I4.kept (t' := s4.toks) fun b ob q => Heap.get?_push_of_some _ q
  rcases hq with hx | hx
  · obtain ⟨its, r, ht, hz⟩ := I5.list hx
    have hlen := r.length
    show wpAny (model X.prog X.w) X.A (subscriptTail e (.Slice none none (some (.Constant (.int 2) k p1)) p3) (.ref a) (.ref s4.heap.objs.size)) (EP X pins σ Q) X.xe { s4 with heap := s4.heap.push { cls := .type "slice", data := .fields #[vl, vu, vs] } }
    refine tail_any (ops := [.ref a, .ref s4.heap.objs.size]) ht.isList.typeIs (PySem.slot_list_getitem.lookup) ?_ (by with_unfolding_all rfl)
    refine wpAny_getItem_list_slice ht.isList (Heap.IsSliceOf.new _ vl vu vs) pl pu ps (by decide) ?_ (by rw [List.size_toArray]; omega)
    rw [pick2]
    refine ⟨.ref _, _, I5.laid (t' := s4.toks) (o := .lst (ev2 xs)) (fun b ob q => Heap.get?_push_of_some _ q) (Nat.le_refl _) ?_, rfl, q _ _ (new_same (I5.hok.fresh (Nat.le_refl _))) (I5.hok.fresh (Nat.le_refl _)) (.inl (SqL.of upd_same))⟩
    exact ⟨Nat.le_trans (ev2_le xs) hz, _, 0, ev2_vals r, Heap.get?_push_size _ rfl⟩
  · obtain ⟨its, r, ht, hz⟩ := I5.tuple hx
    have hlen := r.length
    cases pl
    cases pu
    cases ps
    show wpAny (model X.prog X.w) X.A (subscriptTail e (.Slice none none (some (.Constant (.int 2) k p1)) p3) (.ref a) (.ref s4.heap.objs.size)) (EP X pins σ Q) X.xe { s4 with heap := s4.heap.push { cls := .type "slice", data := .fields #[Value.none, Value.none, .int 2 _] } }
    refine tail_any (ops := [.ref a, .ref s4.heap.objs.size]) ht.typeIs (PyProof.Rows.slot_tuple_getitem.lookup) ?_ (by with_unfolding_all rfl)
    refine getItem_tuple_2 ht (Heap.IsSliceOf.new _ _ _ _) ?_ (by rw [List.size_toArray]; omega)
    refine ⟨.ref _, _, I5.laid (t' := s4.toks) (o := .tup (ev2 xs)) (fun b ob q => Heap.get?_push_of_some _ q) (Nat.le_refl _) ?_, rfl, q _ _ (new_same (I5.hok.fresh (Nat.le_refl _))) (I5.hok.fresh (Nat.le_refl _)) (.inr (SqT.of upd_same))⟩
    exact ⟨Nat.le_trans (ev2_le xs) hz, _, ev2_vals r, IsTup.new _ _⟩
theorem keepL {K : PySem.W.Frag} {H H' : Hp} {a : Addr} {xs : List V} (e : Same H H') (h : SqL K H a xs) : SqL K H' a xs := by
  rcases h with (h | ⟨o, h⟩) | h
  · exact .inl (.inl (e _ _ h))
  · exact .inl (.inr ⟨o, e _ _ h⟩)
  · exact .inr h
theorem keepT {K : PySem.W.Frag} {H H' : Hp} {a : Addr} {xs : List V} (e : Same H H') (h : SqT K H a xs) : SqT K H' a xs := by
  rcases h with (h | ⟨o, h⟩) | h
  · exact .inl (.inl (e _ _ h))
  · exact .inl (.inr ⟨o, e _ _ h⟩)
  · exact .inr h
def iSeq (K : PySem.W.Frag) (tl : TE) : TI := fun σ H R => tl σ H fun x H1 => ∃ a xs, x = .ref a ∧ (SqL K H1 a xs ∨ SqT K H1 a xs) ∧
  ∀ J G, Walk J xs.length G (YAt xs) → (∀ H', Same H1 H' → G H') → R J H1
theorem pi_seq {tg l : Expr} {tl : TE} (hl : PE X l tl) : PI X tg l (iSeq X.K tl) := by
  refine ⟨fun pins s σ H R I h => ?_⟩
  refine thn (hl.run pins s σ H _ I h) fun v s1 ⟨x, H1, I1, r1, q1⟩ => ?_
  obtain ⟨a, xs, e, hq, q⟩ := q1
  subst e
  cases r1
  rcases hq with hq | hq
  · have q := q _ _ walk_list fun H' s => keepL s hq
    obtain ⟨its, rv, p, hz⟩ := I1.list hq
    refine wpAny_pyIter_list p.isList ?_
    refine ⟨s1.heap.objs.size, [s1.heap.objs.size], _, _, H1, rfl, I1.kept (t' := s1.toks) fun b o e => Heap.get?_push_of_some _ e, turn_list a _, ⟨_, Heap.get?_push_size _ rfl, rfl, rfl⟩, fun b hb => ?_, q⟩
    have e : b = s1.heap.objs.size := by simpa using hb
    subst e
    exact I1.fpOk (Nat.le_refl _) (I1.hok.fresh (Nat.le_refl _))
  · have q := q _ _ walk_tup fun H' s => keepT s hq
    obtain ⟨its, rv, p, hz⟩ := I1.tuple hq
    refine wpAny_pyIter_tuple (show s1.heap.IsTuple a its.toArray from p) ?_
    refine ⟨s1.heap.objs.size, [s1.heap.objs.size], _, _, H1, rfl, I1.kept (t' := s1.toks) fun b o e => Heap.get?_push_of_some _ e, turn_tuple a _, ⟨_, Heap.get?_push_size _ rfl, rfl, rfl⟩, fun b hb => ?_, q⟩
    have e : b = s1.heap.objs.size := by simpa using hb
    subst e
    exact I1.fpOk (Nat.le_refl _) (I1.hok.fresh (Nat.le_refl _))
end
end Hf
/-! Rows read back: strokes, steps, groups. -/
namespace Wm
open PySem L2 TL
/-- the rows of the first digits, without the two ticks at the end -/
def pre : List Nat → List Int
  | [] => []
  | d :: ds => blk d ++ ([0, 0] ++ pre ds)
theorem pre_app : ∀ (ds : List Nat) (d : Nat), pre (ds ++ [d]) = pre ds ++ (blk d ++ [0, 0])
  | [], d => by show blk d ++ ([0, 0] ++ []) = [] ++ _; simp
  | e :: ds, d => by
    show blk e ++ ([0, 0] ++ pre (ds ++ [d])) = (blk e ++ ([0, 0] ++ pre ds)) ++ _
    rw [pre_app ds d]
    simp only [List.append_assoc]
theorem pre_row : ∀ ds : List Nat, pre ds ++ [0, 0] = rowL ds
  | [] => rfl
  | d :: ds => by
    show (blk d ++ ([0, 0] ++ pre ds)) ++ _ = blk d ++ ([0, 0] ++ rowL ds)
    rw [← pre_row ds]
    simp only [List.append_assoc]
theorem blk_V (d : Nat) : (List.replicate d [V.int 1, V.int 0]).flatten = (blk d).map V.int := by
  unfold blk
  rw [List.map_flatten, List.map_replicate]
  rfl
theorem pre_le : ∀ ds : List Nat, (∀ d ∈ ds, d ≤ 9) → (pre ds).length ≤ 20 * ds.length
  | [], _ => by decide
  | d :: ds, h => by
    have ih := pre_le ds fun y m => h y (List.mem_cons_of_mem _ m)
    have hd := h d (by simp)
    show (blk d ++ ([0, 0] ++ pre ds)).length ≤ _
    rw [List.length_append, List.length_append, blk_len]
    simp only [List.length_cons, List.length_nil]
    omega
theorem take_succ_app {α : Type} {l : List α} {i : Nat} {x : α} (h : l[i]? = some x) : l.take (i + 1) = l.take i ++ [x] := by
  rw [List.take_add_one, h]
  rfl
theorem take_succ_map {α β : Type} {l : List α} {i : Nat} {x : α} (f : α → β) (h : l[i]? = some x) : (l.take i).map f ++ [f x] = (l.take (i + 1)).map f := by
  rw [take_succ_app h, List.map_append]
  rfl
theorem row_sum : ∀ ds : List Nat, (rowL ds).length = 2 * (ds.sum + ds.length + 1)
  | [] => rfl
  | d :: ds => by
    have ih := row_sum ds
    show (blk d ++ ([0, 0] ++ rowL ds)).length = _
    rw [List.length_append, List.length_append, blk_len, ih, List.sum_cons]
    simp only [List.length_cons, List.length_nil]
    omega
theorem row_le (ds : List Nat) (N : Num ds) : (rowL ds).length ≤ 100 := by
  have h := rowL_le ds fun d m => (N.dig d m).2
  have l := N.len
  omega
theorem row_bits : ∀ (ds : List Nat) (z : Int), z ∈ rowL ds → z = 0 ∨ z = 1
  | [], z, h => by
    have h : z ∈ [0, 0] := h
    simp only [List.mem_cons, List.not_mem_nil, or_false, or_self] at h
    exact .inl h
  | d :: ds, z, h => by
    have h : z ∈ blk d ++ ([0, 0] ++ rowL ds) := h
    rw [List.mem_append, List.mem_append] at h
    rcases h with h | h | h
    · obtain ⟨l, hl, hz⟩ := List.mem_flatten.mp h
      rw [(List.mem_replicate.mp hl).2] at hz
      simp only [List.mem_cons, List.not_mem_nil, or_false] at hz
      exact hz.symm
    · simp only [List.mem_cons, List.not_mem_nil, or_false, or_self] at h
      exact .inl h
    · exact row_bits ds z h
/-! strokes -/
def ones : Nat → List Int → List Nat
  | _, [] => []
  | o, x :: xs => if x = 1 then o :: ones (o + 1) xs else ones (o + 1) xs
theorem ones_app : ∀ (a : List Int) (o : Nat) (b : List Int), ones o (a ++ b) = ones o a ++ ones (o + a.length) b
  | [], o, b => rfl
  | x :: a, o, b => by
    have ih := ones_app a (o + 1) b
    have e : o + (x :: a).length = o + 1 + a.length := by rw [List.length_cons]; omega
    rw [e]
    show (if x = 1 then o :: ones (o + 1) (a ++ b) else ones (o + 1) (a ++ b)) = (if x = 1 then o :: ones (o + 1) a else ones (o + 1) a) ++ _
    rw [ih]
    by_cases c : x = 1
    · rw [if_pos c, if_pos c]; rfl
    · rw [if_neg c, if_neg c]
theorem ones_mem : ∀ (xs : List Int) (o k : Nat), k ∈ ones o xs ↔ ∃ j, k = o + j ∧ xs[j]? = some 1
  | [], o, k => by simp [ones]
  | x :: xs, o, k => by
    have ih := ones_mem xs (o + 1) k
    show k ∈ (if x = 1 then o :: ones (o + 1) xs else ones (o + 1) xs) ↔ _
    constructor
    · intro h
      by_cases c : x = 1
      · rw [if_pos c] at h
        rcases List.mem_cons.mp h with e | e
        · exact ⟨0, by omega, by rw [c]; rfl⟩
        · obtain ⟨j, e1, e2⟩ := ih.mp e
          exact ⟨j + 1, by omega, by simpa using e2⟩
      · rw [if_neg c] at h
        obtain ⟨j, e1, e2⟩ := ih.mp h
        exact ⟨j + 1, by omega, by simpa using e2⟩
    · rintro ⟨j, e1, e2⟩
      cases j with
      | zero =>
        have c : x = 1 := Option.some.inj e2
        rw [if_pos c]
        exact List.mem_cons.mpr (.inl (by omega))
      | succ j =>
        have m : k ∈ ones (o + 1) xs := ih.mpr ⟨j, by omega, by simpa using e2⟩
        by_cases c : x = 1
        · rw [if_pos c]; exact List.mem_cons_of_mem _ m
        · rw [if_neg c]; exact m
theorem ones_blk (o d : Nat) : ones o (blk (d + 1)) = ones o (blk d) ++ [o + 2 * d] := by
  rw [blk_add, ones_app, blk_len]
  rfl
theorem ones_end (a : List Int) (o : Nat) : ones o (a ++ [0, 0]) = ones o a := by
  rw [ones_app]
  show ones o a ++ [] = _
  rw [List.append_nil]
theorem step2 (s : List Nat) (d : Nat) : ones 0 (pre s ++ blk (d + 1)) = ones 0 (pre s ++ blk d) ++ [(pre s).length + 2 * d] := by
  rw [ones_app, ones_app, ones_blk, List.append_assoc, Nat.zero_add]
theorem step4 (s : List Nat) (d : Nat) : ones 0 (pre (s ++ [d]) ++ blk 1) = ones 0 (pre s ++ blk d) ++ [(pre s).length + 2 * d + 2] := by
  rw [ones_app, pre_app, ← List.append_assoc, ones_end]
  have e : ((pre s ++ blk d) ++ ([0, 0] : List Int)).length = (pre s).length + 2 * d + 2 := by
    rw [List.length_append, List.length_append, blk_len]
    rfl
  rw [e, Nat.zero_add]
  rfl
theorem ones_row (s : List Nat) (d : Nat) : ones 0 (rowL (s ++ [d])) = ones 0 (pre s ++ blk d) := by
  rw [← pre_row, pre_app, ← List.append_assoc, ones_end, ones_end]
theorem ones_inj {ds es : List Nat} (h1 : ∀ d ∈ ds, 1 ≤ d) (h2 : ∀ e ∈ es, 1 ≤ e) (h : ones 0 (rowL ds) = ones 0 (rowL es)) : ds = es := by
  rcases rows_part ds es h1 h2 with q | ⟨k, q, _⟩ | ⟨k, q, _⟩
  · exact q
  · have m : k ∈ ones 0 (rowL ds) := (ones_mem _ _ _).mpr ⟨k, by omega, q.one⟩
    rw [h] at m
    obtain ⟨j, e1, e2⟩ := (ones_mem _ _ _).mp m
    rw [show j = k by omega, q.two] at e2
    cases e2
  · have m : k ∈ ones 0 (rowL es) := (ones_mem _ _ _).mpr ⟨k, by omega, q.two⟩
    rw [← h] at m
    obtain ⟨j, e1, e2⟩ := (ones_mem _ _ _).mp m
    rw [show j = k by omega, q.one] at e2
    cases e2
def St (l : List Nat) : Prop := ∀ (k a b : Nat), l[k]? = some a → l[k + 1]? = some b → b = a + 2 ∨ b = a + 4
theorem St.cons {x : Nat} {l : List Nat} (h : ∀ y, l.head? = some y → y = x + 2 ∨ y = x + 4) (s : St l) : St (x :: l) := by
  intro k a b e1 e2
  cases k with
  | zero =>
    have e : x = a := Option.some.inj e1
    subst e
    refine h b ?_
    rw [List.head?_eq_getElem?]
    exact e2
  | succ k => exact s k a b (by simpa using e1) (by simpa using e2)
theorem steps_blk {l : List Int} (hl : ∀ o, St (ones o l) ∧ ∀ y, (ones o l).head? = some y → y = o) : ∀ (d o : Nat), St (ones o (blk d ++ ([0, 0] ++ l))) ∧ ∀ y, (ones o (blk d ++ ([0, 0] ++ l))).head? = some y → (y = o ∨ y = o + 2)
  | 0, o => by
    have h := hl (o + 2)
    exact ⟨h.1, fun y e => .inr (h.2 y e)⟩
  | d + 1, o => by
    have ih := steps_blk hl d (o + 2)
    have e : ones o (blk (d + 1) ++ ([0, 0] ++ l)) = o :: ones (o + 2) (blk d ++ ([0, 0] ++ l)) := by
      rw [blk_succ]
      rfl
    rw [e]
    refine ⟨ih.1.cons fun y q => ?_, fun y q => .inl (Option.some.inj q).symm⟩
    rcases ih.2 y q with z | z
    · exact .inl z
    · exact .inr (by omega)
theorem steps_row : ∀ (es : List Nat), (∀ d ∈ es, 1 ≤ d) → ∀ o, St (ones o (rowL es)) ∧ ∀ y, (ones o (rowL es)).head? = some y → y = o
  | [], _, o => ⟨fun k a b (e : (none : Option Nat) = some a) => (by cases e), fun y (e : (none : Option Nat) = some y) => by cases e⟩
  | d :: es, h, o => by
    have ih := steps_row es fun y m => h y (List.mem_cons_of_mem _ m)
    obtain ⟨f, rfl⟩ : ∃ f, d = f + 1 := ⟨d - 1, by have := h d (by simp); omega⟩
    have q := steps_blk ih (f + 1) o
    refine ⟨q.1, fun y e => ?_⟩
    have e' : ones o (rowL ((f + 1) :: es)) = o :: ones (o + 2) (blk f ++ ([0, 0] ++ rowL es)) := by
      show ones o (blk (f + 1) ++ _) = _
      rw [blk_succ]
      rfl
    rw [e'] at e
    exact (Option.some.inj e).symm
theorem first_row (d : Nat) (es : List Nat) (h : 1 ≤ d) : (ones 0 (rowL (d :: es)))[0]? = some 0 := by
  obtain ⟨f, rfl⟩ : ∃ f, d = f + 1 := ⟨d - 1, by omega⟩
  show (ones 0 (blk (f + 1) ++ _))[0]? = _
  rw [blk_succ]
  rfl
/-! groups -/
def gaps : List Int → List Nat
  | [] => [0]
  | z :: zs => if z = 1 then (match gaps zs with | [] => [1] | g :: gs => (g + 1) :: gs) else 0 :: gaps zs
theorem gaps_ne : ∀ zs, gaps zs ≠ []
  | [] => by simp [gaps]
  | z :: zs => by
    show (if z = 1 then (match gaps zs with | [] => [1] | g :: gs => (g + 1) :: gs) else 0 :: gaps zs) ≠ []
    by_cases c : z = 1
    · rw [if_pos c]
      split <;> simp
    · rw [if_neg c]; simp
def bits (zs : List Int) : List Nat := zs.map fun z => if z = 1 then 49 else 48
theorem joinL_cons {s : List Nat} {p : List Nat} {ps : List (List Nat)} (h : ps ≠ []) : joinL s (p :: ps) = p ++ (s ++ joinL s ps) := by
  cases ps with
  | nil => exact absurd rfl h
  | cons q r => rfl
theorem joinL_one (s p : List Nat) : joinL s [p] = p := rfl
theorem map_ne {α β : Type} {f : α → β} {l : List α} (h : l ≠ []) : l.map f ≠ [] := fun e => h (List.map_eq_nil_iff.mp e)
theorem gaps_join : ∀ zs, bits zs = joinL [48] ((gaps zs).map fun g => List.replicate g 49)
  | [] => rfl
  | z :: zs => by
    have ih := gaps_join zs
    have ne := gaps_ne zs
    show (if z = 1 then 49 else 48) :: bits zs = joinL [48] ((if z = 1 then (match gaps zs with | [] => [1] | g :: gs => (g + 1) :: gs) else 0 :: gaps zs).map _)
    by_cases c : z = 1
    · rw [if_pos c, if_pos c]
      cases e : gaps zs with
      | nil => exact absurd e ne
      | cons g gs =>
        rw [e] at ih
        rw [ih]
        cases gs with
        | nil => rfl
        | cons g2 gs => rfl
    · rw [if_neg c, if_neg c, List.map_cons, joinL_cons (map_ne ne), ← ih]
      rfl
theorem gaps_sum : ∀ zs, (gaps zs).sum ≤ zs.length ∧ (gaps zs).length ≤ zs.length + 1
  | [] => by decide
  | z :: zs => by
    have ih := gaps_sum zs
    show (if z = 1 then (match gaps zs with | [] => [1] | g :: gs => (g + 1) :: gs) else 0 :: gaps zs).sum ≤ zs.length + 1 ∧ (if z = 1 then (match gaps zs with | [] => [1] | g :: gs => (g + 1) :: gs) else 0 :: gaps zs).length ≤ zs.length + 1 + 1
    by_cases c : z = 1
    · rw [if_pos c]
      cases e : gaps zs with
      | nil => exact absurd e (gaps_ne zs)
      | cons g gs =>
        rw [e, List.sum_cons, List.length_cons] at ih
        show ((g + 1) :: gs).sum ≤ _ ∧ ((g + 1) :: gs).length ≤ _
        rw [List.sum_cons, List.length_cons]
        omega
    · rw [if_neg c, List.sum_cons, List.length_cons]
      omega
theorem mem_sum {g : Nat} : ∀ {l : List Nat}, g ∈ l → g ≤ l.sum
  | a :: l, h => by
    rw [List.sum_cons]
    rcases List.mem_cons.mp h with e | e
    · omega
    · have := mem_sum e
      omega
theorem gaps_le {zs : List Int} {g : Nat} (h : g ∈ gaps zs) : g ≤ zs.length := by
  have h1 := (gaps_sum zs).1
  have h2 : g ≤ (gaps zs).sum := mem_sum h
  omega
theorem ev2_row : ∀ ds, Hf.ev2 (rowL ds) = (match ds with | [] => [0] | d :: r => List.replicate d 1 ++ (0 :: Hf.ev2 (rowL r)))
  | [] => rfl
  | d :: r => by
    show Hf.ev2 (blk d ++ ([0, 0] ++ rowL r)) = List.replicate d 1 ++ (0 :: Hf.ev2 (rowL r))
    induction d with
    | zero => rfl
    | succ d ih =>
      rw [blk_succ, List.replicate_succ]
      show (1 : Int) :: Hf.ev2 (blk d ++ ([0, 0] ++ rowL r)) = _
      rw [ih]
      rfl
theorem gaps_rep (l : List Int) (d : Nat) : gaps (List.replicate d 1 ++ (0 :: l)) = d :: gaps l := by
  induction d with
  | zero => rfl
  | succ d ih =>
    rw [List.replicate_succ]
    show (if (1 : Int) = 1 then (match gaps (List.replicate d 1 ++ (0 :: l)) with | [] => [1] | g :: gs => (g + 1) :: gs) else _) = _
    rw [if_pos rfl, ih]
theorem gaps_row : ∀ ds, gaps (Hf.ev2 (rowL ds)) = ds ++ [0, 0]
  | [] => rfl
  | d :: r => by
    rw [ev2_row]
    show gaps (List.replicate d 1 ++ (0 :: Hf.ev2 (rowL r))) = _
    rw [gaps_rep, gaps_row r]
    rfl
end Wm
/-! Ticks of bent rows as data. -/
namespace Wm
open PySem L2
inductive Tk : PyData → Prop
  | int {i : Int} : i.natAbs < 1000000 → Tk (.int i)
  | bl (b : Bool) : Tk (.bool b)
  | non : Tk .none
  | one : Tk (.str "1")
  | lst : Tk (.list [.int 0])
def Item (K : PySem.W.Frag) (H : Hp) (x : V) : Prop := ∃ d, Dp K H x d ∧ Tk d
theorem sqL_keep {K : PySem.W.Frag} {H H' : Hp} {a : Addr} {xs : List V} (e : Same H H') (h : SqL K H a xs) : SqL K H' a xs := by
  rcases h with (h | ⟨o, h⟩) | h
  · exact .inl (.inl (e _ _ h))
  · exact .inl (.inr ⟨o, e _ _ h⟩)
  · exact .inr h
theorem tk_keep {K : PySem.W.Frag} {H H' : Hp} {x : V} {d : PyData} (e : Same H H') (h : Dp K H x d) (t : Tk d) : Dp K H' x d := by
  cases t with
  | int _ => cases h; exact .int _
  | bl b => cases h; exact .bl _
  | non => cases h; exact .non
  | one => cases h; exact .str _
  | lst =>
    cases h with
    | lst q a =>
      refine .lst (sqL_keep e q) ?_
      cases a with
      | cons b c =>
        cases b
        cases c
        exact .cons (.int _) .nil
theorem Item.keep {K : PySem.W.Frag} {H H' : Hp} {x : V} (e : Same H H') (h : Item K H x) : Item K H' x := let ⟨d, a, b⟩ := h; ⟨d, tk_keep e a b, b⟩
theorem tks_keep {K : PySem.W.Frag} {H H' : Hp} (e : Same H H') : ∀ {xs : List V} {ds : List PyData}, DpAll K H xs ds → (∀ d ∈ ds, Tk d) → DpAll K H' xs ds
  | _, _, .nil, _ => .nil
  | _, _, .cons a b, t => .cons (tk_keep e a (t _ (by simp))) (tks_keep e b fun d m => t d (List.mem_cons_of_mem _ m))
theorem items_data {K : PySem.W.Frag} {H : Hp} : ∀ {xs : List V}, (∀ x ∈ xs, Item K H x) → ∃ ds, DpAll K H xs ds ∧ (∀ d ∈ ds, Tk d) ∧ ds.length = xs.length
  | [], _ => ⟨[], .nil, by simp, rfl⟩
  | x :: xs, h => by
    obtain ⟨d, a, b⟩ := h x (by simp)
    obtain ⟨ds, c1, c2, c3⟩ := items_data (xs := xs) fun y m => h y (List.mem_cons_of_mem _ m)
    refine ⟨d :: ds, .cons a c1, fun y m => ?_, by rw [List.length_cons, List.length_cons, c3]⟩
    rcases List.mem_cons.mp m with q | q
    · rw [q]; exact b
    · exact c2 y q
theorem item_int {K : PySem.W.Frag} {H : Hp} {i : Int} (h : i.natAbs < 1000000) : Item K H (.int i) := ⟨_, .int i, .int h⟩
theorem tk_lay {d : PyData} (t : Tk d) : d.canLay0 = true ∧ d.depth ≤ 1 := by
  cases t with
  | int _ => exact ⟨by simp [PyData.canLay0], by simp [PyData.depth]⟩
  | bl b => exact ⟨by simp [PyData.canLay0], by simp [PyData.depth]⟩
  | non => exact ⟨by simp [PyData.canLay0], by simp [PyData.depth]⟩
  | one => exact ⟨by decide +kernel, by simp [PyData.depth]⟩
  | lst => exact ⟨by simp [PyData.canLay0, PyData.canLayAll0], by simp [PyData.depth, PyData.depthAll]⟩
theorem tks_lay : ∀ {ds : List PyData}, (∀ d ∈ ds, Tk d) → PyData.canLayAll0 ds = true ∧ PyData.depthAll ds ≤ 1
  | [], _ => by simp [PyData.canLayAll0, PyData.depthAll]
  | d :: ds, h => by
    have h1 := tk_lay (h d (by simp))
    have h2 := tks_lay (ds := ds) fun y m => h y (List.mem_cons_of_mem _ m)
    simp only [PyData.canLayAll0, PyData.depthAll, h1.1, h2.1, Bool.and_self, true_and]
    omega
theorem tks_shaped {ds : List PyData} (h : ∀ d ∈ ds, Tk d) : SeqAt.shaped (.list ds) = true := by
  have q := tks_lay h
  have e : decide ((PyData.list ds).depth ≤ 64) = true := decide_eq_true (by simp only [PyData.depth]; omega)
  show ((PyData.list ds).canLay0 && _) = true
  rw [e, Bool.and_true]
  exact q.1
theorem tk_show {d : PyData} (t : Tk d) : d.showable = true ∧ d.hasDict = false ∧ d.leavesShort 13 = true ∧ d.weight ≤ 30 := by
  cases t with
  | @int i h =>
    have hl : i.natAbs.log2 < 20 ∨ i = 0 := by
      by_cases z : i = 0
      · exact .inr z
      · exact .inl ((Nat.log2_lt (by omega)).mpr (by omega))
    refine ⟨decide_eq_true ?_, rfl, decide_eq_true (PyData.shown_int_le (by omega)), ?_⟩
    · rcases hl with z | z
      · omega
      · subst z; decide
    · rcases hl with z | z
      · simp only [PyData.weight]; split <;> omega
      · subst z; decide
  | bl b => exact ⟨rfl, rfl, rfl, by simp [PyData.weight]⟩
  | non => exact ⟨rfl, rfl, rfl, by simp [PyData.weight]⟩
  | one => exact ⟨rfl, rfl, by decide +kernel, by decide +kernel⟩
  | lst => exact ⟨by decide +kernel, rfl, by decide +kernel, by decide +kernel⟩
theorem tks_show : ∀ {ds : List PyData}, (∀ d ∈ ds, Tk d) → PyData.showableAll ds = true ∧ PyData.hasDictAll ds = false ∧ PyData.leavesShortAll 13 ds = true ∧ PyData.weightAll ds ≤ 31 * ds.length
  | [], _ => by simp [PyData.showableAll, PyData.hasDictAll, PyData.leavesShortAll, PyData.weightAll]
  | d :: ds, h => by
    have h1 := tk_show (h d (by simp))
    have h2 := tks_show (ds := ds) fun y m => h y (List.mem_cons_of_mem _ m)
    simp only [PyData.showableAll, PyData.hasDictAll, PyData.leavesShortAll, PyData.weightAll, h1.1, h1.2.1, h1.2.2.1, h2.1, h2.2.1, h2.2.2.1, Bool.and_self, Bool.or_self, true_and, List.length_cons]
    omega
theorem tks_shown {ds : List PyData} (h : ∀ d ∈ ds, Tk d) (l : ds.length ≤ 1000) : (PyData.list ds).shown.length ≤ sizeLine :=
  PyData.shown_fits (B := 13) (by decide) (by decide) (tks_show h).2.2.1 (Nat.le_trans (tks_show h).2.2.2 (by omega))
def isI : V → Bool
  | .int _ => true
  | _ => false
def isBit (x : V) : Bool := decide (x = .int 0) || decide (x = .int 1)
theorem all_ints {xs : List V} (h : ∀ x ∈ xs, isI x = true) : ∃ zs : List Int, xs = zs.map V.int := by
  induction xs with
  | nil => exact ⟨[], rfl⟩
  | cons x xs ih =>
    obtain ⟨zs, e⟩ := ih fun y m => h y (List.mem_cons_of_mem _ m)
    have hx := h x (by simp)
    cases x with
    | int i => exact ⟨i :: zs, by rw [e]; rfl⟩
    | _ => cases hx
theorem all_bits {xs : List V} (h : ∀ x ∈ xs, isBit x = true) : ∃ zs : List Int, xs = zs.map V.int ∧ ∀ z ∈ zs, z = 0 ∨ z = 1 := by
  induction xs with
  | nil => exact ⟨[], rfl, by simp⟩
  | cons x xs ih =>
    obtain ⟨zs, e, b⟩ := ih fun y m => h y (List.mem_cons_of_mem _ m)
    have hx := h x (by simp)
    have hc : x = .int 0 ∨ x = .int 1 := by
      rcases Bool.or_eq_true_iff.mp hx with q | q
      · exact .inl (of_decide_eq_true q)
      · exact .inr (of_decide_eq_true q)
    have : ∃ i : Int, x = .int i ∧ (i = 0 ∨ i = 1) := by
      rcases hc with q | q
      · exact ⟨0, q, .inl rfl⟩
      · exact ⟨1, q, .inr rfl⟩
    obtain ⟨i, rfl, hi⟩ := this
    refine ⟨i :: zs, by rw [e]; rfl, fun z m => ?_⟩
    rcases List.mem_cons.mp m with q | q
    · rw [q]; exact hi
    · exact b z q
/-- what isinstance asks of such a tick -/
theorem tyx_of {K : PySem.W.Frag} {H : Hp} {x : V} (h : Item K H x) : ∃ (n : String) (a b : Bool), TyX K H x (.type n) ∧ PySem.W.kitOne K (.type n) (.type "int") = some a ∧
    PySem.W.kitOne K (.type n) (.type "bool") = some b ∧ (a && !b) = isI x := by
  obtain ⟨d, h, t⟩ := h
  cases t with
  | int _ => cases h; exact ⟨"int", true, false, .base (.int _), kit_ty (by decide +kernel), kit_ty (by decide +kernel), rfl⟩
  | bl b => cases h; exact ⟨"bool", true, true, .base (.bl _), kit_ty (by decide +kernel), kit_ty (by decide +kernel), rfl⟩
  | non => cases h; exact ⟨"NoneType", false, false, .base .non, kit_ty (by decide +kernel), kit_ty (by decide +kernel), rfl⟩
  | one => cases h; exact ⟨"str", false, false, .base (.str _), kit_ty (by decide +kernel), kit_ty (by decide +kernel), rfl⟩
  | lst =>
    cases h with
    | lst q a =>
      rcases q with (q | ⟨o, q⟩) | q
      · exact ⟨"list", false, false, .base (.lst q), kit_ty (by decide +kernel), kit_ty (by decide +kernel), rfl⟩
      · exact ⟨"list", false, false, .base (.frz q), kit_ty (by decide +kernel), kit_ty (by decide +kernel), rfl⟩
      · obtain ⟨o, xs, n, e, c, _⟩ := q
        exact ⟨"list", false, false, .kList e c, kit_ty (by decide +kernel), kit_ty (by decide +kernel), rfl⟩
/-- a list or a tuple -/
def SqA (K : PySem.W.Frag) (H : Hp) (a : Addr) (xs : List V) : Prop := SqL K H a xs ∨ SqT K H a xs
theorem SqA.keep {K : PySem.W.Frag} {H H' : Hp} {a : Addr} {xs : List V} (e : Same H H') (h : SqA K H a xs) : SqA K H' a xs := h.imp (sqL_keep e) (sameT e)
end Wm
/-! Texts of digits: halves, groups, the number they tell. -/
namespace Wm
open PySem L2 TL
def oneS (g : Nat) : Str := ⟨(List.replicate g 49).toArray⟩
def bitS (z : Int) : Str := if z = 1 then "1" else "0"
def decS (g : Nat) : Str := ((toString (g : Int) : String) : Str)
theorem bit_str {z : Int} (h : z = 0 ∨ z = 1) : ((toString z : String) : Str) = bitS z := by
  rcases h with e | e <;> subst e <;> decide +kernel
theorem tl_bit (z : Int) : tl (bitS z) = [if z = 1 then 49 else 48] := by
  unfold bitS
  by_cases c : z = 1
  · rw [if_pos c, if_pos c]; decide +kernel
  · rw [if_neg c, if_neg c]; decide +kernel
theorem joinL_nil : ∀ ps : List (List Nat), joinL [] ps = ps.flatten
  | [] => rfl
  | [p] => by show p = [p].flatten; simp
  | p :: q :: r => by
    show p ++ ([] ++ joinL [] (q :: r)) = _
    rw [joinL_nil (q :: r), List.nil_append]
    rfl
theorem tl_empty : tl ("" : Str) = [] := by decide +kernel
theorem tl_zero : tl ("0" : Str) = [48] := by decide +kernel
theorem tl_join0 (ys : List Str) : tl (Txt.join "" ys) = (ys.map tl).flatten := by
  rw [join_eq, tl_join, tl_empty, joinL_nil]
theorem bits_flat : ∀ zs : List Int, ((zs.map bitS).map tl).flatten = bits zs
  | [] => rfl
  | z :: zs => by
    rw [List.map_cons, List.map_cons, List.flatten_cons, bits_flat zs, tl_bit]
    rfl
theorem halves_eq (zs : List Int) : Txt.join "" (zs.map bitS) = Txt.join "0" ((gaps zs).map oneS) := by
  refine ext_tl ?_
  rw [tl_join0, bits_flat, gaps_join, join_eq, tl_join, tl_zero, List.map_map]
  rfl
theorem groups_eq (zs : List Int) : Txt.split (Txt.join "" (zs.map bitS)) "0" = (gaps zs).map oneS := by
  rw [halves_eq]
  refine split_join (s := 48) (S := []) tl_zero (by decide +kernel) (map_ne (gaps_ne zs)) fun p hp h => ?_
  obtain ⟨g, _, rfl⟩ := List.mem_map.mp hp
  have h : 48 ∈ List.replicate g 49 := h
  exact absurd (List.mem_replicate.mp h).2 (by decide)
theorem oneS_len (g : Nat) : (oneS g).length = g := by
  rw [len_tl]
  show (List.replicate g 49).length = g
  rw [List.length_replicate]
theorem halves_len (zs : List Int) : (Txt.join "" (zs.map bitS)).length = zs.length := by
  rw [len_tl, tl_join0, bits_flat]
  unfold bits
  rw [List.length_map]
theorem len4 : ∀ g : Fin 1001, (decS g.val).length ≤ 4 := by decide +kernel
theorem dec_len {g : Nat} (h : g ≤ 1000) : (decS g).length ≤ 4 := len4 ⟨g, by omega⟩
theorem dec_sum : ∀ {gs : List Nat}, (∀ g ∈ gs, g ≤ 1000) → ((gs.map decS).map (·.length)).sum ≤ 4 * gs.length
  | [], _ => by simp
  | g :: gs, h => by
    have h1 := dec_len (h g (by simp))
    have h2 := dec_sum (gs := gs) fun y m => h y (List.mem_cons_of_mem _ m)
    rw [List.map_cons, List.map_cons, List.sum_cons, List.length_cons]
    omega
theorem join0_len (ys : List Str) : (Txt.join "" ys).length = (ys.map (·.length)).sum := by
  rw [len_tl, tl_join0]
  induction ys with
  | nil => rfl
  | cons y ys ih => rw [List.map_cons, List.flatten_cons, List.length_append, ih, List.map_cons, List.sum_cons, len_tl]
theorem bit_sum (zs : List Int) : ((zs.map bitS).map (·.length)).sum = zs.length := by rw [← join0_len, halves_len]
theorem num_text : ∀ {ds : List Nat}, (∀ d ∈ ds, 1 ≤ d ∧ d ≤ 9) → Txt.join "" (ds.map decS) = numS ds
  | [], _ => by decide +kernel
  | d :: ds, h => by
    have ih := num_text (ds := ds) fun y m => h y (List.mem_cons_of_mem _ m)
    refine ext_tl ?_
    rw [tl_join0, List.map_cons, List.map_cons, List.flatten_cons, ← tl_join0, ih]
    have e : decS d = numS [d] := dig_str (h d (by simp))
    rw [e]
    rfl
/-- the number that a row of bits tells, if it is a row -/
def told (zs : List Int) : Str := Txt.join "" ((gaps (Hf.ev2 zs)).dropLast.dropLast.map decS)
theorem told_row {ds : List Nat} (h : ∀ d ∈ ds, 1 ≤ d ∧ d ≤ 9) : told (rowL ds) = numS ds := by
  unfold told
  rw [gaps_row, ← num_text h]
  congr 2
  show (ds ++ [0, 0]).dropLast.dropLast = ds
  rw [show (ds ++ [0, 0]) = (ds ++ [0]) ++ [0] by simp, List.dropLast_concat, List.dropLast_concat]
theorem digits_codes : ("123456789" : Str).cps.toList = [49, 50, 51, 52, 53, 54, 55, 56, 57] := by decide +kernel
theorem dig_text (t : Str) (h : ∀ c ∈ tl t, c ∈ ("123456789" : Str).cps.toList) : ∃ ds : List Nat, (∀ d ∈ ds, 1 ≤ d ∧ d ≤ 9) ∧ t = numS ds := by
  have h2 : ∀ c ∈ tl t, 49 ≤ c ∧ c ≤ 57 := fun c m => by
    have q := h c m
    rw [digits_codes] at q
    simp only [List.mem_cons, List.not_mem_nil, or_false] at q
    omega
  refine ⟨(tl t).map (· - 48), fun d m => ?_, ?_⟩
  · obtain ⟨c, mc, rfl⟩ := List.mem_map.mp m
    have := h2 c mc
    omega
  · refine ext_tl ?_
    show tl t = ((tl t).map (· - 48)).map (· + 48)
    rw [List.map_map]
    refine (List.map_id _).symm.trans (List.map_congr_left fun c m => ?_)
    have := h2 c m
    show c = c - 48 + 48
    omega
theorem num_codes {ds : List Nat} (h : ∀ d ∈ ds, 1 ≤ d ∧ d ≤ 9) : ∀ c ∈ tl (numS ds), c ∈ ("123456789" : Str).cps.toList := fun c m => by
  have m : c ∈ codes ds := m
  obtain ⟨d, md, rfl⟩ := List.mem_map.mp m
  exact dig_in (h d md)
def IsNum (t : Str) : Prop := ∃ ds, Num ds ∧ t = numS ds
theorem isnum_dig {ds : List Nat} : IsNum (numS ds) ↔ Num ds :=
  ⟨fun ⟨es, N, e⟩ => by rw [numS_inj e]; exact N, fun N => ⟨ds, N, rfl⟩⟩
theorem row_inj {ds es : List Nat} (N : Num ds) (M : Num es) (h : (rowL ds).map V.int = (rowL es).map V.int) : ds = es := by
  have e : rowL ds = rowL es := by
    have q := congrArg (List.map fun v => match v with | V.int i => i | _ => 0) h
    simpa [List.map_map, Function.comp_def] using q
  exact ones_inj (fun d m => (N.dig d m).1) (fun d m => (M.dig d m).1) (by rw [e])
theorem map_int_inj {xs ys : List Int} (h : xs.map V.int = ys.map V.int) : xs = ys := by
  have q := congrArg (List.map fun v => match v with | V.int i => i | _ => 0) h
  simpa [List.map_map, Function.comp_def] using q
/-- what number_of tells of a row -/
def Told (xs : List V) (v : V) : Prop := (∃ ds, Num ds ∧ xs = (rowL ds).map V.int ∧ v = .str (numS ds)) ∨ ((∀ ds, Num ds → xs ≠ (rowL ds).map V.int) ∧ v = .non)
theorem Told.uniq {xs : List V} {v u : V} (a : Told xs v) (b : Told xs u) : v = u := by
  rcases a with ⟨ds, N, e, rfl⟩ | ⟨n, rfl⟩
  · rcases b with ⟨es, M, f, rfl⟩ | ⟨n, _⟩
    · rw [row_inj N M (e.symm.trans f)]
    · exact absurd e (n ds N)
  · rcases b with ⟨es, M, f, rfl⟩ | ⟨_, rfl⟩
    · exact absurd f (n es M)
    · rfl
theorem Told.row {ds : List Nat} {v : V} (N : Num ds) (a : Told ((rowL ds).map V.int) v) : v = .str (numS ds) := a.uniq (.inl ⟨ds, N, rfl, rfl⟩)
end Wm
/-! sum of a tuple of ints. -/
namespace Hf
open PySem PySem.Spec PyProof.Rows L2
section
variable {prog : Program} {w : World} {A : Around} {E : Value → Shared → Prop} {s : Shared} {l : Addr} {its : List Value} {ns : List Int} {Q : Value → Shared → Prop}
theorem sum_rawT (hh : A.handled = none) (hl : s.heap.IsTuple l its.toArray) (hi : IntsAre its ns)
    (h : ∀ h' tk t', (∀ b o, s.heap.get? b = some o → h'.get? b = some o) → Q (.int ns.sum t') { s with heap := h', toks := tk }) : wpAny (model prog w) A (call (.builtin "sum") [.ref l]) Q E s := by
  obtain ⟨xs, e⟩ := hi.allInts.items
  have hn : numsOf (intItems xs).toList = ns := by rw [← e]; exact hi.numsOf
  rw [nums_intItems] at hn
  rw [e] at hl
  refine PySem.W.ktm_sumG hh hl fun h' tk t' hk => ?_
  have := h h' tk t' hk
  rw [preSum_eq, List.take_of_length_le (by simp), hn]; exact this
end
section
variable {X : Cx}
def rSumA (K : PySem.W.Frag) : List V → Hp → VK → Prop := fun vs H Q => ∃ (a : Addr) (ns : List Int), vs = [V.ref a] ∧ (SqL K H a (ns.map V.int) ∨ SqT K H a (ns.map V.int)) ∧ Q (.int ns.sum) H
theorem cr_sumA (hc : X.calm = true) : CallR X (.builtin "sum") (rSumA X.K) := by
  intro pins s σ H vs us Q I r h
  obtain ⟨a, ns, rfl, hs, q⟩ := h
  rcases hs with hs | hs
  · obtain ⟨its, rv, hl, _⟩ := I.list hs
    rw [Vals.ref1 r]
    exact sum_raw (I.ok.hd hc) hl.isList rv.ints fun h' tk t' hk => ⟨.int _, H, I.kept hk, ⟨_, rfl⟩, q⟩
  · obtain ⟨its, rv, hl, _⟩ := I.tuple hs
    rw [Vals.ref1 r]
    exact sum_rawT (I.ok.hd hc) (show s.heap.IsTuple a its.toArray from hl) rv.ints fun h' tk t' hk => ⟨.int _, H, I.kept hk, ⟨_, rfl⟩, q⟩
end
end Hf
/-! repr of data, and defs that are called where no repr is under way. -/
namespace Rp
open PySem PySem.Spec PyProof.Rows L2
section
variable {X : Cx}
def rRepr (K : PySem.W.Frag) : List V → Hp → VK → Prop := fun xs H Q => ∃ x d, xs = [x] ∧ Dp K H x d ∧ d.showable = true ∧ d.hasDict = false ∧ d.depth ≤ 60 ∧ d.shown.length ≤ sizeLine ∧ Q (.str d.shown) H
theorem call_reprD (hg : X.A.guards = some []) (hu : X.A.units + 64 < cLine) : CallR X (.builtin "repr") (rRepr X.K) := by
  intro pins s σ H xs us Q I r h
  obtain ⟨x, d, rfl, hd, hs, hn, hz, hl, q⟩ := h
  cases r with
  | cons rx rn =>
    cases rn
    obtain ⟨as, rd⟩ := Dp.reads I d x _ hd rx
    cases rd with
    | none => exact PySem.P.repr_of_none ⟨.str _, H, I.tok _, ⟨_, rfl⟩, q⟩
    | bool b => exact PySem.P.repr_of_bool ⟨.str _, H, I.tok _, ⟨_, rfl⟩, q⟩
    | int i t => exact PySem.P.repr_of_int (of_decide_eq_true hs) ⟨.str _, H, I.tok _, ⟨_, rfl⟩, q⟩
    | str z t => exact PySem.P.repr_of_str (hsz := hl) ⟨.str _, H, I.tok _, ⟨_, rfl⟩, q⟩
    | list h1 h2 h3 h4 =>
      exact PySem.repr_of_reads' (.list h1 h2 h3 h4) hs (fun e => by rw [hn] at e; cases e) hg (by omega) (fun _ _ e => e) (fun g u tk k => ⟨.str _, H, I.kept (t' := tk) k, ⟨_, rfl⟩, q⟩) hl
    | tuple h1 h2 h3 h4 =>
      exact PySem.repr_of_reads' (.tuple h1 h2 h3 h4) hs (fun e => by rw [hn] at e; cases e) hg (by omega) (fun _ _ e => e) (fun g u tk k => ⟨.str _, H, I.kept (t' := tk) k, ⟨_, rfl⟩, q⟩) hl
    | dict => cases hd
end
/-- as FnOk, where no repr is under way -/
structure GOk (P : Program) (w : World) (K : PySem.W.Frag) (mg : Str → Option Value) (base : Heap) (CX : CXT) (k : Nat) (f : Addr) (fd : FuncData) (ps : List Str) (sp : Sp) : Prop where
  len : ∀ vs H Q E, sp vs H Q E → vs.length = ps.length
  run : ∀ (A : Around) (outer : List Env) (s : Shared) (H : Hp) (args : Args) (us : List Value) (vs : List V) (Q : VK) (E : XK), Room k A → A.guards = some [] → Env0 P w K mg base A outer s H → BindsTo s fd args (ps.zip us) → Vals vs us → sp vs H Q E →
    codeAny (model P w) A (.call (.ref f) args) (CR CX outer P w H s Q E) s
section
variable {CX : CXT} {P : Program} {w : World} {K : PySem.W.Frag} {mg : Str → Option Value} {base : Heap} {k : Nat} {f : Addr} {fd : FuncData} {ps : List Str} {sp : Sp}
theorem GOk.of (F : FnOk P w K mg base CX k f fd ps sp) : GOk P w K mg base CX k f fd ps sp := ⟨F.len, fun A outer s H args us vs Q E hr _ => F.run A outer s H args us vs Q E hr⟩
theorem GOk.mono {j : Nat} (F : GOk P w K mg base CX j f fd ps sp) (h : j ≤ k) : GOk P w K mg base CX k f fd ps sp := ⟨F.len, fun A outer s H args us vs Q E hr => F.run A outer s H args us vs Q E (hr.mono h)⟩
theorem gfn_of {name qual : Str} {params : Arguments} {body : List Stmt} {scope : Scope} {dV kV doc pm cdv ct oc : Value} {an od : Option Addr} {osl : Array (Option Value)} {N : List Str}
    (lk : K.lookup f = some ⟨oc, od, .func (PySem.W.fnOf name qual params body scope dV kV doc pm an cdv ct), osl⟩) (hcd : PySem.W.codeIn K cdv qual = true) (S : FnScope N ps scope)
    (len : ∀ vs H Q E, sp vs H Q E → vs.length = ps.length)
    (hbody : ∀ (A : Around) (outer : List Env) (s : Shared) (H : Hp) (vs : List V) (Q : VK) (E : XK), A.guards = some [] → Room k (A.deeper (envOfC qual scope s.heap.objs.size f cdv)) → sp vs H Q E →
      ∃ t, PSs (cxOf CX P w K mg base N qual scope f cdv A outer s H E) body t ∧ t { nx := fun _ H' => Q .non H', rt := Q } (start N vs) H) :
    GOk P w K mg base CX (k + 1) f (PySem.W.fnOf name qual params body scope dV kV doc pm an cdv ct) ps sp := by
  refine ⟨len, fun A outer s H args us vs Q E hr hg e0 hb r hsp => ?_⟩
  have nl := len _ _ _ _ hsp
  have old : ∀ b o, base.get? b = some o → s.heap.get? b = some o := fun b o e => (e0.bs b o e).1
  have KX : K.In s.heap := e0.mod.kin.keeps old
  have lim : s.heap.NoLimit := e0.mod.nolimit.keeps old
  have kinds : ∀ y ∈ ps.zip us, scope.names.lookup y.1 = some .local ∨ (scope.names.lookup y.1 = some .cell ∧ ((cellsFrom (s.heap.objs.size + 1) scope.names []).lookup y.1).isSome = true) := fun ⟨n, v⟩ hy =>
    (S.par n (List.of_mem_zip hy).1).imp id fun q => ⟨q, PySem.W.cellsFrom_some _ _ _ (.inl q)⟩
  refine codeAny_call_function hr.depth (KX _ _ lk) rfl S.co S.gen rfl (PySem.W.codeRec_of KX hcd) (hb _ _ _ _ ?_)
  refine wpAny_newFunctionEnv_cells S.kind kinds fun env ee s1 x => ?_
  subst ee
  refine ⟨lim.keeps x.toInCall.keep, codeAny_func ?_⟩
  obtain ⟨t, ht, hq⟩ := hbody A outer s H vs Q E hg (hr.deeper _) hsp
  have I0 : Inv (cxOf CX P w K mg base N qual scope f cdv A outer s H E) [] (start N vs) H s1 := inv_start S hr.hd e0 nl r x
  refine wpAny_mono (ht.run [] s1 (start N vs) H _ I0 hq) (fun fl s' hs => ?_) fun e s' hs => hs
  cases fl with
  | ret u =>
    obtain ⟨v, σ', H', J, rv, q⟩ := hs
    exact ⟨v, H', J.os, J.bare, J.base, J.hok, rv, q⟩
  | next =>
    obtain ⟨σ', H', J, q⟩ := hs
    exact ⟨V.non, H', J.os, J.bare, J.base, J.hok, rfl, q⟩
  | brk =>
    obtain ⟨_, _, _, q⟩ := hs
    exact q.elim
  | cont =>
    obtain ⟨_, _, _, q⟩ := hs
    exact q.elim
theorem gok {x qual : Str} {st : Stmt} {N : List Str} (F : Fun K x qual st f fd) (S : FnScope N ps (defScope st)) (len : ∀ vs H Q E, sp vs H Q E → vs.length = ps.length)
    (hbody : ∀ (cdv : Value) (A : Around) (outer : List Env) (s : Shared) (H : Hp) (vs : List V) (Q : VK) (E : XK), A.guards = some [] → Room k (A.deeper (envOfC qual (defScope st) s.heap.objs.size f cdv)) → sp vs H Q E →
      ∃ t, PSs (cxOf CX0 P w K mg base N qual (defScope st) f cdv A outer s H E).nox (defBody st) t ∧ t { nx := fun _ H' => Q .non H', rt := Q } (start N vs) H) : GOk P w K mg base CX0 (k + 1) f fd ps sp := by
  obtain ⟨oc, od, kV, doc, pm, an, cdv, ct, osl, rfl, lk, hcd⟩ := F.ex
  refine gfn_of lk hcd S len fun A outer s H vs Q E hg hr hsp => ?_
  obtain ⟨t, h, q⟩ := hbody cdv A outer s H vs Q E hg hr hsp
  exact ⟨t, h.nox, q⟩
end
section
variable {X : Cx} {CX : CXT} {k : Nat} {f : Addr} {fd : FuncData} {ps : List Str} {sp : Sp} {E : XK} {ds : List Value} {dvs : List V} {x : Str} {e : Expr} {es : List Expr} {t : TA} {p pos : Pos}
theorem pe_gcall (F : GOk X.prog X.w X.K X.mg X.base CX k f fd ps sp) (gd : X.A.guards = some []) (hr : Room k X.A) (hg : Gl X x) (hm : X.mg x = some (.ref f)) (hk : PySem.W.keepIn X.K (.ref f) = true) (hb : Binds X.K fd ps ds) (hd : Vals dvs ds) (hx : Passes CX X E)
    (ha : PA X (e :: es) t) (hdb : (x == ("__debug__" : Str)) = false := by decide) (he : starEach (e :: es) X.env = (false, eval e X.env) :: starEach es X.env := by rfl) (hpl : (backTo pos (starEach es X.env)).any (·.1) = false := by rfl) :
    PE X (.Call (.Name x p) (e :: es) [] pos) (tCall sp dvs E t) := by
  refine ⟨fun pins s σ H Q I h => ?_⟩
  refine wpAny_Call_Name_kw (ld_glob I hg hm ?_ hdb)
  refine PySem.W.callWith_K (h₀ := X.base) I.ok.mod.kin hk (thn (ha.run pos pins s σ H _ I h) fun us s1 ⟨vs, H1, I1, r, q⟩ => ⟨I1.kIn, ?_⟩) he hpl
  have r2 : Vals (vs ++ dvs) (us ++ ds) := r.append hd
  have nl : (us ++ ds).length = ps.length := r2.length.symm.trans (F.len _ _ _ _ q)
  refine wpAny_call (codeAny_mono (F.run X.A X.stack s1 H1 ⟨us, []⟩ (us ++ ds) (vs ++ dvs) Q E hr gd I1.env0 (hb s1 us I1.kIn nl) r2 q) fun res s' hq => ?_)
  cases res with
  | error z => exact hx pins σ H1 s1 z s' I1 hq
  | ok fl =>
    cases fl with
    | ret u => exact I1.after hq
    | next => exact hq.elim
    | brk => exact hq.elim
    | cont => exact hq.elim
end
end Rp
/-! The law's own call, of a def that is called where no repr is under way. -/
namespace Rp
open PySem PySem.Spec PyProof.Rows L2
theorem law_gcall {P : Program} {w : World} {K : PySem.W.Frag} {mg mb : Str → Option Value} {CX : CXT} {k : Nat} {fa a : Addr} {fd : FuncData} {x : Str} {sp : Sp} {s1 : Shared} {vs : List Value} {ns : List Int}
    (KX : K.In s1.heap) (hns : s1.heap.Ns mainGlobals mg) (hb : s1.heap.Ns builtinsNs mb) (hbb : ∀ y : Str, y ≠ "__name__" → mb y = bootBuiltins y) (lim : s1.heap.NoLimit) (gens : s1.gens = #[])
    (ha : s1.heap.get? a = some { cls := .type "list", data := .seq vs.toArray }) (hi : IntsAre vs ns) (hl : ns.length ≤ sizeLine) (hr : Room k callerA)
    (F : ∀ base : Heap, K.In base → base.Ns mainGlobals mg → GOk P w K mg base CX k fa fd [x] sp) (hbind : ∀ (s : Shared) (u : Value), BindsTo s fd ⟨[u], []⟩ [(x, u)])
    (hsp : ∀ H : Hp, Only H → SqL K H a (ns.map V.int) → sp [.ref a] H (fun v _ => v = .bl true) fun _ _ _ => False)
    (hCX : ∀ H e t, CX [] H s1 (fun _ _ _ => False) e t → False) :
    codeAny (model P w) callerA (.call (.ref fa) ⟨[.ref a], []⟩) (fun r t => r = .ok (.ret (.bool true)) ∧ OldK s1.heap t.heap ∧ t.os = s1.os ∧ AllBare t.gens) s1 := by
  have rv := vals_ints hi
  have nv := hi.length
  have go : ∀ H : Hp, Only H → SqL K H a (ns.map V.int) → HOk P w H s1.heap → (∀ b, H b ≠ none → b = a) → (H a ≠ none → K.lookup a = none) →
      codeAny (model P w) callerA (.call (.ref fa) ⟨[.ref a], []⟩) (fun r t => r = .ok (.ret (.bool true)) ∧ OldK s1.heap t.heap ∧ t.os = s1.os ∧ AllBare t.gens) s1 := by
    intro H hO hS hok only_a noK
    have hid : ∀ {b : Addr} {o : Obj}, s1.heap.get? b = some o → H b = none → (hidT s1.heap H).get? b = some o := fun e n => hidT_get e n
    have dictFree : ∀ {b : Addr} {o : Obj} {es : Array DictEntry} {ep : Nat}, s1.heap.get? b = some o → o.data = .dict es ep → H b = none := fun {b o es ep} e d => by
      cases q : H b with
      | none => rfl
      | some u =>
        have eb : b = a := only_a b (by rw [q]; simp)
        subst eb
        rw [ha] at e
        cases e
        have d2 : Data.seq vs.toArray _ = Data.dict es ep := d
        cases d2
    have nsOf : ∀ {b : Addr} {m : Str → Option Value}, s1.heap.Ns b m → (hidT s1.heap H).Ns b m := fun {b m} ⟨o, es, ep, e, d, r⟩ => ⟨o, es, ep, hid e (dictFree e d), d, r⟩
    have inB : K.In (hidT s1.heap H) := fun b o e => hid (KX b o e) (by
      cases q : H b with
      | none => rfl
      | some u =>
        have eb : b = a := only_a b (by rw [q]; simp)
        subst eb
        rw [noK (by rw [q]; simp)] at e
        cases e)
    have md : Mod K mg (hidT s1.heap H) := ⟨inB, nsOf hns, ⟨mb, nsOf hb, hbb⟩, let ⟨mc, c1, c2⟩ := lim; ⟨mc, nsOf c1, c2⟩⟩
    have e0 : Env0 P w K mg (hidT s1.heap H) callerA [] s1 H := ⟨rfl, md, fun b o e => of_hidT e, Nat.le_of_eq (hidT_size _ _), trivial, fun b hb => absurd (show b ∈ ([] : List Addr) from hb) (by simp), hok, .of_eq gens⟩
    refine codeAny_mono ((F _ inB (nsOf hns)).run callerA [] s1 H ⟨[.ref a], []⟩ [.ref a] [.ref a] _ _ hr rfl e0 (hbind s1 (.ref a)) (.cons rfl .nil) (hsp H hO hS)) fun r t h => ?_
    cases r with
    | error e => exact (hCX H e t h).elim
    | ok fl =>
      cases fl with
      | next => exact h.elim
      | brk => exact h.elim
      | cont => exact h.elim
      | ret u =>
        obtain ⟨v, H', os, bare, un, hok', r', q⟩ := h
        have q' : v = .bl true := q
        subst q'
        obtain rfl : u = Value.bool true := r'
        refine ⟨rfl, OldK.of_keep fun b o e => ?_, os, bare⟩
        cases q : H b with
        | none => exact un.keep b o e q (by intro z; exact absurd (show b ∈ ([] : List Addr) from z) (by simp)) (by simp)
        | some u =>
          rcases hO b with z | ⟨ob, xs, z⟩
          · rw [q] at z
            cases z
          · have z2 := un.frzs b ob _ z
            obtain ⟨e1, _⟩ := hok b _ z
            obtain ⟨e2, _⟩ := hok' b _ z2
            rw [e] at e1
            cases e1
            exact e2
  cases hk : K.lookup a with
  | some o =>
    have e := KX a o hk
    rw [ha] at e
    cases e
    refine go (fun _ => none) (fun _ => .inl rfl) (.inr ⟨_, vs.toArray, _, hk, rfl, rfl, rfl, by rw [List.size_toArray, nv]; exact hl, by simpa using rv⟩) (fun b u z => by have z' : (none : Option HO) = some u := z; cases z') (fun b z => absurd rfl z) fun z => absurd rfl z
  | none =>
    refine go (fun b => if b = a then some (.frz { cls := .type "list", data := .seq vs.toArray } (.lst (ns.map V.int))) else none) (fun b => ?_) (.inl (.inr ⟨{ cls := .type "list", data := .seq vs.toArray }, if_pos rfl⟩)) (fun b u z => ?_) (fun b z => ?_) fun _ => hk
    · by_cases c : b = a
      · exact .inr ⟨_, _, if_pos c⟩
      · exact .inl (if_neg c)
    · by_cases c : b = a
      · have z' := (if_pos c).symm.trans z
        cases z'
        subst c
        exact ⟨ha, by rw [List.length_map]; exact hl, vs, _, rv, ha⟩
      · have z' := (if_neg c).symm.trans z
        cases z'
    · by_cases c : b = a
      · exact c
      · exact absurd (if_neg c) z
theorem walk_gof {l : PySem.W.OpenLaw} {n k : Nat} {q : Program} {loose : List Str} {XP : (Str → Option Value) → Heap → Prop} {YP : World → Heap → Prop} {d : DefRec} {K : Params → PySem.W.Frag} {CX : World → CXT} {sp : World → Sp} {x : Str}
    (hn : l.most = some n) (hn2 : n ≤ sizeLine) (hdf : d.params.defaults = []) (hr : Room k callerA)
    (hY : ∀ (w : World) (h : Heap), YP w h → (K w.params).In h)
    (F : ∀ (w : World) (mg : Str → Option Value) (fa : Addr) (h : Heap), (K w.params).In h → h.Ns mainGlobals mg → mg d.name = some (.ref fa) →
      ∃ fd : FuncData, (∀ (s : Shared) (u : Value), BindsTo s fd ⟨[u], []⟩ [(x, u)]) ∧
        ∀ base : Heap, (K w.params).In base → base.Ns mainGlobals mg → GOk l.prog w (K w.params) mg base (CX w) k fa fd [x] (sp w))
    (hsp : ∀ (w : World) (H : Hp) (a : Addr) (ns : List Int), ns.length ≤ n → Only H → SqL (K w.params) H a (ns.map V.int) → sp w [.ref a] H (fun v _ => v = .bl true) fun _ _ _ => False)
    (hCX : ∀ (w : World) (H : Hp) (s : Shared) (e : Value) (t : Shared), CX w [] H s (fun _ _ _ => False) e t → False) :
    PySem.W.WalkO q loose XP YP l.row.toRowW d [] (fun f vs => PySem.call f vs) := by
  refine Att.attach_call hn hdf fun w s0 s1 mg mb fa o pm cd doc a vs ns G Y ho hd hcd hmg hobj hints hlen hg => ?_
  have KX := hY w _ Y
  obtain ⟨fd, hb, hF⟩ := F w mg fa _ KX G.T.g hmg
  exact law_gcall KX G.T.g G.T.b G.T.builtins G.T.nolimit hg hobj hints (Nat.le_trans hlen hn2) hr hF hb (fun H hO hS => hsp w H a ns hlen hO hS) fun H e t => hCX w H s1 e t
end Rp
namespace K01
open PySem L2
def top (i : Nat) : Stmt := PySem.Challenge.pw_wheelchorus_k01_rows_and_blocks.main.body.getD i (.Pass ⟨0, 0, 0, 0⟩)
abbrev s_is_whole : Stmt := top 4
abbrev s_is_whole_within : Stmt := top 5
abbrev s_is_number : Stmt := top 10
abbrev s_check_number : Stmt := top 11
abbrev s_blocks : Stmt := top 12
abbrev s_row_of : Stmt := top 13
abbrev s_length_of : Stmt := top 14
abbrev s_number_of : Stmt := top 15
abbrev s_bag : Stmt := top 17
abbrev s_draw : Stmt := top 18
abbrev s_number : Stmt := top 19
abbrev s_row : Stmt := top 20
abbrev s_bent : Stmt := top 21
abbrev s_plain : Stmt := top 22
abbrev s_read : Stmt := top 23
abbrev s_asked : Stmt := top 24
abbrev s_law : Stmt := top 25
abbrev nm_is_whole : List Str := ["thing"]
theorem sc_is_whole : FnScope nm_is_whole ["thing"] (defScope s_is_whole) :=
  ⟨rfl, rfl, rfl, by decide +kernel, rfl, by decide +kernel, by decide +kernel⟩
abbrev nm_is_whole_within : List Str := ["thing", "low", "high"]
theorem sc_is_whole_within : FnScope nm_is_whole_within ["thing", "low", "high"] (defScope s_is_whole_within) :=
  ⟨rfl, rfl, rfl, by decide +kernel, rfl, by decide +kernel, by decide +kernel⟩
abbrev nm_is_number : List Str := ["thing", "letter"]
theorem sc_is_number : FnScope nm_is_number ["thing"] (defScope s_is_number) :=
  ⟨rfl, rfl, rfl, by decide +kernel, rfl, by decide +kernel, by decide +kernel⟩
abbrev nm_check_number : List Str := ["thing"]
theorem sc_check_number : FnScope nm_check_number ["thing"] (defScope s_check_number) :=
  ⟨rfl, rfl, rfl, by decide +kernel, rfl, by decide +kernel, by decide +kernel⟩
abbrev nm_blocks : List Str := ["number", "letter"]
theorem sc_blocks : FnScope nm_blocks ["number"] (defScope s_blocks) :=
  ⟨rfl, rfl, rfl, by decide +kernel, rfl, by decide +kernel, by decide +kernel⟩
abbrev nm_row_of : List Str := ["number", "row", "strokes"]
theorem sc_row_of : FnScope nm_row_of ["number"] (defScope s_row_of) :=
  ⟨rfl, rfl, rfl, by decide +kernel, rfl, by decide +kernel, by decide +kernel⟩
abbrev nm_length_of : List Str := ["number", "sizes"]
theorem sc_length_of : FnScope nm_length_of ["number"] (defScope s_length_of) :=
  ⟨rfl, rfl, rfl, by decide +kernel, rfl, by decide +kernel, by decide +kernel⟩
abbrev nm_number_of : List Str := ["row", "sign", "halves", "groups", "number", "group"]
theorem sc_number_of : FnScope nm_number_of ["row"] (defScope s_number_of) :=
  ⟨rfl, rfl, rfl, by decide +kernel, rfl, by decide +kernel, by decide +kernel⟩
abbrev nm_bag : List Str := ["_law_script", "_law_cells", "_law_cell"]
theorem sc_bag : FnScope nm_bag ["_law_script"] (defScope s_bag) :=
  ⟨rfl, rfl, rfl, by decide +kernel, rfl, by decide +kernel, by decide +kernel⟩
abbrev nm_draw : List Str := ["_law_bag_here", "_law_limit", "_law_digit"]
theorem sc_draw : FnScope nm_draw ["_law_bag_here", "_law_limit"] (defScope s_draw) :=
  ⟨rfl, rfl, rfl, by decide +kernel, rfl, by decide +kernel, by decide +kernel⟩
abbrev nm_number : List Str := ["_law_bag_here", "_law_many", "_law_way", "_law_top", "_law_word", "_law_left", "_law_k", "_law_digit"]
theorem sc_number : FnScope nm_number ["_law_bag_here"] (defScope s_number) :=
  ⟨rfl, rfl, rfl, by decide +kernel, rfl, by decide +kernel, by decide +kernel⟩
abbrev nm_row : List Str := ["_law_number_here", "_law_row_here", "_law_sign"]
theorem sc_row : FnScope nm_row ["_law_number_here"] (defScope s_row) :=
  ⟨rfl, rfl, rfl, by decide +kernel, rfl, by decide +kernel, by decide +kernel⟩
abbrev nm_bent : List Str := ["_law_bag_here", "_law_one", "_law_other", "_law_row_here", "_law_at", "_law_way"]
theorem sc_bent : FnScope nm_bent ["_law_bag_here", "_law_one", "_law_other"] (defScope s_bent) :=
  ⟨rfl, rfl, rfl, by decide +kernel, rfl, by decide +kernel, by decide +kernel⟩
abbrev nm_plain : List Str := ["_law_thing"]
theorem sc_plain : FnScope nm_plain ["_law_thing"] (defScope s_plain) :=
  ⟨rfl, rfl, rfl, by decide +kernel, rfl, by decide +kernel, by decide +kernel⟩
abbrev nm_read : List Str := ["_law_row_here", "_law_tick", "_law_strokes", "_law_at", "_law_sizes", "_law_k", "_law_step", "_law_word", "_law_size"]
theorem sc_read : FnScope nm_read ["_law_row_here"] (defScope s_read) :=
  ⟨rfl, rfl, rfl, by decide +kernel, rfl, by decide +kernel, by decide +kernel⟩
abbrev nm_asked : List Str := ["_law_number_here", "_law_due", "_law_row_here", "_law_tick", "_law_size", "_law_told", "_law_sign", "_law_one"]
theorem sc_asked : FnScope nm_asked ["_law_number_here"] (defScope s_asked) :=
  ⟨rfl, rfl, rfl, by decide +kernel, rfl, by decide +kernel, by decide +kernel⟩
abbrev nm_law : List Str := ["_law_script", "_law_bag_here", "_law_one", "_law_other", "_law_k", "_law_row_here", "_law_due", "_law_kept"]
theorem sc_law : FnScope nm_law ["_law_script"] (defScope s_law) :=
  ⟨rfl, rfl, rfl, by decide +kernel, rfl, by decide +kernel, by decide +kernel⟩
structure Txt (K : PySem.W.Frag) (mg : Str → Option Value) where
  a_is_whole : Addr
  d_is_whole : FuncData
  F_is_whole : Fun K "is_whole" "is_whole" s_is_whole a_is_whole d_is_whole
  b_is_whole : Binds K d_is_whole ["thing"] []
  g_is_whole : mg "is_whole" = some (.ref a_is_whole)
  a_is_whole_within : Addr
  d_is_whole_within : FuncData
  F_is_whole_within : Fun K "is_whole_within" "is_whole_within" s_is_whole_within a_is_whole_within d_is_whole_within
  b_is_whole_within : Binds K d_is_whole_within ["thing", "low", "high"] []
  g_is_whole_within : mg "is_whole_within" = some (.ref a_is_whole_within)
  a_is_number : Addr
  d_is_number : FuncData
  F_is_number : Fun K "is_number" "is_number" s_is_number a_is_number d_is_number
  b_is_number : Binds K d_is_number ["thing"] []
  g_is_number : mg "is_number" = some (.ref a_is_number)
  a_check_number : Addr
  d_check_number : FuncData
  F_check_number : Fun K "check_number" "check_number" s_check_number a_check_number d_check_number
  b_check_number : Binds K d_check_number ["thing"] []
  g_check_number : mg "check_number" = some (.ref a_check_number)
  a_blocks : Addr
  d_blocks : FuncData
  F_blocks : Fun K "blocks" "blocks" s_blocks a_blocks d_blocks
  b_blocks : Binds K d_blocks ["number"] []
  g_blocks : mg "blocks" = some (.ref a_blocks)
  a_row_of : Addr
  d_row_of : FuncData
  F_row_of : Fun K "row_of" "row_of" s_row_of a_row_of d_row_of
  b_row_of : Binds K d_row_of ["number"] []
  g_row_of : mg "row_of" = some (.ref a_row_of)
  a_length_of : Addr
  d_length_of : FuncData
  F_length_of : Fun K "length_of" "length_of" s_length_of a_length_of d_length_of
  b_length_of : Binds K d_length_of ["number"] []
  g_length_of : mg "length_of" = some (.ref a_length_of)
  a_number_of : Addr
  d_number_of : FuncData
  F_number_of : Fun K "number_of" "number_of" s_number_of a_number_of d_number_of
  b_number_of : Binds K d_number_of ["row"] []
  g_number_of : mg "number_of" = some (.ref a_number_of)
  a_bag : Addr
  d_bag : FuncData
  F_bag : Fun K "_law_bag" "_law_bag" s_bag a_bag d_bag
  b_bag : Binds K d_bag ["_law_script"] []
  g_bag : mg "_law_bag" = some (.ref a_bag)
  a_draw : Addr
  d_draw : FuncData
  F_draw : Fun K "_law_draw" "_law_draw" s_draw a_draw d_draw
  b_draw : Binds K d_draw ["_law_bag_here", "_law_limit"] []
  g_draw : mg "_law_draw" = some (.ref a_draw)
  a_number : Addr
  d_number : FuncData
  F_number : Fun K "_law_number" "_law_number" s_number a_number d_number
  b_number : Binds K d_number ["_law_bag_here"] []
  g_number : mg "_law_number" = some (.ref a_number)
  a_row : Addr
  d_row : FuncData
  F_row : Fun K "_law_row" "_law_row" s_row a_row d_row
  b_row : Binds K d_row ["_law_number_here"] []
  g_row : mg "_law_row" = some (.ref a_row)
  a_bent : Addr
  d_bent : FuncData
  F_bent : Fun K "_law_bent" "_law_bent" s_bent a_bent d_bent
  b_bent : Binds K d_bent ["_law_bag_here", "_law_one", "_law_other"] []
  g_bent : mg "_law_bent" = some (.ref a_bent)
  a_plain : Addr
  d_plain : FuncData
  F_plain : Fun K "_law_plain" "_law_plain" s_plain a_plain d_plain
  b_plain : Binds K d_plain ["_law_thing"] []
  g_plain : mg "_law_plain" = some (.ref a_plain)
  a_read : Addr
  d_read : FuncData
  F_read : Fun K "_law_read" "_law_read" s_read a_read d_read
  b_read : Binds K d_read ["_law_row_here"] []
  g_read : mg "_law_read" = some (.ref a_read)
  a_asked : Addr
  d_asked : FuncData
  F_asked : Fun K "_law_asked" "_law_asked" s_asked a_asked d_asked
  b_asked : Binds K d_asked ["_law_number_here"] []
  g_asked : mg "_law_asked" = some (.ref a_asked)
  a_law : Addr
  d_law : FuncData
  F_law : Fun K "law" "law" s_law a_law d_law
  b_law : Binds K d_law ["_law_script"] []
  g_law : mg "law" = some (.ref a_law)
  t_DIGITS : Tok
  c_DIGITS : mg "DIGITS" = some (.str "123456789" t_DIGITS)
  t_MOST_DIGITS : Tok
  c_MOST_DIGITS : mg "MOST_DIGITS" = some (.int 4 t_MOST_DIGITS)
  t_GREATEST_SUM : Tok
  c_GREATEST_SUM : mg "GREATEST_SUM" = some (.int 24 t_GREATEST_SUM)
  z_all : mg "all" = none
  z_bool : mg "bool" = none
  z_int : mg "int" = none
  z_isinstance : mg "isinstance" = none
  z_len : mg "len" = none
  z_list : mg "list" = none
  z_max : mg "max" = none
  z_min : mg "min" = none
  z_range : mg "range" = none
  z_repr : mg "repr" = none
  z_str : mg "str" = none
  z_sum : mg "sum" = none
  z_tuple : mg "tuple" = none
end K01
/-! The promises. -/
namespace K01
open PySem L2 Wm
def sp_is_whole (K : PySem.W.Frag) : Sp := fun vs H Q _ => ∃ x, vs = [x] ∧ Item K H x ∧ Q (.bl (isI x)) H
def sp_is_whole_within (K : PySem.W.Frag) : Sp := fun vs H Q _ => ∃ x, vs = [x, .int 0, .int 1] ∧ Item K H x ∧ Q (.bl (isBit x)) H
def sp_plain (K : PySem.W.Frag) : Sp := sp_is_whole K
def sp_is_number (K : PySem.W.Frag) : Sp := fun vs H Q _ => ∃ (t : Str), t.length ≤ 100000 ∧ vs = [.str t] ∧ ∀ H' b, Same H H' → (b = true ↔ IsNum t) → Q (.bl b) H'
def sp_check_number (K : PySem.W.Frag) : Sp := fun vs H Q _ => ∃ (ds : List Nat), Num ds ∧ vs = [.str (numS ds)] ∧ ∀ H', Same H H' → Q .non H'
def sp_blocks (K : PySem.W.Frag) : Sp := fun vs H Q _ => ∃ (ds : List Nat), Num ds ∧ vs = [.str (numS ds)] ∧ ∀ H' p, Same H H' → H p = none → H' p = some (.tup (ds.map fun (d : Nat) => V.int (d : Int))) → Q (.ref p) H'
def sp_row_of (K : PySem.W.Frag) : Sp := fun vs H Q _ => ∃ (ds : List Nat), Num ds ∧ vs = [.str (numS ds)] ∧ ∀ H' p, Same H H' → H p = none → H' p = some (.tup ((rowL ds).map V.int)) → Q (.ref p) H'
def sp_length_of (K : PySem.W.Frag) : Sp := fun vs H Q _ => ∃ (ds : List Nat), Num ds ∧ vs = [.str (numS ds)] ∧ ∀ H', Same H H' → Q (.int ((rowL ds).length : Nat)) H'
def sp_number_of (K : PySem.W.Frag) : Sp := fun vs H Q _ => ∃ (p : Addr) (xs : List V), vs = [.ref p] ∧ SqA K H p xs ∧ (∀ x ∈ xs, Item K H x) ∧ xs.length ≤ 1000 ∧ ∀ H' v, Same H H' → Told xs v → Q v H'
def sp_bag (K : PySem.W.Frag) : Sp := fun vs H Q _ => ∃ (a : Addr) (ns : List Int), vs = [.ref a] ∧ SqL K H a (ns.map V.int) ∧ ns.length ≤ 63 ∧ ∀ H' b, Same H H' → Bag H' b 0 → Q (.ref b) H'
def sp_draw (K : PySem.W.Frag) : Sp := fun vs H Q _ => ∃ (b : Addr) (n : Nat) (lim : Int), vs = [.ref b, .int lim] ∧ 0 < lim ∧ lim < 1073741824 ∧ Bag H b n ∧ n ≤ 1000000 ∧
  ∀ H' d, 0 ≤ d → d < lim → Bag H' b (n + 1) → But b H H' → Q (.int d) H'
def sp_number (K : PySem.W.Frag) : Sp := fun vs H Q _ => ∃ (b : Addr) (n : Nat), vs = [.ref b] ∧ Bag H b n ∧ n ≤ 900000 ∧ ∀ H' (ds : List Nat), Num ds → Bag H' b (n + 6) → But b H H' → Q (.str (numS ds)) H'
def sp_row (K : PySem.W.Frag) : Sp := fun vs H Q _ => ∃ (ds : List Nat), Num ds ∧ vs = [.str (numS ds)] ∧ ∀ H' p, Same H H' → H p = none → H' p = some (.lst ((rowL ds).map V.int)) → Q (.ref p) H'
def sp_bent (K : PySem.W.Frag) : Sp := fun vs H Q _ => ∃ (b : Addr) (n : Nat) (ds es : List Nat), vs = [.ref b, .str (numS ds), .str (numS es)] ∧ Num ds ∧ Num es ∧ Bag H b n ∧ n ≤ 900000 ∧
  ∀ H' p xs, H' p = some (.lst xs) → (∀ x ∈ xs, Item K H' x) → xs.length ≤ 1000 → Bag H' b (n + 4) → But b H H' → Q (.ref p) H'
def sp_read (K : PySem.W.Frag) : Sp := fun vs H Q _ => ∃ (p : Addr) (xs : List V), vs = [.ref p] ∧ SqL K H p xs ∧ (∀ x ∈ xs, Item K H x) ∧ xs.length ≤ 1000 ∧ ∀ H' v, Same H H' → Told xs v → Q v H'
def sp_asked (K : PySem.W.Frag) : Sp := fun vs H Q _ => ∃ (ds : List Nat), Num ds ∧ vs = [.str (numS ds)] ∧ ∀ H', Same H H' → Q (.bl true) H'
def sp_law (K : PySem.W.Frag) : Sp := fun vs H Q _ => ∃ (a : Addr) (ns : List Int), vs = [.ref a] ∧ SqL K H a (ns.map V.int) ∧ ns.length ≤ 63 ∧ ∀ H', Q (.bl true) H'
end K01
namespace K01
open PySem L2 Wm TL
section
variable {P : Program} {w : World} {K : PySem.W.Frag} {mg : Str → Option Value} {base : Heap}
theorem bool_and {a b c : Bool} (h : (a && !b) = c) (ha : a = true) : (!b) = c := by
  subst ha
  exact h
theorem ok_is_whole (T : Txt K mg) : FnOk P w K mg base CX0 1 T.a_is_whole T.d_is_whole ["thing"] (sp_is_whole K) := by
  refine T.F_is_whole.ok sc_is_whole (fun vs H Q E h => ?_) (fun cdv A outer s H vs Q E hr h => ?_)
  · obtain ⟨x, rfl, _⟩ := h
    rfl
  · obtain ⟨x, rfl, it, k⟩ := h
    obtain ⟨n, a, b, ty, k1, k2, e⟩ := tyx_of it
    refine ⟨_, (pss_one (ps_ret (pe_and (pe_callB call_isi (by rfl) T.z_isinstance (by decide +kernel) (pa_cons (pv 0) (pa_cons (pe_bltn (v := V.ty "int") (by rfl) T.z_int (by decide +kernel) rfl) pa_nil))) (pe_one (pe_not (pe_callB call_isi (by rfl) T.z_isinstance (by decide +kernel) (pa_cons (pv 0) (pa_cons (pe_bltn (v := V.ty "bool") (by rfl) T.z_bool (by decide +kernel) rfl) pa_nil)))))))), ?_⟩
    refine ⟨_, rfl, _, _, _, _, a, rfl, .ty "int", ty, k1, a, rfl, ?_⟩
    refine ite2 (fun c => ?_) (fun c => ?_)
    · refine ⟨_, rfl, _, _, _, _, b, rfl, .ty "bool", ty, k2, b, rfl, ?_⟩
      rw [bool_and e c]
      exact k
    · have ha : a = false := by cases a with | false => rfl | true => exact absurd rfl c
      subst ha
      have e' : false = isI x := e
      rw [e']
      exact k
theorem ok_plain (T : Txt K mg) : FnOk P w K mg base CX0 1 T.a_plain T.d_plain ["_law_thing"] (sp_plain K) := by
  refine T.F_plain.ok sc_plain (fun vs H Q E h => ?_) (fun cdv A outer s H vs Q E hr h => ?_)
  · obtain ⟨x, rfl, _⟩ := h
    rfl
  · obtain ⟨x, rfl, it, k⟩ := h
    obtain ⟨n, a, b, ty, k1, k2, e⟩ := tyx_of it
    refine ⟨_, (pss_one (ps_ret (pe_and (pe_callB call_isi (by rfl) T.z_isinstance (by decide +kernel) (pa_cons (pv 0) (pa_cons (pe_bltn (v := V.ty "int") (by rfl) T.z_int (by decide +kernel) rfl) pa_nil))) (pe_one (pe_not (pe_callB call_isi (by rfl) T.z_isinstance (by decide +kernel) (pa_cons (pv 0) (pa_cons (pe_bltn (v := V.ty "bool") (by rfl) T.z_bool (by decide +kernel) rfl) pa_nil)))))))), ?_⟩
    refine ⟨_, rfl, _, _, _, _, a, rfl, .ty "int", ty, k1, a, rfl, ?_⟩
    refine ite2 (fun c => ?_) (fun c => ?_)
    · refine ⟨_, rfl, _, _, _, _, b, rfl, .ty "bool", ty, k2, b, rfl, ?_⟩
      rw [bool_and e c]
      exact k
    · have ha : a = false := by cases a with | false => rfl | true => exact absurd rfl c
      subst ha
      have e' : false = isI x := e
      rw [e']
      exact k
theorem bit_int (i : Int) : isBit (.int i) = (decide (0 ≤ i) && decide (i ≤ 1)) := by
  unfold isBit
  rw [Bool.eq_iff_iff, Bool.or_eq_true_iff, Bool.and_eq_true_iff, decide_eq_true_iff, decide_eq_true_iff, decide_eq_true_iff, decide_eq_true_iff]
  constructor
  · rintro (h | h)
    · cases h; omega
    · cases h; omega
  · rintro ⟨h1, h2⟩
    by_cases z : i = 0
    · exact .inl (by rw [z])
    · exact .inr (by rw [show i = 1 by omega])
theorem bit_not {x : V} (h : isI x ≠ true) : isBit x = false := by
  cases x with
  | int i => exact absurd rfl h
  | _ => rfl
theorem ok_is_whole_within (T : Txt K mg) : FnOk P w K mg base CX0 2 T.a_is_whole_within T.d_is_whole_within ["thing", "low", "high"] (sp_is_whole_within K) := by
  refine T.F_is_whole_within.ok sc_is_whole_within (fun vs H Q E h => ?_) (fun cdv A outer s H vs Q E hr h => ?_)
  · obtain ⟨x, rfl, _⟩ := h
    rfl
  · obtain ⟨x, rfl, it, k⟩ := h
    refine ⟨_, (pss_one (ps_ret (pe_and (pe_call (ok_is_whole T) (hr.mono (by decide)) (by rfl) T.g_is_whole T.F_is_whole.kp T.b_is_whole .nil pass0 (pa_cons (pv 0) pa_nil)) (pe_one (pe_chain op_le op_le (pv 1) (pv 0) (pv 2)))))), ?_⟩
    refine ⟨_, rfl, x, rfl, it, _, rfl, ?_⟩
    refine ite2 (fun c => ?_) (fun c => ?_)
    · cases x with
      | int i =>
        rw [bit_int] at k
        refine ⟨_, rfl, _, rfl, _, _, rfl, rfl, _, rfl, ite2 (fun c2 => ?_) (fun c2 => ?_)⟩
        · refine ⟨_, rfl, _, _, rfl, rfl, ?_⟩
          rw [c2, Bool.true_and] at k
          exact k
        · have c3 : decide ((0 : Int) ≤ i) = false := by
            cases q : decide ((0 : Int) ≤ i) with
            | false => rfl
            | true => exact absurd q c2
          rw [c3, Bool.false_and] at k
          exact k
      | _ => cases c
    · rw [bit_not c] at k
      exact k
end
end K01
namespace K01
open PySem L2 Wm TL
section
variable {P : Program} {w : World} {K : PySem.W.Frag} {mg : Str → Option Value} {base : Heap}
theorem small_len {n : Nat} (h : n ≤ 100000) : n ≤ sizeLine := by
  have : (100000 : Nat) ≤ sizeLine := by decide
  omega
theorem sum_cast : ∀ ds : List Nat, (ds.map fun (d : Nat) => (d : Int)).sum = ((ds.sum : Nat) : Int)
  | [] => rfl
  | d :: ds => by
    rw [List.map_cons, List.sum_cons, List.sum_cons, sum_cast ds]
    omega
def letters (t : Str) : List Bool := (tl t).map fun c => decide (c ∈ ("123456789" : Str).cps.toList)
theorem letters_all {t : Str} : (letters t).all id = true ↔ ∀ c ∈ tl t, c ∈ ("123456789" : Str).cps.toList := by
  unfold letters
  rw [List.all_map, List.all_eq_true]
  constructor
  · intro h c m
    exact of_decide_eq_true (h c m)
  · intro h c m
    exact decide_eq_true (h c m)
theorem cps_at {t : Str} {i c : Nat} (h : t.cps[i]? = some c) : (tl t)[i]? = some c := by
  rw [← h]
  exact Array.getElem?_toList ..
theorem ok_is_number (T : Txt K mg) : FnOk P w K mg base CX0 1 T.a_is_number T.d_is_number ["thing"] (sp_is_number K) := by
  refine T.F_is_number.ok sc_is_number (fun vs H Q E h => ?_) (fun cdv A outer s H vs Q E hr h => ?_)
  · obtain ⟨t, _, rfl, _⟩ := h
    rfl
  · obtain ⟨t, hz, rfl, k⟩ := h
    have hl : t.length = (tl t).length := len_tl t
    have numlen : IsNum t → 1 ≤ t.length ∧ t.length ≤ 4 := fun ⟨ds, N, e⟩ => by
      rw [e, numS_len]
      exact ⟨N.pos, N.len⟩
    refine ⟨_, (pss_cons (ps_if (PW.pt (pw_or (pt_not (pt_val (pe_callB call_isi (by rfl) T.z_isinstance (by decide +kernel) (pa_cons (pv 0) (pa_cons (pe_bltn (v := V.ty "str") (by rfl) T.z_str (by decide +kernel) rfl) pa_nil))))) (pw_or1 (pt_not (pt_chain op_le op_le pe_int (pe_callB call_len_str (by rfl) T.z_len PySem.boot_len (pa_cons (pv 0) pa_nil)) (pe_glob (v := V.int 4) rfl T.c_MOST_DIGITS ⟨_, rfl⟩))))))
        (pss_one (ps_ret pe_bl))
        pss_nil)
      (pss_cons (ps_if (pt_not (pt_val (pe_callB (cr_all rfl) (by rfl) T.z_all (by decide +kernel) (pa_cons (pe_lc (own := [("letter", 1)]) (g := gName 1) (tt := tYes) rfl sc_is_number.nd (pi_str (pv 0)) (blkOk_by (own := [("letter", 1)]) (N := nm_is_number) (sc := defScope s_is_number) (by decide +kernel)) (fun _ _ _ _ _ => pg_name (i := 1) sc_is_number.nd rfl (Or.inl rfl)) (fun _ _ _ _ _ => pts_nil) (fun _ _ _ _ _ => (pe_cmpR op_in_sign (pv 1) (pe_glob (v := V.str "123456789") rfl T.c_DIGITS ⟨_, rfl⟩) rfl))) pa_nil))))
        (pss_one (ps_ret pe_bl))
        pss_nil)
      (pss_one (ps_ret (pe_cmpR op_le (pe_callB (cr_sum rfl) (by rfl) T.z_sum (by decide +kernel) (pa_cons (pe_lc (own := [("letter", 1)]) (g := gName 1) (tt := tYes) rfl sc_is_number.nd (pi_str (pv 0)) (blkOk_by (own := [("letter", 1)]) (N := nm_is_number) (sc := defScope s_is_number) (by decide +kernel)) (fun _ _ _ _ _ => pg_name (i := 1) sc_is_number.nd rfl (Or.inl rfl)) (fun _ _ _ _ _ => pts_nil) (fun _ _ _ _ _ => (pe_callTy call_int_str (by rfl) T.z_int (by decide +kernel) (pa_cons (pv 1) pa_nil)))) pa_nil)) (pe_glob (v := V.int 24) rfl T.c_GREATEST_SUM ⟨_, rfl⟩) (nomark _)))))), ?_⟩
    refine ⟨_, rfl, _, _, _, _, true, rfl, .ty "str", .base (.str _), kit_ty (by decide +kernel), true, rfl, ?_⟩
    refine iteF ?_
    refine ⟨_, rfl, _, rfl, small_len hz, _, _, rfl, rfl, _, rfl, ?_⟩
    refine ite2 (fun c1 => ?_) (fun c1 => ?_)
    case refine_2 =>
      have c1' : ¬ (1 : Int) ≤ (t.length : Nat) := fun z => c1 (decide_eq_true z)
      refine ⟨false, rfl, iteT ?_⟩
      exact k _ _ (Same.refl _) ⟨fun z => (by cases z), fun z => absurd (numlen z).1 (by omega)⟩
    have c1' : (1 : Int) ≤ (t.length : Nat) := of_decide_eq_true c1
    refine ⟨_, _, rfl, rfl, _, rfl, ?_⟩
    by_cases c2 : ((t.length : Nat) : Int) ≤ 4
    case neg =>
      rw [decide_eq_false c2]
      refine iteT ?_
      exact k _ _ (Same.refl _) ⟨fun z => (by cases z), fun z => absurd (numlen z).2 (by omega)⟩
    rw [decide_eq_true c2]
    refine iteF ?_
    refine ⟨_, rfl, _, rfl, fun D hD => ?_⟩
    have hsz : t.cps.size = (tl t).length := hl
    refine lc_it walk_str (fun i H' => Same H H' ∧ H' D = some (.lst (((letters t).take i).map V.bl))) ⟨same_new hD, upd_same⟩ (fun _ _ _ _ => trivial) (fun i x H1 H' hi hP hY => ?_) (fun H1 hP => ?_)
    · obtain ⟨sm, hL⟩ := hP
      obtain ⟨rfl, c, hc, rfl⟩ := hY
      have hc2 : (letters t)[i]? = some (decide (c ∈ ("123456789" : Str).cps.toList)) := by
        unfold letters
        rw [List.getElem?_map, cps_at hc]
        rfl
      refine ⟨rfl, yesT ?_⟩
      refine ⟨_, rfl, _, _, rfl, rfl, _, hL, by rw [List.length_map, List.length_take]; exact small1000 (by omega), ?_⟩
      refine ⟨same_mut sm hD, ?_⟩
      rw [upd_same, take_succ_map _ hc2]
    · obtain ⟨sm, hL⟩ := hP
      have ell : (letters t).length = t.cps.size := by unfold letters; rw [List.length_map, hsz]
      rw [← ell, List.take_length] at hL
      refine ⟨D, letters t, rfl, SqL.of hL, _, rfl, ?_⟩
      by_cases c3 : (letters t).all id = true
      case neg =>
        rw [Bool.not_eq_true] at c3
        rw [c3]
        refine iteT ?_
        refine k _ _ sm ⟨fun z => (by cases z), fun ⟨ds, N, e⟩ => ?_⟩
        have q := letters_all.mpr (by rw [e]; exact num_codes N.dig : ∀ c ∈ tl t, c ∈ ("123456789" : Str).cps.toList)
        rw [c3] at q
        cases q
      rw [c3]
      refine iteF ?_
      obtain ⟨ds, dig, et⟩ := dig_text t (letters_all.mp c3)
      subst et
      rw [numS_len] at c1' c2
      refine ⟨_, rfl, _, rfl, fun D2 hD2 => ?_⟩
      refine lc_it walk_str (fun i H' => Same H H' ∧ H' D2 = some (.lst ((ds.take i).map fun (d : Nat) => V.int (d : Int)))) ⟨sm.trans (same_new hD2), upd_same⟩ (fun _ _ _ _ => trivial) (fun i x H2 H' hi hP hY => ?_) (fun H2 hP => ?_)
      · obtain ⟨sm2, hl2⟩ := hP
        obtain ⟨rfl, c, hc, rfl⟩ := hY
        rw [numS_size] at hi
        rw [numS_at ds i hi] at hc
        have hc' := (Option.some.inj hc).symm
        subst hc'
        refine ⟨rfl, yesT ?_⟩
        refine ⟨_, rfl, _, _, rfl, dig_int (dig _ (List.getElem_mem hi)), (by show 1 ≤ 640; decide), _, hl2, by rw [List.length_map, List.length_take]; exact small1000 (by omega), ?_⟩
        refine ⟨same_mut sm2 (sm.free hD2), ?_⟩
        rw [upd_same, take_succ_map _ (List.getElem?_eq_getElem hi)]
      · obtain ⟨sm2, hl2⟩ := hP
        rw [numS_size, List.take_length] at hl2
        refine ⟨D2, ds.map fun (d : Nat) => (d : Int), rfl, SqL.of (by rw [hl2, List.map_map]; rfl), _, _, rfl, rfl, ?_⟩
        rw [sum_cast]
        refine k _ _ sm2 ?_
        rw [isnum_dig]
        constructor
        · intro z
          have z' : ((ds.sum : Nat) : Int) ≤ 24 := of_decide_eq_true z
          exact ⟨by omega, by omega, dig, by omega⟩
        · intro N
          exact decide_eq_true (show ((ds.sum : Nat) : Int) ≤ 24 by have := N.sum; omega)
theorem ok_check_number (T : Txt K mg) : FnOk P w K mg base CX0 2 T.a_check_number T.d_check_number ["thing"] (sp_check_number K) := by
  refine T.F_check_number.ok sc_check_number (fun vs H Q E h => ?_) (fun cdv A outer s H vs Q E hr h => ?_)
  · obtain ⟨ds, _, rfl, _⟩ := h
    rfl
  · obtain ⟨ds, N, rfl, k⟩ := h
    refine ⟨_, (pss_one (ps_if (pt_not (pt_val (pe_call (ok_is_number T) (hr.mono (by decide)) (by rfl) T.g_is_number T.F_is_number.kp T.b_is_number .nil pass0 (pa_cons (pv 0) pa_nil))))
        (pss_one ps_never)
        pss_nil)), ?_⟩
    have hlen := N.len
    refine ⟨_, rfl, numS ds, by rw [numS_len]; omega, rfl, fun H1 b s1 hb => ?_⟩
    have e : b = true := hb.mpr ⟨ds, N, rfl⟩
    subst e
    refine ⟨true, rfl, iteF ?_⟩
    exact k _ s1
theorem ok_blocks (T : Txt K mg) : FnOk P w K mg base CX0 3 T.a_blocks T.d_blocks ["number"] (sp_blocks K) := by
  refine T.F_blocks.ok sc_blocks (fun vs H Q E h => ?_) (fun cdv A outer s H vs Q E hr h => ?_)
  · obtain ⟨ds, _, rfl, _⟩ := h
    rfl
  · obtain ⟨ds, N, rfl, k⟩ := h
    have hlen := N.len
    refine ⟨_, (pss_cons (ps_expr (pe_call (ok_check_number T) (hr.mono (by decide)) (by rfl) T.g_check_number T.F_check_number.kp T.b_check_number .nil pass0 (pa_cons (pv 0) pa_nil)))
      (pss_one (ps_ret (pe_callTy call_tuple_of (by rfl) T.z_tuple (by decide +kernel) (pa_cons (pe_lc (own := [("letter", 1)]) (g := gName 1) (tt := tYes) rfl sc_blocks.nd (pi_str (pv 0)) (blkOk_by (own := [("letter", 1)]) (N := nm_blocks) (sc := defScope s_blocks) (by decide +kernel)) (fun _ _ _ _ _ => pg_name (i := 1) sc_blocks.nd rfl (Or.inl rfl)) (fun _ _ _ _ _ => pts_nil) (fun _ _ _ _ _ => (pe_callTy call_int_str (by rfl) T.z_int (by decide +kernel) (pa_cons (pv 1) pa_nil)))) pa_nil))))), ?_⟩
    refine ⟨_, rfl, ds, N, rfl, fun H1 s1 => ?_⟩
    refine ⟨_, rfl, _, rfl, fun D hD => ?_⟩
    refine lc_it walk_str (fun i H' => Same H1 H' ∧ H' D = some (.lst ((ds.take i).map fun (d : Nat) => V.int (d : Int)))) ⟨same_new hD, upd_same⟩ (fun _ _ _ _ => trivial) (fun i x H2 H' hi hP hY => ?_) (fun H2 hP => ?_)
    · obtain ⟨sm2, hl2⟩ := hP
      obtain ⟨rfl, c, hc, rfl⟩ := hY
      rw [numS_size] at hi
      rw [numS_at ds i hi] at hc
      have hc' := (Option.some.inj hc).symm
      subst hc'
      refine ⟨rfl, yesT ?_⟩
      refine ⟨_, rfl, _, _, rfl, dig_int (N.dig _ (List.getElem_mem hi)), (by show 1 ≤ 640; decide), _, hl2, by rw [List.length_map, List.length_take]; exact small1000 (by omega), ?_⟩
      refine ⟨same_mut sm2 hD, ?_⟩
      rw [upd_same, take_succ_map _ (List.getElem?_eq_getElem hi)]
    · obtain ⟨sm2, hl2⟩ := hP
      rw [numS_size, List.take_length] at hl2
      refine ⟨D, _, rfl, .inl ⟨SqL.of hl2, fun p hp => ?_⟩⟩
      exact k _ p ((s1.trans sm2).trans (same_new hp)) ((s1.trans sm2).free hp) upd_same
theorem ok_row_of (T : Txt K mg) : FnOk P w K mg base CX0 4 T.a_row_of T.d_row_of ["number"] (sp_row_of K) := by
  refine T.F_row_of.ok sc_row_of (fun vs H Q E h => ?_) (fun cdv A outer s H vs Q E hr h => ?_)
  · obtain ⟨ds, _, rfl, _⟩ := h
    rfl
  · obtain ⟨ds, N, rfl, k⟩ := h
    have hlen := N.len
    refine ⟨_, (pss_cons (ps_set (i := 1) sc_row_of.nd rfl (Or.inl rfl) (pe_lst pa_nil))
      (pss_cons (ps_for PassesOwn.never rfl (pi_tup (pe_call (ok_blocks T) (hr.mono (by decide)) (by rfl) T.g_blocks T.F_blocks.kp T.b_blocks .nil pass0 (pa_cons (pv 0) pa_nil))) (pg_name (i := 2) sc_row_of.nd rfl (Or.inl rfl))
        (pss_cons (ps_expr (pe_bm PySem.F.plainAttrs_list PySem.F.slot_list_extend PySem.F.type_list_extend mt_extend (pv 1) (pa_cons (pe_op op_rep (pe_lst (pa_cons pe_int (pa_cons pe_int pa_nil))) (pv 2)) pa_nil)))
        (pss_one (ps_expr (pe_bm PySem.F.plainAttrs_list PySem.F.slot_list_extend PySem.F.type_list_extend mt_extend (pv 1) (pa_cons (pe_lst (pa_cons pe_int (pa_cons pe_int pa_nil))) pa_nil))))))
      (pss_cons (ps_expr (pe_bm PySem.F.plainAttrs_list PySem.F.slot_list_extend PySem.F.type_list_extend mt_extend (pv 1) (pa_cons (pe_lst (pa_cons pe_int (pa_cons pe_int pa_nil))) pa_nil)))
      (pss_one (ps_ret (pe_callTy call_tuple_of (by rfl) T.z_tuple (by decide +kernel) (pa_cons (pv 1) pa_nil))))))), ?_⟩
    refine ⟨Nat.zero_le _, fun r hr0 => ?_⟩
    refine ⟨_, rfl, ds, N, rfl, fun H1 t s1 ht0 ht => ?_⟩
    have hrt : r ≠ t := fun e => by
      rw [e] at hr0
      have := ne_of_none (upd_same (H := H) (a := r) (o := .lst [])) ht0
      exact this e
    have hr1 : H1 r = some (.lst []) := s1 _ _ upd_same
    have sH : Same H H1 := (same_new hr0).trans s1
    refine ⟨t, rfl, ⟨_, SqT.of ht⟩, ?_⟩
    refine for_tup (xs := ds.map fun (d : Nat) => V.int (d : Int)) (fun i σ H2 => ∃ v, σ = [some (.str (numS ds)), some (.ref r), v] ∧ Same H H2 ∧ H2 t = some (.tup (ds.map fun (d : Nat) => V.int (d : Int))) ∧ H2 r = some (.lst ((Wm.pre (ds.take i)).map V.int)))
      ⟨_, rfl, sH, ht, hr1⟩ (fun i σ H2 _ hP => ?_) (fun i x σ H2 hx hP => ?_) (fun σ H2 hP => ?_)
    · obtain ⟨v, rfl, _, h2, _⟩ := hP
      exact SqT.of h2
    · obtain ⟨v, rfl, sm, h2, h3⟩ := hP
      have hi : i < ds.length := by
        have := (List.getElem?_eq_some_iff.mp hx).1
        rw [List.length_map] at this
        exact this
      have ex : x = .int (ds[i] : Nat) := by
        rw [List.getElem?_map, List.getElem?_eq_getElem hi] at hx
        exact (Option.some.inj hx).symm
      subst ex
      have hd := N.dig _ (List.getElem_mem hi)
      have hp9 := pre_le (ds.take i) fun d m => (N.dig d (List.mem_of_mem_take m)).2
      rw [List.length_take] at hp9
      have hrn : H r = none := hr0
      -- row.extend([1, 0] * strokes)
      refine ⟨.ref r, rfl, .inl ⟨rfl, _, SqL.of h3⟩, by decide, fun a ha => ?_⟩
      refine ⟨_, rfl, a, _, _, rfl, rfl, upd_same, by omega, by omega, by rw [Int.toNat_natCast]; show 2 * ds[i] ≤ _; exact Nat.le_of_lt (small1000 (by omega)), fun b hb => ?_⟩
      rw [Int.toNat_natCast, blk_V]
      have ra : r ≠ a := ne_of_none h3 ha
      have rb : r ≠ b := ne_of_none (at_old h3 ha) hb
      refine ⟨r, b, _, _, rfl, rfl, at_old (at_old h3 ha) hb, upd_same, ?_, ?_⟩
      · rw [List.length_map, List.length_map, blk_len]
        exact Nat.le_of_lt (small1000 (by omega))
      -- row.extend([0, 0])
      have h4 : upd (upd (upd H2 a (.lst [.int 1, .int 0])) b (.lst ((blk ds[i]).map V.int))) r (.lst ((Wm.pre (ds.take i)).map V.int ++ (blk ds[i]).map V.int)) r = some (.lst ((Wm.pre (ds.take i)).map V.int ++ (blk ds[i]).map V.int)) := upd_same
      refine ⟨.ref r, rfl, .inl ⟨rfl, _, SqL.of h4⟩, by decide, fun c hc => ?_⟩
      refine ⟨r, c, _, _, rfl, rfl, at_old h4 hc, upd_same, ?_, ?_⟩
      · rw [List.length_append, List.length_map, List.length_map, blk_len]
        exact Nat.le_of_lt (small1000 (by simp only [List.length_cons, List.length_nil]; omega))
      refine ⟨_, rfl, ?_, ?_, ?_⟩
      · have s2 : Same H2 (upd (upd H2 a (.lst [.int 1, .int 0])) b (.lst ((blk ds[i]).map V.int))) := (same_new ha).trans (same_new hb)
        have s3 : Same H (upd (upd (upd H2 a (.lst [.int 1, .int 0])) b (.lst ((blk ds[i]).map V.int))) r (.lst ((Wm.pre (ds.take i)).map V.int ++ (blk ds[i]).map V.int))) := same_mut (sm.trans s2) hrn
        exact same_mut (s3.trans (same_new hc)) hrn
      · rw [upd_ne hrt.symm]
        refine at_old ?_ hc
        rw [upd_ne hrt.symm]
        exact at_old (at_old h2 ha) hb
      · rw [upd_same, take_succ_app (List.getElem?_eq_getElem hi), pre_app]
        simp only [List.map_append, List.append_assoc]
        rfl
    · obtain ⟨v, rfl, sm, h2, h3⟩ := hP
      rw [List.length_map, List.take_length] at h3
      have hp9 := pre_le ds fun d m => (N.dig d m).2
      refine ⟨.ref r, rfl, .inl ⟨rfl, _, SqL.of h3⟩, by decide, fun a ha => ?_⟩
      refine ⟨r, a, _, _, rfl, rfl, at_old h3 ha, upd_same, ?_, ?_⟩
      · rw [List.length_map]
        exact Nat.le_of_lt (small1000 (by simp only [List.length_cons, List.length_nil]; omega))
      refine ⟨.ref r, rfl, r, _, rfl, .inl ⟨SqL.of upd_same, fun p hp => ?_⟩⟩
      have s2 : Same H (upd (upd H2 a (.lst [.int 0, .int 0])) r (.lst ((Wm.pre ds).map V.int ++ [.int 0, .int 0]))) := same_mut (sm.trans (same_new ha)) hr0
      refine k _ p (s2.trans (same_new hp)) (s2.free hp) ?_
      rw [upd_same, ← pre_row ds, List.map_append]
      rfl
theorem ok_length_of (T : Txt K mg) : FnOk P w K mg base CX0 4 T.a_length_of T.d_length_of ["number"] (sp_length_of K) := by
  refine T.F_length_of.ok sc_length_of (fun vs H Q E h => ?_) (fun cdv A outer s H vs Q E hr h => ?_)
  · obtain ⟨ds, _, rfl, _⟩ := h
    rfl
  · obtain ⟨ds, N, rfl, k⟩ := h
    refine ⟨_, (pss_cons (ps_set (i := 1) sc_length_of.nd rfl (Or.inl rfl) (pe_call (ok_blocks T) (hr.mono (by decide)) (by rfl) T.g_blocks T.F_blocks.kp T.b_blocks .nil pass0 (pa_cons (pv 0) pa_nil)))
      (pss_one (ps_ret (pe_op op_mul pe_int (pe_op op_add (pe_op op_add (pe_callB (Hf.cr_sumA rfl) (by rfl) T.z_sum (by decide +kernel) (pa_cons (pv 1) pa_nil)) (pe_callB call_len_seq (by rfl) T.z_len PySem.boot_len (pa_cons (pv 1) pa_nil))) pe_int))))), ?_⟩
    refine ⟨_, rfl, ds, N, rfl, fun H1 p s1 p0 hp => ?_⟩
    have hlen := N.len
    have hs := N.sum
    refine ⟨_, rfl, p, ds.map fun (d : Nat) => (d : Int), rfl, .inr (SqT.of (by rw [hp, List.map_map]; rfl)), ?_⟩
    rw [sum_cast]
    refine ⟨_, rfl, p, _, rfl, .inr (SqT.of hp), _, _, rfl, rfl, _, _, rfl, rfl, 2, _, rfl, rfl, .inl ⟨by decide, by decide⟩, ?_⟩
    have e : (2 : Int) * (((ds.sum : Nat) : Int) + (((ds.map fun (d : Nat) => V.int (d : Int)).length : Nat) : Int) + 1) = (((rowL ds).length : Nat) : Int) := by
      rw [row_sum, List.length_map]
      omega
    show Q (V.int ((2 : Int) * (((ds.sum : Nat) : Int) + (((ds.map fun (d : Nat) => V.int (d : Int)).length : Nat) : Int) + 1))) H1
    rw [e]
    exact k _ s1
end
end K01
namespace K01
open PySem L2 Wm TL
section
variable {P : Program} {w : World} {K : PySem.W.Frag} {mg : Str → Option Value} {base : Heap}
theorem cut_some (ns : List Int) (hi : Option Int) : ∃ m, cutV (ns.map V.int) none hi = (ns.take m).map V.int := by
  refine ⟨HT.sIx (ns.map V.int).length (ns.map V.int).length hi - HT.sIx (ns.map V.int).length 0 none, ?_⟩
  unfold cutV
  rw [HT.sIx_none, List.drop_zero, List.map_take]
theorem ok_bag (T : Txt K mg) : FnOk P w K mg base CX0 1 T.a_bag T.d_bag ["_law_script"] (sp_bag K) := by
  refine T.F_bag.ok sc_bag (fun vs H Q E h => ?_) (fun cdv A outer s H vs Q E hr h => ?_)
  · obtain ⟨a, ns, rfl, _⟩ := h
    rfl
  · obtain ⟨a, ns, rfl, hS, hlen, k⟩ := h
    refine ⟨_, (pss_cons (ps_setLc (i := 1) (own := [("_law_cell", 2)]) (g := gName 2) (tt := tYes) rfl sc_bag.nd rfl rfl (sw_true rfl rfl rfl (by decide +kernel)) (pi_list (pe_slice sl_list (pv 0) po_none (po_some pe_int))) (blkOk_by (own := [("_law_cell", 2)]) (N := nm_bag) (sc := defScope s_bag) (by decide +kernel)) (fun _ _ _ _ _ => pg_name (i := 2) sc_bag.nd rfl (Or.inl rfl)) (fun _ _ _ _ _ => pts_nil) (fun _ _ _ _ _ => (pe_ifExp (pt_cmpR op_ge (pv 2) pe_int (nomark _)) (pv 2) (pe_op op_sub pe_int (pv 2)))))
      (pss_one (ps_ret (pe_lst (pa_cons pe_int (pa_cons (pv 1) (pa_cons pe_int (pa_cons pe_int (pa_cons pe_int pa_nil))))))))), ?_⟩
    refine ⟨.ref a, rfl, 63, rfl, a, _, rfl, hS, fun p hp => ?_⟩
    obtain ⟨m, em⟩ := cut_some ns (some 63)
    rw [em]
    have hml : (ns.take m).length ≤ 63 := by rw [List.length_take]; omega
    generalize ns.take m = ms at hml
    refine ⟨p, rfl, ⟨_, SqL.of upd_same⟩, fun D hD => ?_⟩
    refine lc_list (xs := ms.map V.int) (fun i H' => Same (upd H p (.lst (ms.map V.int))) H' ∧ ∃ qs : List Int, qs.length = i ∧ H' D = some (.lst (qs.map V.int))) ⟨same_new hD, [], rfl, upd_same⟩ (fun i H2 _ hP => SqL.of (hP.1 _ _ upd_same)) (fun i x H2 hx hP => ?_) (fun H2 hP => ?_)
    · obtain ⟨sm, qs, eq, hq⟩ := hP
      have hi : i < ms.length := by
        have := (List.getElem?_eq_some_iff.mp hx).1
        rw [List.length_map] at this
        exact this
      have ex : x = .int ms[i] := by
        rw [List.getElem?_map, List.getElem?_eq_getElem hi] at hx
        exact (Option.some.inj hx).symm
      subst ex
      have small : (qs.map V.int).length < sizeLine := by rw [List.length_map]; exact small1000 (by omega)
      refine ⟨rfl, yesT ?_⟩
      refine ⟨_, rfl, _, _, rfl, rfl, _, rfl, ite2 (fun _ => ?_) (fun _ => ?_)⟩
      · exact ⟨_, rfl, _, hq, small, same_mut sm hD, qs ++ [ms[i]], by rw [List.length_append, eq]; rfl, by rw [upd_same, List.map_append]; rfl⟩
      · exact ⟨_, rfl, _, _, rfl, rfl, _, hq, small, same_mut sm hD, qs ++ [1 - ms[i]], by rw [List.length_append, eq]; rfl, by rw [upd_same, List.map_append]; rfl⟩
    · obtain ⟨sm, qs, eq, hq⟩ := hP
      refine ⟨_, rfl, by show 5 ≤ sizeLine; decide, fun b hb => ?_⟩
      refine k _ b (((same_new hp).trans sm).trans (same_new hb)) ⟨D, 0, 0, 0, 20261, qs, upd_same, at_old hq hb, by decide, by decide, by decide⟩
end
end K01
namespace K01
open PySem L2 Wm TL
section
variable {P : Program} {w : World} {K : PySem.W.Frag} {mg : Str → Option Value} {base : Heap}
theorem fmod_in {x l : Int} (h : 0 < l) : 0 ≤ x.fmod l ∧ x.fmod l < l := by
  rw [Int.fmod_eq_emod_of_nonneg x (Int.le_of_lt h)]
  exact ⟨Int.emod_nonneg x (by omega), Int.emod_lt_of_pos x h⟩
theorem ok_draw (T : Txt K mg) : FnOk P w K mg base CX0 1 T.a_draw T.d_draw ["_law_bag_here", "_law_limit"] (sp_draw K) := by
  refine T.F_draw.ok sc_draw (fun vs H Q E h => ?_) (fun cdv A outer s H vs Q E hr h => ?_)
  · obtain ⟨b, n, lim, rfl, _⟩ := h
    rfl
  · obtain ⟨b, n, lim, rfl, l0, l1, ⟨c, x, k, m, z, ns, hb, hc, k0, m0, mn⟩, hn, kk⟩ := h
    have hcb := bag_ne hb hc
    refine ⟨_, (C8.pss_cut (ps_if (PW.pt (pw_and (pt_cmpR op_lt (pe_ix ix_list (pv 0) pe_int (fun _ _ => rfl)) (pe_op op_pow pe_int pe_int) (nomark _)) (pw_and1 (pt_cmpR op_lt (pe_ix ix_list (pv 0) pe_int (fun _ _ => rfl)) (pe_callB call_len_seq (by rfl) T.z_len PySem.boot_len (pa_cons (pe_ix ix_list (pv 0) pe_int (fun _ _ => rfl)) pa_nil)) (nomark _)))))
        (pss_cons (ps_asg (pe_ix ix_list (pe_ix ix_list (pv 0) pe_int (fun _ _ => rfl)) (pe_ix ix_list (pv 0) pe_int (fun _ _ => rfl)) (fun _ _ => rfl)) (pg_sub (pv 0) pe_int set_list))
        (pss_one (ps_asg (pe_op op_add (pe_ix ix_list (pv 0) pe_int (fun _ _ => rfl)) pe_int) (pg_sub (pv 0) pe_int set_list))))
        pss_nil)
      (pss_cons (ps_if (pt_cmpR op_ge (pe_ix ix_list (pv 0) pe_int (fun _ _ => rfl)) (pe_op op_pow pe_int pe_int) (nomark _))
        (pss_cons (ps_set (i := 2) sc_draw.nd rfl (Or.inl rfl) (pe_op op_modN (pe_callTy call_int1 (by rfl) T.z_int (by decide +kernel) (pa_cons (pe_ix ix_list (pv 0) pe_int (fun _ _ => rfl)) pa_nil)) (pv 1)))
        (pss_cons (ps_asg (pe_op op_fdivN (pe_callTy call_int1 (by rfl) T.z_int (by decide +kernel) (pa_cons (pe_ix ix_list (pv 0) pe_int (fun _ _ => rfl)) pa_nil)) (pv 1)) (pg_sub (pv 0) pe_int set_list))
        (pss_one (ps_ret (pv 2)))))
        pss_nil)
      (pss_cons (ps_asg (pe_op op_add (pe_ix ix_list (pv 0) pe_int (fun _ _ => rfl)) pe_int) (pg_sub (pv 0) pe_int set_list))
      (pss_cons (ps_asg (pe_op op_modN (pe_callTy call_int1 (by rfl) T.z_int (by decide +kernel) (pa_cons (pe_op op_add (pe_op op_add (pe_op op_mul (pe_ix ix_list (pv 0) pe_int (fun _ _ => rfl)) pe_int) (pe_op op_mul (pe_op op_modN (pe_callTy call_int1 (by rfl) T.z_int (by decide +kernel) (pa_cons (pe_ix ix_list (pv 0) pe_int (fun _ _ => rfl)) pa_nil)) pe_int) pe_int)) (pe_op op_mul (pe_ix ix_list (pv 0) pe_int (fun _ _ => rfl)) pe_int)) pa_nil)) pe_int) (pg_sub (pv 0) pe_int set_list))
      (pss_one (ps_ret (pe_op op_modN (pe_op op_fdivN (pe_op op_modN (pe_callTy call_int1 (by rfl) T.z_int (by decide +kernel) (pa_cons (pe_op op_add (pe_op op_mul (pe_ix ix_list (pv 0) pe_int (fun _ _ => rfl)) pe_int) (pe_op op_mul (pe_ix ix_list (pv 0) pe_int (fun _ _ => rfl)) (pe_ix ix_list (pv 0) pe_int (fun _ _ => rfl)))) pa_nil)) pe_int) pe_int) (pv 1)))))))), ?_⟩
    refine ⟨fun σ H1 => ∃ x k : Int, σ = [some (.ref b), some (.int lim), none] ∧ 0 ≤ k ∧ But b H H1 ∧ H1 b = some (.lst [.int x, .ref c, .int k, .int m, .int z]), ?_, ?_⟩
    · refine ⟨_, rfl, b, _, 0, _, rfl, rfl, SqL.of hb, atI_nat (j := 0) rfl, _, _, rfl, rfl, ⟨by decide, by decide, by decide⟩, _, _, rfl, rfl, _, rfl, ite2 (fun h1 => ?_) (fun h1 => ?_)⟩
      · refine ⟨_, rfl, b, _, 2, _, rfl, rfl, SqL.of hb, atI_nat (j := 2) rfl, _, rfl, b, _, 1, _, rfl, rfl, SqL.of hb, atI_nat (j := 1) rfl, c, _, rfl, .inl (SqL.of hc), _, _, rfl, rfl, _, rfl, ite2 (fun h2 => ?_) (fun h2 => ?_)⟩
        · have h3 := of_decide_eq_true h2
          rw [List.length_map] at h3
          have h4 : k.toNat < ns.length := by omega
          have g : (ns.map V.int)[k.toNat]? = some (.int ns[k.toNat]) := by rw [List.getElem?_map, List.getElem?_eq_getElem h4]; rfl
          refine ⟨_, rfl, b, _, 1, _, rfl, rfl, SqL.of hb, atI_nat (j := 1) rfl, _, rfl, b, _, 2, _, rfl, rfl, SqL.of hb, atI_nat (j := 2) rfl, c, _, k, _, rfl, rfl, SqL.of hc, at_of (by omega) g, ?_⟩
          refine ⟨_, rfl, b, _, 0, 0, rfl, rfl, hb, rfl, ?_⟩
          refine ⟨_, rfl, b, _, 2, _, rfl, rfl, SqL.of upd_same, atI_nat (j := 2) rfl, _, _, rfl, rfl, ?_⟩
          refine ⟨_, rfl, b, _, 2, 2, rfl, rfl, upd_same, rfl, ?_⟩
          exact ⟨_, _, rfl, by omega, But.trans But.set But.set, upd_same⟩
        · exact ⟨x, k, rfl, k0, But.refl _ _, hb⟩
      · exact ⟨x, k, rfl, k0, But.refl _ _, hb⟩
    · rintro σ H1 ⟨x, k, rfl, k0, but, hb⟩
      have hc1 : H1 c = some (.lst (ns.map V.int)) := but _ _ hcb hc
      refine ⟨_, rfl, b, _, 0, _, rfl, rfl, SqL.of hb, atI_nat (j := 0) rfl, _, _, rfl, rfl, ⟨by decide, by decide, by decide⟩, _, _, rfl, rfl, _, rfl, ite2 (fun h1 => ?_) (fun h1 => ?_)⟩
      · refine ⟨_, rfl, b, _, 0, _, rfl, rfl, SqL.of hb, atI_nat (j := 0) rfl, .inl ⟨_, rfl, _, rfl, _, _, rfl, rfl, by omega, ?_⟩⟩
        refine ⟨_, rfl, b, _, 0, _, rfl, rfl, SqL.of hb, atI_nat (j := 0) rfl, .inl ⟨_, rfl, _, rfl, _, _, rfl, rfl, ⟨by omega, by omega⟩, ?_⟩⟩
        refine ⟨_, rfl, b, _, 0, 0, rfl, rfl, hb, rfl, ?_⟩
        refine ⟨_, rfl, kk _ _ (fmod_in l0).1 (fmod_in l0).2 ⟨c, _, k, m, z, ns, upd_same, ?_, k0, m0, by omega⟩ (but.trans But.set)⟩
        rw [upd_ne hcb]
        exact hc1
      · refine ⟨_, rfl, b, _, 3, _, rfl, rfl, SqL.of hb, atI_nat (j := 3) rfl, _, _, rfl, rfl, ?_⟩
        refine ⟨_, rfl, b, _, 3, 3, rfl, rfl, hb, rfl, ?_⟩
        -- the two reckonings
        refine ⟨_, rfl, b, _, 4, _, rfl, rfl, SqL.of upd_same, atI_nat (j := 4) rfl, _, _, rfl, rfl, .inr ⟨by decide, by decide⟩, ?_⟩
        refine ⟨_, rfl, b, _, 0, _, rfl, rfl, SqL.of upd_same, atI_nat (j := 0) rfl, .inl ⟨_, rfl, _, _, rfl, rfl, by omega, _, _, rfl, rfl, .inr ⟨by decide, by decide⟩, _, _, rfl, rfl, ?_⟩⟩
        refine ⟨_, rfl, b, _, 3, _, rfl, rfl, SqL.of upd_same, atI_nat (j := 3) rfl, _, _, rfl, rfl, .inr ⟨by decide, by decide⟩, _, _, rfl, rfl, .inl ⟨_, rfl, _, _, rfl, rfl, by omega, ?_⟩⟩
        refine ⟨_, rfl, b, _, 4, 4, rfl, rfl, upd_same, rfl, ?_⟩
        refine ⟨_, rfl, b, _, 4, _, rfl, rfl, SqL.of upd_same, atI_nat (j := 4) rfl, _, _, rfl, rfl, .inr ⟨by decide, by decide⟩, ?_⟩
        refine ⟨_, rfl, b, _, 3, _, rfl, rfl, SqL.of upd_same, atI_nat (j := 3) rfl, _, rfl, b, _, 3, _, rfl, rfl, SqL.of upd_same, atI_nat (j := 3) rfl, _, _, rfl, rfl, .inl ⟨by omega, by omega⟩, _, _, rfl, rfl, .inl ⟨_, rfl, _, _, rfl, rfl, by omega, _, _, rfl, rfl, ⟨by decide, by decide⟩, _, rfl, _, _, rfl, rfl, by omega, ?_⟩⟩
        refine kk _ _ (fmod_in l0).1 (fmod_in l0).2 ⟨c, x, k, m + 1, _, ns, upd_same, ?_, k0, by omega, by omega⟩ ((but.trans But.set).trans But.set)
        rw [upd_ne hcb, upd_ne hcb]
        exact hc1
end
end K01
namespace K01
open PySem L2 Wm TL
section
variable {P : Program} {w : World} {K : PySem.W.Frag} {mg : Str → Option Value} {base : Heap}
theorem dig_log {d : Nat} (h : 1 ≤ d ∧ d ≤ 9) : ((d : Int)).natAbs.log2 < 1920 := by
  rcases dig_cases h with e | e | e | e | e | e | e | e | e <;> subst e <;> decide +kernel
theorem top_at {way : Int} (h0 : 0 ≤ way) (h1 : way < 6) : ∃ top : Int, atI [V.int 3, V.int 3, V.int 3, V.int 3, V.int 9, V.int 9] way = some (.int top) ∧ 3 ≤ top ∧ top ≤ 9 := by
  have c : way = 0 ∨ way = 1 ∨ way = 2 ∨ way = 3 ∨ way = 4 ∨ way = 5 := by omega
  rcases c with e | e | e | e | e | e <;> subst e
  · exact ⟨3, rfl, by decide, by decide⟩
  · exact ⟨3, rfl, by decide, by decide⟩
  · exact ⟨3, rfl, by decide, by decide⟩
  · exact ⟨3, rfl, by decide, by decide⟩
  · exact ⟨9, rfl, by decide, by decide⟩
  · exact ⟨9, rfl, by decide, by decide⟩
theorem sum_snoc (ds : List Nat) (d : Nat) : (ds ++ [d]).sum = ds.sum + d := by
  rw [List.sum_append]
  simp
theorem len_snoc (ds : List Nat) (d : Nat) : (ds ++ [d]).length = ds.length + 1 := by simp
theorem dig_snoc {ds : List Nat} {d : Nat} (h : ∀ y ∈ ds, 1 ≤ y ∧ y ≤ 9) (g : 1 ≤ d ∧ d ≤ 9) : ∀ y ∈ ds ++ [d], 1 ≤ y ∧ y ≤ 9 := fun y m => by
  rcases List.mem_append.mp m with m | m
  · exact h y m
  · rw [List.mem_singleton.mp m]
    exact g
theorem ok_number (T : Txt K mg) : FnOk P w K mg base CX0 2 T.a_number T.d_number ["_law_bag_here"] (sp_number K) := by
  refine T.F_number.ok sc_number (fun vs H Q E h => ?_) (fun cdv A outer s H vs Q E hr h => ?_)
  · obtain ⟨b, n, rfl, _⟩ := h
    rfl
  · obtain ⟨b, n, rfl, hbag, hn, kk⟩ := h
    refine ⟨_, (pss_cons (ps_set (i := 1) sc_number.nd rfl (Or.inl rfl) (pe_op op_add pe_int (pe_call (ok_draw T) (hr.mono (by decide)) (by rfl) T.g_draw T.F_draw.kp T.b_draw .nil pass0 (pa_cons (pv 0) (pa_cons pe_int pa_nil)))))
      (pss_cons (ps_set (i := 2) sc_number.nd rfl (Or.inl rfl) (pe_call (ok_draw T) (hr.mono (by decide)) (by rfl) T.g_draw T.F_draw.kp T.b_draw .nil pass0 (pa_cons (pv 0) (pa_cons pe_int pa_nil))))
      (pss_cons (ps_set (i := 3) sc_number.nd rfl (Or.inl rfl) (pe_ix ix_list (pe_lst (pa_cons pe_int (pa_cons pe_int (pa_cons pe_int (pa_cons pe_int (pa_cons pe_int (pa_cons pe_int pa_nil))))))) (pv 2) (fun _ _ => rfl)))
      (pss_cons (ps_set (i := 4) sc_number.nd rfl (Or.inl rfl) pe_str)
      (pss_cons (ps_set (i := 5) sc_number.nd rfl (Or.inl rfl) pe_int)
      (pss_cons (ps_for PassesOwn.never rfl (pi_range1 (by rfl) T.z_range (pa_cons (pv 1) pa_nil)) (pg_name (i := 6) sc_number.nd rfl (Or.inl rfl))
        (pss_cons (ps_set (i := 7) sc_number.nd rfl (Or.inl rfl) (pe_op op_add pe_int (pe_call (ok_draw T) (hr.mono (by decide)) (by rfl) T.g_draw T.F_draw.kp T.b_draw .nil pass0 (pa_cons (pv 0) (pa_cons (pe_callB (call_min2 rfl) (by rfl) T.z_min (by decide +kernel) (pa_cons (pv 3) (pa_cons (pe_op op_sub (pv 5) (pe_op op_sub (pe_op op_sub (pv 1) pe_int) (pv 6))) pa_nil))) pa_nil)))))
        (C8.pss_cut (ps_if (PW.pt (pw_and (pt_cmpR op_eq (pv 2) pe_int (nomark _)) (pw_and1 (pt_cmpR op_eq (pv 6) (pe_op op_sub (pv 1) pe_int) (nomark _)))))
          (pss_one (ps_set (i := 7) sc_number.nd rfl (Or.inl rfl) (pe_callB (call_min2 rfl) (by rfl) T.z_min (by decide +kernel) (pa_cons pe_int (pa_cons (pv 5) pa_nil)))))
          pss_nil)
        (pss_cons (ps_set (i := 4) sc_number.nd rfl (Or.inl rfl) (pe_op op_add_str (pv 4) (pe_callTy call_str_int (by rfl) T.z_str (by decide +kernel) (pa_cons (pv 7) pa_nil))))
        (pss_one (ps_set (i := 5) sc_number.nd rfl (Or.inl rfl) (pe_op op_sub (pv 5) (pv 7))))))))
      (pss_one (ps_ret (pv 4))))))))), ?_⟩
    refine ⟨_, rfl, b, n, 4, rfl, by decide, by decide, hbag, by omega, fun H1 d1 g0 g1 bag1 but1 => ?_⟩
    refine ⟨_, _, rfl, rfl, ?_⟩
    refine ⟨_, rfl, b, n + 1, 6, rfl, by decide, by decide, bag1, by omega, fun H2 way w0 w1 bag2 but2 => ?_⟩
    obtain ⟨top, et, t3, t9⟩ := top_at w0 w1
    refine ⟨by show 6 ≤ sizeLine; decide, fun t ht => ?_⟩
    refine ⟨_, rfl, t, _, _, _, rfl, rfl, SqL.of upd_same, et, ?_⟩
    have bag3 := bag2.keep (same_new (o := .lst [V.int 3, V.int 3, V.int 3, V.int 3, V.int 9, V.int 9]) ht)
    have but3 : But b H (upd H2 t (.lst [V.int 3, V.int 3, V.int 3, V.int 3, V.int 9, V.int 9])) := (but1.trans but2).trans (But.of (same_new ht))
    obtain ⟨many, em⟩ : ∃ many : Nat, (1 : Int) + d1 = (many : Nat) := ⟨(1 + d1).toNat, by omega⟩
    try dsimp only
    rw [em]
    have m1 : 1 ≤ many := by omega
    have m4 : many ≤ 4 := by omega
    refine ⟨_, rfl, _, rfl, by omega, by omega, ?_⟩
    rw [Int.toNat_natCast]
    refine for_range (fun i σ H' => ∃ (ds : List Nat) (vk vd : Option V), σ = [some (.ref b), some (.int (many : Nat)), some (.int way), some (.int top), some (.str (numS ds)), some (.int (24 - (ds.sum : Nat))), vk, vd] ∧
      ds.length = i ∧ (∀ d ∈ ds, 1 ≤ d ∧ d ≤ 9) ∧ ds.sum + (many - i) ≤ 24 ∧ Bag H' b (n + 2 + i) ∧ But b H H')
      ⟨[], none, none, by rw [numS_nil]; rfl, rfl, fun _ m => absurd m (List.not_mem_nil), by show 0 + (many - 0) ≤ 24; omega, bag3, but3⟩ (fun i σ H' hi hP => ?_) (fun σ H' hP => ?_)
    · obtain ⟨ds, vk, vd, rfl, el, hd, hs, bag, but⟩ := hP
      have eL : ((24 : Int) - (ds.sum : Nat)) - ((many : Nat) - 1 - (0 + (i : Nat))) = ((24 - ds.sum - (many - 1 - i) : Nat) : Int) := by omega
      -- the digit's draw
      refine ⟨_, rfl, _, rfl, _, rfl, _, rfl, _, _, rfl, rfl, _, rfl, _, _, rfl, rfl, _, _, rfl, rfl, _, _, rfl, ?_⟩
      (try dsimp only; rw [eL])
      generalize hlim : (if ((24 - ds.sum - (many - 1 - i) : Nat) : Int) < top then ((24 - ds.sum - (many - 1 - i) : Nat) : Int) else top) = lim
      have lim1 : 1 ≤ lim ∧ lim ≤ 9 ∧ lim ≤ ((24 - ds.sum - (many - 1 - i) : Nat) : Int) := by
        rw [← hlim]
        split <;> omega
      refine ⟨b, n + 2 + i, lim, rfl, by omega, by omega, bag, by omega, fun H3 g q0 q1 bag4 but4 => ?_⟩
      refine ⟨_, _, rfl, rfl, ?_⟩
      refine ⟨fun σ H4 => ∃ d : Nat, σ = [some (.ref b), some (.int (many : Nat)), some (.int way), some (.int top), some (.str (numS ds)), some (.int (24 - (ds.sum : Nat))), some (.int (0 + (i : Nat))), some (.int (d : Nat))] ∧
        (1 ≤ d ∧ d ≤ 9) ∧ ds.sum + d + (many - 1 - i) ≤ 24 ∧ H4 = H3, ?_, ?_⟩
      · have mid : ∃ d : Nat, (1 : Int) + g = (d : Nat) ∧ (1 ≤ d ∧ d ≤ 9) ∧ ds.sum + d + (many - 1 - i) ≤ 24 := ⟨(1 + g).toNat, by omega, by omega, by omega⟩
        obtain ⟨d, ed, hd9, hsum⟩ := mid
        (try dsimp only; rw [ed])
        refine ⟨_, rfl, rfl, _, rfl, ite2 (fun c1 => ?_) (fun c1 => ?_)⟩
        · refine ⟨_, rfl, _, rfl, _, _, rfl, rfl, rfl, _, rfl, ite2 (fun c2 => ?_) (fun c2 => ?_)⟩
          · refine ⟨_, rfl, _, _, rfl, ?_⟩
            have e2 : (0 : Int) + (i : Nat) = (many : Nat) - 1 := V.int.inj (of_decide_eq_true c2)
            have q : ∃ e : Nat, (if ((24 : Int) - (ds.sum : Nat)) < 9 then ((24 : Int) - (ds.sum : Nat)) else 9) = (e : Nat) ∧ (1 ≤ e ∧ e ≤ 9) ∧ ds.sum + e + (many - 1 - i) ≤ 24 := by
              split
              · exact ⟨24 - ds.sum, by omega, by omega, by omega⟩
              · exact ⟨9, rfl, by omega, by omega⟩
            obtain ⟨e, ee, he9, hes⟩ := q
            (try dsimp only; rw [ee])
            exact ⟨e, rfl, he9, hes, rfl⟩
          · exact ⟨d, rfl, hd9, hsum, rfl⟩
        · exact ⟨d, rfl, hd9, hsum, rfl⟩
      · rintro σ H4 ⟨d, rfl, hd9, hsum, rfl⟩
        refine ⟨_, rfl, _, rfl, _, rfl, dig_log hd9, _, _, rfl, rfl, ?_, ?_⟩
        · rw [dig_str hd9, numS_len, numS_len]
          exact Nat.le_of_lt (small1000 (by show ds.length + 1 ≤ 1000; omega))
        rw [dig_str hd9, numS_app]
        refine ⟨_, rfl, _, rfl, _, _, rfl, rfl, ?_⟩
        have e3 : (24 : Int) - (ds.sum : Nat) - (d : Nat) = 24 - ((ds ++ [d]).sum : Nat) := by rw [sum_snoc]; omega
        (try dsimp only; rw [e3])
        exact ⟨ds ++ [d], _, _, rfl, by rw [len_snoc, el], dig_snoc hd hd9, by rw [sum_snoc]; omega, bag4, but.trans but4⟩
    · obtain ⟨ds, vk, vd, rfl, el, hd, hs, bag, but⟩ := hP
      refine ⟨_, rfl, kk _ ds ⟨by omega, by omega, hd, by omega⟩ (bag.mono (by omega)) but⟩
end
end K01
namespace K01
open PySem L2 Wm TL
section
variable {P : Program} {w : World} {K : PySem.W.Frag} {mg : Str → Option Value} {base : Heap}
theorem ok_row (T : Txt K mg) : FnOk P w K mg base CX0 1 T.a_row T.d_row ["_law_number_here"] (sp_row K) := by
  refine T.F_row.ok sc_row (fun vs H Q E h => ?_) (fun cdv A outer s H vs Q E hr h => ?_)
  · obtain ⟨ds, _, rfl, _⟩ := h
    rfl
  · obtain ⟨ds, N, rfl, k⟩ := h
    have hlen := N.len
    refine ⟨_, (pss_cons (ps_set (i := 1) sc_row.nd rfl (Or.inl rfl) (pe_lst pa_nil))
      (pss_cons (ps_for PassesOwn.never rfl (pi_str (pv 0)) (pg_name (i := 2) sc_row.nd rfl (Or.inl rfl))
        (pss_one (ps_set (i := 1) sc_row.nd rfl (Or.inl rfl) (pe_op op_cat (pe_op op_cat (pv 1) (pe_op op_rep (pe_lst (pa_cons pe_int (pa_cons pe_int pa_nil))) (pe_callTy call_int_str (by rfl) T.z_int (by decide +kernel) (pa_cons (pv 2) pa_nil)))) (pe_lst (pa_cons pe_int (pa_cons pe_int pa_nil)))))))
      (pss_one (ps_ret (pe_op op_cat (pv 1) (pe_lst (pa_cons pe_int (pa_cons pe_int pa_nil)))))))), ?_⟩
    refine ⟨Nat.zero_le _, fun r0 hr0 => ?_⟩
    refine ⟨_, rfl, _, rfl, ?_⟩
    refine for_it walk_str (fun i σ H' => ∃ r v, σ = [some (.str (numS ds)), some (.ref r), v] ∧ H r = none ∧ Same H H' ∧ H' r = some (.lst ((Wm.pre (ds.take i)).map V.int))) ⟨r0, _, rfl, hr0, same_new hr0, upd_same⟩ (fun _ _ _ _ _ => trivial) (fun i x σ H1 H' hi hP hY => ?_) (fun σ H1 hP => ?_)
    · obtain ⟨r, v, rfl, hr, sm, h3⟩ := hP
      obtain ⟨rfl, c, hc, rfl⟩ := hY
      rw [numS_size] at hi
      rw [numS_at ds i hi] at hc
      have hc' := (Option.some.inj hc).symm
      subst hc'
      have hd := N.dig _ (List.getElem_mem hi)
      have hp9 := pre_le (ds.take i) fun d m => (N.dig d (List.mem_of_mem_take m)).2
      rw [List.length_take] at hp9
      have hb2 : (blk ds[i]).length = 2 * ds[i] := blk_len _
      refine ⟨.ref r, rfl, by decide, fun a ha => ?_⟩
      refine ⟨_, rfl, _, _, rfl, dig_int hd, (by show 1 ≤ 640; decide), a, _, _, rfl, rfl, upd_same, by omega, by omega, by rw [Int.toNat_natCast]; show 2 * ds[i] ≤ _; exact Nat.le_of_lt (small1000 (by omega)), fun b hb => ?_⟩
      rw [Int.toNat_natCast, blk_V]
      have h3b := at_old (u := .lst ((blk ds[i]).map V.int)) (at_old (u := .lst [.int 1, .int 0]) h3 ha) hb
      refine ⟨r, b, _, _, rfl, rfl, h3b, upd_same, by rw [List.length_map, List.length_map, hb2]; exact Nat.le_of_lt (small1000 (by omega)), fun q hq => ?_⟩
      refine ⟨by decide, fun z hz => ?_⟩
      refine ⟨q, z, _, _, rfl, rfl, at_old upd_same hz, upd_same, by rw [List.length_append, List.length_map, List.length_map, hb2]; exact Nat.le_of_lt (small1000 (by simp only [List.length_cons, List.length_nil]; omega)), fun e he => ?_⟩
      have sA : Same H (upd (upd (upd (upd H' a (.lst [.int 1, .int 0])) b (.lst ((blk ds[i]).map V.int))) q (.lst ((Wm.pre (ds.take i)).map V.int ++ (blk ds[i]).map V.int))) z (.lst [.int 0, .int 0])) := (((sm.trans (same_new ha)).trans (same_new hb)).trans (same_new hq)).trans (same_new hz)
      refine ⟨e, _, rfl, sA.free he, sA.trans (same_new he), ?_⟩
      rw [upd_same, take_succ_app (List.getElem?_eq_getElem hi), pre_app]
      simp only [List.map_append, List.append_assoc]
      rfl
    · obtain ⟨r, v, rfl, hr, sm, h3⟩ := hP
      rw [numS_size, List.take_length] at h3
      have hp9 := pre_le ds fun d m => (N.dig d m).2
      refine ⟨.ref r, rfl, by decide, fun a ha => ?_⟩
      refine ⟨r, a, _, _, rfl, rfl, at_old h3 ha, upd_same, by rw [List.length_map]; exact Nat.le_of_lt (small1000 (by simp only [List.length_cons, List.length_nil]; omega)), fun q hq => ?_⟩
      have sA := (sm.trans (same_new (o := .lst [.int 0, .int 0]) ha))
      refine k _ q (sA.trans (same_new hq)) (sA.free hq) ?_
      rw [upd_same, ← pre_row ds, List.map_append]
      rfl
end
end K01
namespace K01
open PySem L2 Wm TL
section
variable {P : Program} {w : World} {K : PySem.W.Frag} {mg : Str → Option Value} {base : Heap}
theorem eqv_ints_iff : ∀ a b : List Int, PyData.eqvAll (a.map PyData.int) (b.map PyData.int) = decide (a = b)
  | [], [] => by simp [PyData.eqvAll]
  | [], _ :: _ => by simp [PyData.eqvAll]
  | _ :: _, [] => by simp [PyData.eqvAll]
  | x :: a, y :: b => by
    have ih := eqv_ints_iff a b
    simp only [List.map_cons, PyData.eqvAll, PyData.eqv, ih]
    rw [Bool.eq_iff_iff]
    simp
theorem eqv_tup_iff (a b : List Int) : PyData.eqv (.tuple (a.map PyData.int)) (.tuple (b.map PyData.int)) = decide (a = b) := by
  simp only [PyData.eqv]
  exact eqv_ints_iff a b
theorem eqv_lst_iff (a b : List Int) : PyData.eqv (.list (a.map PyData.int)) (.list (b.map PyData.int)) = decide (a = b) := by
  simp only [PyData.eqv]
  exact eqv_ints_iff a b
theorem shaped_ints (ns : List Int) : SeqAt.shaped (.tuple (ns.map PyData.int)) = true := by
  have h := PySem.W.ke_shaped_ints ns
  simp only [SeqAt.shaped, PyData.canLay0, PyData.depth] at h ⊢
  exact h
theorem dp_ints {H : Hp} : ∀ ns : List Int, DpAll K H (ns.map V.int) (ns.map PyData.int)
  | [] => .nil
  | n :: ns => .cons (.int n) (dp_ints ns)
theorem cut2 (l : List V) : cutV l none (some (-2)) = l.dropLast.dropLast := by
  unfold cutV
  rw [HT.sIx_none, List.drop_zero, Nat.sub_zero, List.dropLast_eq_take, List.dropLast_eq_take, List.take_take, List.length_take]
  have e : HT.sIx l.length l.length (some (-2)) = l.length - 2 := by
    unfold HT.sIx
    simp only [show (-2 : Int) < 0 by decide, if_true]
    omega
  rw [e]
  congr 1
  omega
theorem mapV_at {xs : List Int} {i : Nat} {v : V} (h : (xs.map V.int)[i]? = some v) : ∃ x, xs[i]? = some x ∧ v = .int x := by
  rw [List.getElem?_map] at h
  cases e : xs[i]? with
  | none =>
    rw [e] at h
    cases h
  | some x =>
    rw [e] at h
    exact ⟨x, rfl, (Option.some.inj h).symm⟩
theorem mapS_at {xs : List Str} {i : Nat} {v : V} (h : (xs.map V.str)[i]? = some v) : ∃ x, xs[i]? = some x ∧ v = .str x := by
  rw [List.getElem?_map] at h
  cases e : xs[i]? with
  | none =>
    rw [e] at h
    cases h
  | some x =>
    rw [e] at h
    exact ⟨x, rfl, (Option.some.inj h).symm⟩
theorem told_bits {zs : List Int} {ds : List Nat} {b : Bool} (N : Num ds) (e : told zs = numS ds) (hb : b = decide (rowL ds = zs)) :
    (b = true → Told (zs.map V.int) (.str (told zs))) ∧ (b = false → Told (zs.map V.int) .non) := by
  constructor
  · intro q
    rw [hb] at q
    have q' := of_decide_eq_true q
    exact .inl ⟨ds, N, by rw [q'], by rw [e]⟩
  · intro q
    rw [hb] at q
    have q' := of_decide_eq_false q
    refine .inr ⟨fun es M f => ?_, rfl⟩
    have f' := map_int_inj f
    subst f'
    rw [told_row M.dig] at e
    exact q' (by rw [numS_inj e])
theorem told_none {zs : List Int} (h : ¬ IsNum (told zs)) : Told (zs.map V.int) .non :=
  .inr ⟨fun es M f => by
    have f' := map_int_inj f
    subst f'
    rw [told_row M.dig] at h
    exact h ⟨es, M, rfl⟩, rfl⟩
theorem told_odd {xs : List V} (h : (xs.map isBit).all id ≠ true) : Told xs .non := by
  refine .inr ⟨fun es M f => h ?_, rfl⟩
  rw [f, List.map_map, List.all_map, List.all_eq_true]
  intro z m
  rcases row_bits es z m with q | q <;> subst q <;> rfl
theorem bits_of {xs : List V} (h : (xs.map isBit).all id = true) : ∀ x ∈ xs, isBit x = true := by
  rw [List.all_map, List.all_eq_true] at h
  exact h
theorem log_bit {z : Int} (h : z = 0 ∨ z = 1) : z.natAbs.log2 < 1920 := by
  rcases h with e | e <;> subst e <;> decide
theorem log_small {n : Nat} (h : n ≤ 1000) : ((n : Nat) : Int).natAbs.log2 < 1920 := by
  rw [Int.natAbs_natCast]
  by_cases z : n = 0
  · subst z; decide
  · exact Nat.lt_trans ((Nat.log2_lt z).mpr (show n < 2 ^ 10 by omega)) (by decide)
theorem len_join {zs : List Int} : (Txt.join "" (zs.map bitS)).length = zs.length := halves_len zs
theorem ok_number_of (T : Txt K mg) : FnOk P w K mg base CX0 5 T.a_number_of T.d_number_of ["row"] (sp_number_of K) := by
  refine T.F_number_of.ok sc_number_of (fun vs H Q E h => ?_) (fun cdv A outer s H vs Q E hr h => ?_)
  · obtain ⟨p, xs, rfl, _⟩ := h
    rfl
  · obtain ⟨p, xs, rfl, hS, it, hlen, kk⟩ := h
    refine ⟨_, (pss_cons (ps_if (pt_not (pt_val (pe_callB (cr_all rfl) (by rfl) T.z_all (by decide +kernel) (pa_cons (pe_lc (own := [("sign", 1)]) (g := gName 1) (tt := tYes) rfl sc_number_of.nd (Hf.pi_seq (pv 0)) (blkOk_by (own := [("sign", 1)]) (N := nm_number_of) (sc := defScope s_number_of) (by decide +kernel)) (fun _ _ _ _ _ => pg_name (i := 1) sc_number_of.nd rfl (Or.inl rfl)) (fun _ _ _ _ _ => pts_nil) (fun _ _ _ _ _ => (pe_call (ok_is_whole_within T) (hr.mono (by decide)) (by rfl) T.g_is_whole_within T.F_is_whole_within.kp T.b_is_whole_within .nil pass0 (pa_cons (pv 1) (pa_cons pe_int (pa_cons pe_int pa_nil)))))) pa_nil))))
        (pss_one (ps_ret pe_non))
        pss_nil)
      (pss_cons (ps_set (i := 2) sc_number_of.nd rfl (Or.inl rfl) (pe_join pe_str (pe_lc (own := [("sign", 1)]) (g := gName 1) (tt := tYes) rfl sc_number_of.nd (Hf.pi_seq (Hf.pe_half (pv 0))) (blkOk_by (own := [("sign", 1)]) (N := nm_number_of) (sc := defScope s_number_of) (by decide +kernel)) (fun _ _ _ _ _ => pg_name (i := 1) sc_number_of.nd rfl (Or.inl rfl)) (fun _ _ _ _ _ => pts_nil) (fun _ _ _ _ _ => (pe_callTy call_str_int (by rfl) T.z_str (by decide +kernel) (pa_cons (pv 1) pa_nil))))))
      (pss_cons (ps_set (i := 3) sc_number_of.nd rfl (Or.inl rfl) (pe_split (pv 2) pe_str))
      (pss_cons (ps_set (i := 4) sc_number_of.nd rfl (Or.inl rfl) (pe_join pe_str (pe_lc (own := [("group", 5)]) (g := gName 5) (tt := tYes) rfl sc_number_of.nd (pi_list (pe_slice sl_list (pv 3) po_none (po_some (pe_un un_neg pe_int)))) (blkOk_by (own := [("group", 5)]) (N := nm_number_of) (sc := defScope s_number_of) (by decide +kernel)) (fun _ _ _ _ _ => pg_name (i := 5) sc_number_of.nd rfl (Or.inl rfl)) (fun _ _ _ _ _ => pts_nil) (fun _ _ _ _ _ => (pe_callTy call_str_int (by rfl) T.z_str (by decide +kernel) (pa_cons (pe_callB call_len_str (by rfl) T.z_len PySem.boot_len (pa_cons (pv 5) pa_nil)) pa_nil))))))
      (pss_cons (ps_if (PW.pt (pw_and (pt_val (pe_call (ok_is_number T) (hr.mono (by decide)) (by rfl) T.g_is_number T.F_is_number.kp T.b_is_number .nil pass0 (pa_cons (pv 4) pa_nil))) (pw_and1 (pt_cmpR (op_eqD hr.units) (pe_call (ok_row_of T) (hr.mono (by decide)) (by rfl) T.g_row_of T.F_row_of.kp T.b_row_of .nil pass0 (pa_cons (pv 4) pa_nil)) (pe_callTy call_tuple_of (by rfl) T.z_tuple (by decide +kernel) (pa_cons (pv 0) pa_nil)) (nomark _)))))
        (pss_one (ps_ret (pv 4)))
        pss_nil)
      (pss_one (ps_ret pe_non))))))), ?_⟩
    refine ⟨_, rfl, p, xs, rfl, hS, fun J G wk g => ?_⟩
    intro D hD
    refine lc_it wk (fun i H' => Same H H' ∧ H' D = some (.lst (((xs.map isBit).take i).map V.bl))) ⟨same_new hD, upd_same⟩ (fun _ _ _ hP => g _ hP.1) (fun i x H1 H' hi hP hY => ?_) (fun H1 hP => ?_)
    · obtain ⟨sm, hL⟩ := hP
      obtain ⟨rfl, hx⟩ := hY
      have hx2 : (xs.map isBit)[i]? = some (isBit x) := by rw [List.getElem?_map, hx]; rfl
      refine ⟨rfl, yesT ?_⟩
      refine ⟨_, rfl, x, rfl, (it x (List.mem_of_getElem? hx)).keep sm, ?_⟩
      refine ⟨_, hL, by rw [List.length_map, List.length_take]; exact small1000 (by omega), same_mut sm hD, ?_⟩
      rw [upd_same, take_succ_map _ hx2]
    · obtain ⟨sm, hL⟩ := hP
      rw [← List.length_map (f := isBit), List.take_length] at hL
      refine ⟨D, xs.map isBit, rfl, SqL.of hL, _, rfl, ?_⟩
      by_cases c : (xs.map isBit).all id = true
      case neg =>
        rw [Bool.not_eq_true] at c
        rw [c]
        refine iteT ?_
        exact kk _ _ sm (told_odd (by rw [c]; decide))
      rw [c]
      refine iteF ?_
      obtain ⟨zs, rfl, hz⟩ := all_bits (bits_of c)
      rw [List.length_map] at hlen
      have hel := Hf.ev2_le zs
      refine ⟨⟨_, rfl⟩, ?_⟩
      refine ⟨_, rfl, p, _, rfl, hS.keep sm, fun q H2 s2 q0 hq => ?_⟩
      rw [Hf.ev2_map] at hq
      refine ⟨q, _, rfl, hq, fun J2 G2 wk2 g2 => ?_⟩
      intro D2 hD2
      rw [List.length_map] at wk2
      have sA := sm.trans s2
      refine lc_it wk2 (fun i H' => Same H2 H' ∧ H' D2 = some (.lst ((((Hf.ev2 zs).map bitS).take i).map V.str))) ⟨same_new hD2, upd_same⟩ (fun i H' _ hP => g2 _ hP.1) (fun i x H3 H' hi hP hY => ?_) (fun H3 hP => ?_)
      · obtain ⟨sm3, hL3⟩ := hP
        obtain ⟨rfl, hx⟩ := hY
        obtain ⟨z, hz1, rfl⟩ := mapV_at hx
        have hb := hz z (Hf.ev2_mem (List.mem_of_getElem? hz1))
        have hx2 : ((Hf.ev2 zs).map bitS)[i]? = some (bitS z) := by rw [List.getElem?_map, hz1]; rfl
        refine ⟨rfl, yesT ?_⟩
        refine ⟨_, rfl, z, rfl, log_bit hb, ?_⟩
        refine ⟨_, hL3, by rw [List.length_map, List.length_take]; exact small1000 (by omega), same_mut sm3 hD2, ?_⟩
        rw [upd_same, bit_str hb, take_succ_map _ hx2]
      · obtain ⟨sm3, hL3⟩ := hP
        have sB := sA.trans sm3
        rw [← List.length_map (f := bitS), List.take_length] at hL3
        refine ⟨"", D2, _, rfl, rfl, .inl (SqL.of hL3), ?_, ?_⟩
        · have z0 : ("" : Str).length = 0 := by decide +kernel
          rw [bit_sum, List.length_map, z0]
          omega
        refine ⟨_, rfl, ⟨_, rfl⟩, ?_⟩
        refine ⟨_, _, rfl, rfl, by decide, by rw [halves_len]; exact small_len (by omega), fun g hg => ?_⟩
        rw [groups_eq]
        refine ⟨⟨_, rfl⟩, ?_⟩
        refine ⟨.ref g, rfl, 2, rfl, -2, rfl, g, _, rfl, SqL.of upd_same, fun q2 hq2 => ?_⟩
        rw [cut2]
        have eg : (List.map V.str ((gaps (Hf.ev2 zs)).map oneS)).dropLast.dropLast = ((gaps (Hf.ev2 zs)).dropLast.dropLast.map oneS).map V.str := by
          rw [List.map_dropLast, List.map_dropLast, List.map_dropLast, List.map_dropLast]
        rw [eg]
        have hgs : ∀ n ∈ (gaps (Hf.ev2 zs)).dropLast.dropLast, n ≤ 1000 := fun n m => by
          have := gaps_le (List.dropLast_subset _ (List.dropLast_subset _ m))
          omega
        have hgl : (gaps (Hf.ev2 zs)).dropLast.dropLast.length ≤ 1000 := by
          have := (gaps_sum (Hf.ev2 zs)).2
          rw [List.length_dropLast, List.length_dropLast]
          omega
        have etold : Txt.join "" ((gaps (Hf.ev2 zs)).dropLast.dropLast.map decS) = told zs := rfl
        generalize (gaps (Hf.ev2 zs)).dropLast.dropLast = gs at hgs hgl etold
        have sC := (sB.trans (same_new (o := .lst (List.map V.str ((gaps (Hf.ev2 zs)).map oneS))) hg)).trans (same_new (o := .lst (List.map V.str (gs.map oneS))) hq2)
        refine ⟨q2, rfl, ⟨_, SqL.of upd_same⟩, fun D3 hD3 => ?_⟩
        have hfree := sC.free hD3
        refine lc_list (xs := (gs.map oneS).map V.str) (fun i H' => (H' q2 = some (.lst ((gs.map oneS).map V.str)) ∧ Same H H') ∧ H' D3 = some (.lst (((gs.map decS).take i).map V.str))) ⟨⟨at_old upd_same hD3, sC.trans (same_new hD3)⟩, upd_same⟩ (fun i H' _ hP => SqL.of hP.1.1) (fun i x H4 hx hP => ?_) (fun H4 hP => ?_)
        · obtain ⟨⟨hq4, sm4⟩, hL4⟩ := hP
          obtain ⟨y, hy, rfl⟩ := mapS_at hx
          rw [List.getElem?_map] at hy
          obtain ⟨n, hn, rfl⟩ := Option.map_eq_some_iff.mp hy
          have hn1000 := hgs n (List.mem_of_getElem? hn)
          have hx2 : (gs.map decS)[i]? = some (decS n) := by rw [List.getElem?_map, hn]; rfl
          have hi := (List.getElem?_eq_some_iff.mp hn).1
          refine ⟨rfl, yesT ?_⟩
          refine ⟨_, rfl, _, rfl, by rw [oneS_len]; exact small_len (by omega), ?_⟩
          rw [oneS_len]
          refine ⟨_, rfl, log_small hn1000, ?_⟩
          refine ⟨_, hL4, by rw [List.length_map, List.length_take]; exact small1000 (by omega), ⟨?_, same_mut sm4 hfree⟩, ?_⟩
          · rw [upd_ne (ne_of_none upd_same hD3)]
            exact hq4
          · rw [upd_same]
            exact congrArg (fun l => some (HO.lst l)) (take_succ_map V.str hx2)
        · obtain ⟨⟨hq4, sm4⟩, hL4⟩ := hP
          rw [List.length_map, show (gs.map oneS).length = (gs.map decS).length by rw [List.length_map, List.length_map], List.take_length] at hL4
          refine ⟨"", D3, gs.map decS, rfl, rfl, .inl (SqL.of hL4), ?_, ?_⟩
          · have z0 : ("" : Str).length = 0 := by decide +kernel
            have := dec_sum hgs
            rw [List.length_map, z0]
            omega
          rw [etold]
          refine ⟨_, rfl, told zs, ?_, rfl, fun H5 b s5 hb => ⟨b, rfl, ?_⟩⟩
          · rw [← etold, join0_len]
            have := dec_sum hgs
            omega
          have s05 := sm4.trans s5
          cases b with
          | false =>
            refine iteF ?_
            refine iteF ?_
            exact kk _ _ s05 (told_none fun z => by have := hb.mpr z; cases this)
          | true =>
            refine iteT ?_
            obtain ⟨ds, N, eds⟩ := hb.mp rfl
            refine ⟨_, rfl, ds, N, by rw [eds]; rfl, fun H6 r s6 r0 hr => ?_⟩
            have s06 := s05.trans s6
            have fin : ∀ (b : Bool), b = decide (rowL ds = zs) → (b = true → Told (zs.map V.int) (.str (told zs))) ∧ (b = false → Told (zs.map V.int) .non) := fun b e => told_bits N eds e
            have hr' : ∀ H7, Same H6 H7 → Dp K H7 (.ref r) (.tuple ((rowL ds).map PyData.int)) := fun H7 s7 => .tup (SqT.of (s7 _ _ hr)) (dp_ints _)
            rcases hS.keep s06 with hS6 | hS6
            · refine ⟨_, rfl, p, _, rfl, .inl ⟨hS6, fun l hl => ?_⟩⟩
              refine ⟨_, _, hr' _ (same_new hl), .tup (SqT.of upd_same) (dp_ints _), shaped_ints _, shaped_ints _, _, rfl, ?_⟩
              rw [eqv_tup_iff]
              have f := fin _ rfl
              refine ite2 (fun e => ?_) (fun e => ?_)
              · exact ⟨_, rfl, kk _ _ (s06.trans (same_new hl)) (f.1 e)⟩
              · exact kk _ _ (s06.trans (same_new hl)) (f.2 (Bool.not_eq_true _ ▸ e))
            · refine ⟨_, rfl, p, _, rfl, .inr ⟨hS6, ?_⟩⟩
              refine ⟨_, _, hr' _ (Same.refl _), .tup hS6 (dp_ints _), shaped_ints _, shaped_ints _, _, rfl, ?_⟩
              rw [eqv_tup_iff]
              have f := fin _ rfl
              refine ite2 (fun e => ?_) (fun e => ?_)
              · exact ⟨_, rfl, kk _ _ s06 (f.1 e)⟩
              · exact kk _ _ s06 (f.2 (Bool.not_eq_true _ ▸ e))
end
end K01
namespace K01
open PySem L2 Wm TL
section
variable {P : Program} {w : World} {K : PySem.W.Frag} {mg : Str → Option Value} {base : Heap}
/-- ints alone, not too many -/
structure IL (xs : List V) (n : Nat) : Prop where
  int : ∀ x ∈ xs, ∃ i : Int, x = .int i ∧ i.natAbs < 1000000
  len : xs.length ≤ n
theorem IL.items {xs : List V} {n : Nat} {H : Hp} (h : IL xs n) : ∀ x ∈ xs, Item K H x := fun x m => by
  obtain ⟨i, rfl, hi⟩ := h.int x m
  exact item_int hi
theorem IL.cut {xs : List V} {n : Nat} (h : IL xs n) (lo hi : Option Int) : IL (cutV xs lo hi) n :=
  ⟨fun x m => h.int x (List.mem_of_mem_drop (List.mem_of_mem_take m)), Nat.le_trans (cutV_length xs lo hi) h.len⟩
theorem IL.app {xs ys : List V} {n m : Nat} (h : IL xs n) (g : IL ys m) : IL (xs ++ ys) (n + m) :=
  ⟨fun x l => (List.mem_append.mp l).elim (h.int x) (g.int x), by rw [List.length_append]; have := h.len; have := g.len; omega⟩
theorem IL.row {ds : List Nat} (N : Num ds) : IL ((rowL ds).map V.int) 100 :=
  ⟨fun x m => by
    obtain ⟨z, hz, rfl⟩ := List.mem_map.mp m
    rcases row_bits ds z hz with e | e <;> subst e
    · exact ⟨0, rfl, by decide⟩
    · exact ⟨1, rfl, by decide⟩, by rw [List.length_map]; exact row_le ds N⟩
theorem IL.one {i : Int} (h : i.natAbs < 1000000) : IL [.int i] 1 :=
  ⟨fun x m => by
    rw [List.mem_singleton] at m
    exact ⟨i, m, h⟩, Nat.le_refl _⟩
theorem IL.zz : IL [.int 0, .int 0] 2 :=
  ⟨fun x m => by
    simp only [List.mem_cons, List.not_mem_nil, or_false, or_self] at m
    exact ⟨0, m, by decide⟩, Nat.le_refl _⟩
theorem IL.blk {n : Nat} (h : n ≤ 20) : IL ((Wm.blk n).map V.int) 40 :=
  ⟨fun x m => by
    obtain ⟨z, hz, rfl⟩ := List.mem_map.mp m
    obtain ⟨l, hl, hz⟩ := List.mem_flatten.mp hz
    rw [(List.mem_replicate.mp hl).2] at hz
    simp only [List.mem_cons, List.not_mem_nil, or_false] at hz
    rcases hz with e | e <;> subst e
    · exact ⟨1, rfl, by decide⟩
    · exact ⟨0, rfl, by decide⟩, by rw [List.length_map, blk_len]; omega⟩
theorem IL.sz {xs : List V} {n : Nat} (h : IL xs n) {ys : List V} {m : Nat} (g : IL ys m) (l : n + m ≤ 1000) : xs.length + ys.length ≤ sizeLine :=
  Nat.le_of_lt (small1000 (by have := h.len; have := g.len; omega))
def eight (c : Addr) : List V := [.int 0, .int 1, .int 2, .bl true, .bl false, .non, .str "1", .ref c]
theorem pick8 {c : Addr} {d : Int} (d0 : 0 ≤ d) (d8 : d < 8) : ∃ v, atI (eight c) d = some v ∧ ∀ H' : Hp, H' c = some (.lst [.int 0]) → Item K H' v := by
  obtain ⟨i, rfl⟩ := Int.eq_ofNat_of_zero_le d0
  have hi : i < (eight c).length := by show i < 8; omega
  refine ⟨(eight c)[i], atI_nat (List.getElem?_eq_getElem hi), fun H' hc => ?_⟩
  have m : (eight c)[i] ∈ eight c := List.getElem_mem hi
  generalize (eight c)[i] = v at m
  unfold eight at m
  simp only [List.mem_cons, List.not_mem_nil, or_false] at m
  rcases m with m | m | m | m | m | m | m | m <;> subst m
  · exact item_int (by decide)
  · exact item_int (by decide)
  · exact item_int (by decide)
  · exact ⟨_, .bl _, .bl _⟩
  · exact ⟨_, .bl _, .bl _⟩
  · exact ⟨_, .non, .non⟩
  · exact ⟨_, .str _, .one⟩
  · exact ⟨_, .lst (SqL.of hc) (.cons (.int _) .nil), .lst⟩
theorem ok_bent (T : Txt K mg) : FnOk P w K mg base CX0 2 T.a_bent T.d_bent ["_law_bag_here", "_law_one", "_law_other"] (sp_bent K) := by
  refine T.F_bent.ok sc_bent (fun vs H Q E h => ?_) (fun cdv A outer s H vs Q E hr h => ?_)
  · obtain ⟨b, n, ds, es, rfl, _⟩ := h
    rfl
  · obtain ⟨b, n, ds, es, rfl, N, M, bag, hn, kk⟩ := h
    refine ⟨_, (pss_cons (ps_set (i := 3) sc_bent.nd rfl (Or.inl rfl) (pe_call (ok_row T) (hr.mono (by decide)) (by rfl) T.g_row T.F_row.kp T.b_row .nil pass0 (pa_cons (pv 1) pa_nil)))
      (pss_cons (ps_set (i := 4) sc_bent.nd rfl (Or.inl rfl) (pe_call (ok_draw T) (hr.mono (by decide)) (by rfl) T.g_draw T.F_draw.kp T.b_draw .nil pass0 (pa_cons (pv 0) (pa_cons (pe_callB call_len_seq (by rfl) T.z_len PySem.boot_len (pa_cons (pv 3) pa_nil)) pa_nil))))
      (pss_cons (ps_set (i := 5) sc_bent.nd rfl (Or.inl rfl) (pe_call (ok_draw T) (hr.mono (by decide)) (by rfl) T.g_draw T.F_draw.kp T.b_draw .nil pass0 (pa_cons (pv 0) (pa_cons pe_int pa_nil))))
      (pss_cons (ps_if (PW.pt (pw_or (pt_cmpR op_eq (pv 5) pe_int (nomark _)) (pw_or1 (pt_cmpR op_eq (pv 5) pe_int (nomark _)))))
        (pss_one (ps_ret (pe_op op_cat (pe_op op_cat (pe_slice sl_list (pv 3) po_none (po_some (pv 4))) (pe_lst (pa_cons (pe_ix ix_list (pe_lst (pa_cons pe_int (pa_cons pe_int (pa_cons pe_int (pa_cons pe_bl (pa_cons pe_bl (pa_cons pe_non (pa_cons pe_str (pa_cons (pe_lst (pa_cons pe_int pa_nil)) pa_nil))))))))) (pe_call (ok_draw T) (hr.mono (by decide)) (by rfl) T.g_draw T.F_draw.kp T.b_draw .nil pass0 (pa_cons (pv 0) (pa_cons pe_int pa_nil))) (fun _ _ => rfl)) pa_nil))) (pe_slice sl_list (pv 3) (po_some (pe_op op_add (pv 4) pe_int)) po_none))))
        pss_nil)
      (pss_cons (ps_if (pt_cmpR op_eq (pv 5) pe_int (nomark _))
        (pss_one (ps_ret (pe_op op_cat (pe_slice sl_list (pv 3) po_none (po_some (pv 4))) (pe_slice sl_list (pv 3) (po_some (pe_op op_add (pv 4) pe_int)) po_none))))
        pss_nil)
      (pss_cons (ps_if (pt_cmpR op_eq (pv 5) pe_int (nomark _))
        (pss_one (ps_ret (pe_op op_cat (pe_op op_cat (pe_slice sl_list (pv 3) po_none (po_some (pv 4))) (pe_lst (pa_cons (pe_call (ok_draw T) (hr.mono (by decide)) (by rfl) T.g_draw T.F_draw.kp T.b_draw .nil pass0 (pa_cons (pv 0) (pa_cons pe_int pa_nil))) pa_nil))) (pe_slice sl_list (pv 3) (po_some (pv 4)) po_none))))
        pss_nil)
      (pss_cons (ps_if (pt_cmpR op_eq (pv 5) pe_int (nomark _))
        (pss_one (ps_ret (pe_op op_cat (pe_slice sl_list (pv 3) po_none (po_some (pv 4))) (pe_slice sl_list (pe_call (ok_row T) (hr.mono (by decide)) (by rfl) T.g_row T.F_row.kp T.b_row .nil pass0 (pa_cons (pv 2) pa_nil)) (po_some (pv 4)) po_none))))
        pss_nil)
      (pss_cons (ps_if (pt_cmpR op_eq (pv 5) pe_int (nomark _))
        (pss_one (ps_ret (pe_op op_cat (pv 3) (pe_call (ok_row T) (hr.mono (by decide)) (by rfl) T.g_row T.F_row.kp T.b_row .nil pass0 (pa_cons (pv 2) pa_nil)))))
        pss_nil)
      (pss_cons (ps_if (pt_cmpR op_eq (pv 5) pe_int (nomark _))
        (pss_one (ps_ret (pe_slice sl_list (pv 3) po_none (po_some (pe_op op_sub (pe_op op_sub (pe_callB call_len_seq (by rfl) T.z_len PySem.boot_len (pa_cons (pv 3) pa_nil)) pe_int) (pe_call (ok_draw T) (hr.mono (by decide)) (by rfl) T.g_draw T.F_draw.kp T.b_draw .nil pass0 (pa_cons (pv 0) (pa_cons pe_int pa_nil))))))))
        pss_nil)
      (pss_cons (ps_if (pt_cmpR op_eq (pv 5) pe_int (nomark _))
        (pss_one (ps_ret (pe_slice sl_list (pv 3) (po_some (pe_op op_add pe_int (pe_call (ok_draw T) (hr.mono (by decide)) (by rfl) T.g_draw T.F_draw.kp T.b_draw .nil pass0 (pa_cons (pv 0) (pa_cons pe_int pa_nil))))) po_none)))
        pss_nil)
      (pss_one (ps_ret (pe_op op_cat (pe_op op_cat (pe_op op_rep (pe_lst (pa_cons pe_int (pa_cons pe_int pa_nil))) (pe_op op_add pe_int (pe_call (ok_draw T) (hr.mono (by decide)) (by rfl) T.g_draw T.F_draw.kp T.b_draw .nil pass0 (pa_cons (pv 0) (pa_cons pe_int pa_nil))))) (pe_lst (pa_cons pe_int (pa_cons pe_int pa_nil)))) (pe_call (ok_row T) (hr.mono (by decide)) (by rfl) T.g_row T.F_row.kp T.b_row .nil pass0 (pa_cons (pv 2) pa_nil))))))))))))))), ?_⟩
    have hb : H b ≠ none := by
      obtain ⟨c, x, k, m, z, ns, e, _⟩ := bag
      rw [e]
      exact fun z => nomatch z
    refine ⟨_, rfl, ds, N, rfl, fun H1 p s1 p0 hp => ?_⟩
    have pb : p ≠ b := fun e => hb (by rw [← e]; exact p0)
    have hr2 : 0 < (((rowL ds).map V.int).length : Int) ∧ (((rowL ds).map V.int).length : Int) < 1073741824 := by
      rw [List.length_map, row_sum]
      have := N.len
      have := N.sum
      omega
    refine ⟨_, rfl, _, rfl, p, _, rfl, .inl (SqL.of hp), b, n, _, rfl, hr2.1, hr2.2, bag.keep s1, by omega, fun H2 at0 a0 a1 bag2 but2 => ?_⟩
    refine ⟨_, rfl, b, _, 9, rfl, by decide, by decide, bag2, by omega, fun H3 way w0 w1 bag3 but3 => ?_⟩
    have hp3 : H3 p = some (.lst ((rowL ds).map V.int)) := but3 _ _ pb (but2 _ _ pb hp)
    have but : But b H H3 := ((But.of s1).trans but2).trans but3
    have R := IL.row N
    have fin : ∀ H' q xs m, H' q = some (.lst xs) → IL xs m → m ≤ 1000 → Bag H' b (n + 4) → But b H3 H' → Q (.ref q) H' := fun H' q xs m h1 h2 h3 h4 h5 =>
      kk H' q xs h1 h2.items (Nat.le_trans h2.len h3) h4 (but.trans h5)
    obtain ⟨ob, hb3⟩ : ∃ o, H3 b = some o := by
      obtain ⟨c, x, k, m, z, ns, e, _⟩ := bag3
      exact ⟨_, e⟩
    -- 0, 1
    refine ⟨_, rfl, rfl, _, rfl, ite2 (fun _ => ?_) (fun _ => ?_)⟩
    case refine_1 =>
      refine ⟨.ref p, rfl, _, rfl, _, rfl, p, _, rfl, SqL.of hp3, fun a ha => ?_⟩
      have R1 := R.cut none (some at0)
      generalize cutV ((rowL ds).map V.int) none (some at0) = L1 at R1
      refine ⟨by decide, fun c hc => ?_⟩
      refine ⟨by show 8 ≤ sizeLine; decide, fun e he => ?_⟩
      have s6 : Same H3 (upd (upd (upd H3 a (.lst L1)) c (.lst [.int 0])) e (.lst (eight c))) := ((same_new ha).trans (same_new hc)).trans (same_new he)
      have ab : a ≠ b := (ne_of_none hb3 ha).symm
      have cb : c ≠ b := fun z => by rw [z] at hc; exact (ne_of_none (at_old hb3 ha) hc) rfl
      have eb : e ≠ b := fun z => by rw [z] at he; exact (ne_of_none (at_old (at_old hb3 ha) hc) he) rfl
      refine ⟨_, rfl, b, _, 8, rfl, by decide, by decide, bag3.keep s6, by omega, fun H7 d d0 d8 bag7 but7 => ?_⟩
      have ha7 : H7 a = some (.lst L1) := but7 _ _ ab (at_old (at_old upd_same hc) he)
      have hc7 : H7 c = some (.lst [.int 0]) := but7 _ _ cb (at_old upd_same he)
      have he7 : H7 e = some (.lst (eight c)) := but7 _ _ eb upd_same
      have hp7 : H7 p = some (.lst ((rowL ds).map V.int)) := but7 _ _ pb (s6 _ _ hp3)
      obtain ⟨v, hv, iv⟩ := pick8 (K := K) (c := c) d0 d8
      refine ⟨e, _, d, v, rfl, rfl, SqL.of he7, hv, ?_⟩
      refine ⟨by show 1 ≤ sizeLine; decide, fun f hf => ?_⟩
      refine ⟨a, f, _, _, rfl, rfl, at_old ha7 hf, upd_same, Nat.le_of_lt (small1000 (by have := R1.len; show L1.length + 1 ≤ 1000; omega)), fun g hg => ?_⟩
      refine ⟨.ref p, rfl, _, rfl, _, _, rfl, rfl, _, rfl, p, _, rfl, SqL.of (at_old (at_old hp7 hf) hg), fun k hk => ?_⟩
      have R2 := R.cut (some (at0 + 1)) none
      generalize cutV ((rowL ds).map V.int) (some (at0 + 1)) none = L2 at R2
      refine ⟨g, k, _, _, rfl, rfl, at_old upd_same hk, upd_same, Nat.le_of_lt (small1000 (by have := R1.len; have := R2.len; rw [List.length_append]; show L1.length + 1 + L2.length ≤ 1000; omega)), fun q hq => ?_⟩
      have s11 := (((same_new (o := .lst [v]) hf).trans (same_new (o := .lst (L1 ++ [v])) hg)).trans (same_new (o := .lst L2) hk)).trans (same_new (o := .lst (L1 ++ [v] ++ L2)) hq)
      refine kk _ q _ upd_same (fun x m => ?_) ?_ ((bag7.keep s11).mono (by omega)) ((but.trans (But.of s6)).trans (but7.trans (But.of s11)))
      · rcases List.mem_append.mp m with m | m
        · rcases List.mem_append.mp m with m | m
          · exact R1.items x m
          · rw [List.mem_singleton] at m
            rw [m]
            exact iv _ (s11 _ _ hc7)
        · exact R2.items x m
      · have := R1.len
        have := R2.len
        rw [List.length_append, List.length_append]
        show L1.length + 1 + L2.length ≤ 1000
        omega
    refine ⟨_, rfl, rfl, _, rfl, ite2 (fun _ => ?_) (fun _ => ?_)⟩
    case refine_1 =>
      refine ⟨.ref p, rfl, _, rfl, _, rfl, p, _, rfl, SqL.of hp3, fun a ha => ?_⟩
      have R1 := R.cut none (some at0)
      generalize cutV ((rowL ds).map V.int) none (some at0) = L1 at R1
      refine ⟨by decide, fun c hc => ?_⟩
      refine ⟨by show 8 ≤ sizeLine; decide, fun e he => ?_⟩
      have s6 : Same H3 (upd (upd (upd H3 a (.lst L1)) c (.lst [.int 0])) e (.lst (eight c))) := ((same_new ha).trans (same_new hc)).trans (same_new he)
      have ab : a ≠ b := (ne_of_none hb3 ha).symm
      have cb : c ≠ b := fun z => by rw [z] at hc; exact (ne_of_none (at_old hb3 ha) hc) rfl
      have eb : e ≠ b := fun z => by rw [z] at he; exact (ne_of_none (at_old (at_old hb3 ha) hc) he) rfl
      refine ⟨_, rfl, b, _, 8, rfl, by decide, by decide, bag3.keep s6, by omega, fun H7 d d0 d8 bag7 but7 => ?_⟩
      have ha7 : H7 a = some (.lst L1) := but7 _ _ ab (at_old (at_old upd_same hc) he)
      have hc7 : H7 c = some (.lst [.int 0]) := but7 _ _ cb (at_old upd_same he)
      have he7 : H7 e = some (.lst (eight c)) := but7 _ _ eb upd_same
      have hp7 : H7 p = some (.lst ((rowL ds).map V.int)) := but7 _ _ pb (s6 _ _ hp3)
      obtain ⟨v, hv, iv⟩ := pick8 (K := K) (c := c) d0 d8
      refine ⟨e, _, d, v, rfl, rfl, SqL.of he7, hv, ?_⟩
      refine ⟨by show 1 ≤ sizeLine; decide, fun f hf => ?_⟩
      refine ⟨a, f, _, _, rfl, rfl, at_old ha7 hf, upd_same, Nat.le_of_lt (small1000 (by have := R1.len; show L1.length + 1 ≤ 1000; omega)), fun g hg => ?_⟩
      refine ⟨.ref p, rfl, _, rfl, _, _, rfl, rfl, _, rfl, p, _, rfl, SqL.of (at_old (at_old hp7 hf) hg), fun k hk => ?_⟩
      have R2 := R.cut (some (at0 + 1)) none
      generalize cutV ((rowL ds).map V.int) (some (at0 + 1)) none = L2 at R2
      refine ⟨g, k, _, _, rfl, rfl, at_old upd_same hk, upd_same, Nat.le_of_lt (small1000 (by have := R1.len; have := R2.len; rw [List.length_append]; show L1.length + 1 + L2.length ≤ 1000; omega)), fun q hq => ?_⟩
      have s11 := (((same_new (o := .lst [v]) hf).trans (same_new (o := .lst (L1 ++ [v])) hg)).trans (same_new (o := .lst L2) hk)).trans (same_new (o := .lst (L1 ++ [v] ++ L2)) hq)
      refine kk _ q _ upd_same (fun x m => ?_) ?_ ((bag7.keep s11).mono (by omega)) ((but.trans (But.of s6)).trans (but7.trans (But.of s11)))
      · rcases List.mem_append.mp m with m | m
        · rcases List.mem_append.mp m with m | m
          · exact R1.items x m
          · rw [List.mem_singleton] at m
            rw [m]
            exact iv _ (s11 _ _ hc7)
        · exact R2.items x m
      · have := R1.len
        have := R2.len
        rw [List.length_append, List.length_append]
        show L1.length + 1 + L2.length ≤ 1000
        omega
    refine ⟨_, rfl, rfl, _, rfl, ite2 (fun _ => ?_) (fun _ => ?_)⟩
    case refine_1 =>
      refine ⟨.ref p, rfl, _, rfl, _, rfl, p, _, rfl, SqL.of hp3, fun a ha => ?_⟩
      have R1 := R.cut none (some at0)
      generalize cutV ((rowL ds).map V.int) none (some at0) = L1 at R1
      refine ⟨.ref p, rfl, _, rfl, _, _, rfl, rfl, _, rfl, p, _, rfl, SqL.of (at_old hp3 ha), fun k hk => ?_⟩
      have R2 := R.cut (some (at0 + 1)) none
      generalize cutV ((rowL ds).map V.int) (some (at0 + 1)) none = L2 at R2
      refine ⟨a, k, _, _, rfl, rfl, at_old upd_same hk, upd_same, R1.sz R2 (by decide), fun q hq => ?_⟩
      have s := ((same_new (o := .lst L1) ha).trans (same_new (o := .lst L2) hk)).trans (same_new (o := .lst (L1 ++ L2)) hq)
      exact fin _ q _ _ upd_same (R1.app R2) (by decide) ((bag3.keep s).mono (by omega)) (But.of s)
    refine ⟨_, rfl, rfl, _, rfl, ite2 (fun _ => ?_) (fun _ => ?_)⟩
    case refine_1 =>
      refine ⟨.ref p, rfl, _, rfl, _, rfl, p, _, rfl, SqL.of hp3, fun a ha => ?_⟩
      have R1 := R.cut none (some at0)
      generalize cutV ((rowL ds).map V.int) none (some at0) = L1 at R1
      have ab : a ≠ b := (ne_of_none hb3 ha).symm
      refine ⟨_, rfl, b, _, 2, rfl, by decide, by decide, bag3.keep (same_new ha), by omega, fun H7 d d0 d8 bag7 but7 => ?_⟩
      have ha7 : H7 a = some (.lst L1) := but7 _ _ ab upd_same
      have hp7 : H7 p = some (.lst ((rowL ds).map V.int)) := but7 _ _ pb (at_old hp3 ha)
      refine ⟨by show 1 ≤ sizeLine; decide, fun f hf => ?_⟩
      have R3 : IL [.int d] 1 := IL.one (by omega)
      refine ⟨a, f, _, _, rfl, rfl, at_old ha7 hf, upd_same, R1.sz R3 (by decide), fun g hg => ?_⟩
      refine ⟨.ref p, rfl, _, rfl, _, rfl, p, _, rfl, SqL.of (at_old (at_old hp7 hf) hg), fun k hk => ?_⟩
      have R2 := R.cut (some at0) none
      generalize cutV ((rowL ds).map V.int) (some at0) none = L2 at R2
      refine ⟨g, k, _, _, rfl, rfl, at_old upd_same hk, upd_same, (R1.app R3).sz R2 (by decide), fun q hq => ?_⟩
      have s := (((same_new (o := .lst [.int d]) hf).trans (same_new (o := .lst (L1 ++ [.int d])) hg)).trans (same_new (o := .lst L2) hk)).trans (same_new (o := .lst (L1 ++ [.int d] ++ L2)) hq)
      exact fin _ q _ _ upd_same ((R1.app R3).app R2) (by decide) ((bag7.keep s).mono (by omega)) ((But.of (same_new ha)).trans (but7.trans (But.of s)))
    refine ⟨_, rfl, rfl, _, rfl, ite2 (fun _ => ?_) (fun _ => ?_)⟩
    case refine_1 =>
      refine ⟨.ref p, rfl, _, rfl, _, rfl, p, _, rfl, SqL.of hp3, fun a ha => ?_⟩
      have R1 := R.cut none (some at0)
      generalize cutV ((rowL ds).map V.int) none (some at0) = L1 at R1
      refine ⟨_, rfl, es, M, rfl, fun H7 o s7 o0 ho => ?_⟩
      refine ⟨_, rfl, _, rfl, o, _, rfl, SqL.of ho, fun k hk => ?_⟩
      have R2 := (IL.row M).cut (some at0) none
      generalize cutV ((rowL es).map V.int) (some at0) none = L2 at R2
      refine ⟨a, k, _, _, rfl, rfl, at_old (s7 _ _ upd_same) hk, upd_same, R1.sz R2 (by decide), fun q hq => ?_⟩
      have s := (((same_new (o := .lst L1) ha).trans s7).trans (same_new (o := .lst L2) hk)).trans (same_new (o := .lst (L1 ++ L2)) hq)
      exact fin _ q _ _ upd_same (R1.app R2) (by decide) ((bag3.keep s).mono (by omega)) (But.of s)
    refine ⟨_, rfl, rfl, _, rfl, ite2 (fun _ => ?_) (fun _ => ?_)⟩
    case refine_1 =>
      refine ⟨_, rfl, _, rfl, es, M, rfl, fun H7 o s7 o0 ho => ?_⟩
      refine ⟨p, o, _, _, rfl, rfl, s7 _ _ hp3, ho, R.sz (IL.row M) (by decide), fun q hq => ?_⟩
      have s := s7.trans (same_new (o := .lst ((rowL ds).map V.int ++ (rowL es).map V.int)) hq)
      exact fin _ q _ _ upd_same (R.app (IL.row M)) (by decide) ((bag3.keep s).mono (by omega)) (But.of s)
    refine ⟨_, rfl, rfl, _, rfl, ite2 (fun _ => ?_) (fun _ => ?_)⟩
    case refine_1 =>
      refine ⟨.ref p, rfl, _, rfl, p, _, rfl, .inl (SqL.of hp3), _, _, rfl, rfl, ?_⟩
      refine ⟨_, rfl, b, _, 6, rfl, by decide, by decide, bag3, by omega, fun H7 d d0 d8 bag7 but7 => ?_⟩
      refine ⟨_, _, rfl, rfl, _, rfl, p, _, rfl, SqL.of (but7 _ _ pb hp3), fun q hq => ?_⟩
      exact fin _ q _ _ upd_same (R.cut _ _) (by decide) ((bag7.keep (same_new hq)).mono (by omega)) (but7.trans (But.of (same_new hq)))
    refine ⟨_, rfl, rfl, _, rfl, ite2 (fun _ => ?_) (fun _ => ?_)⟩
    case refine_1 =>
      refine ⟨.ref p, rfl, ?_⟩
      refine ⟨_, rfl, b, _, 6, rfl, by decide, by decide, bag3, by omega, fun H7 d d0 d8 bag7 but7 => ?_⟩
      refine ⟨_, _, rfl, rfl, _, rfl, p, _, rfl, SqL.of (but7 _ _ pb hp3), fun q hq => ?_⟩
      exact fin _ q _ _ upd_same (R.cut _ _) (by decide) ((bag7.keep (same_new hq)).mono (by omega)) (but7.trans (But.of (same_new hq)))
    refine ⟨by decide, fun a ha => ?_⟩
    have ab : a ≠ b := (ne_of_none hb3 ha).symm
    refine ⟨_, rfl, b, _, 4, rfl, by decide, by decide, bag3.keep (same_new ha), by omega, fun H7 d d0 d8 bag7 but7 => ?_⟩
    have ha7 : H7 a = some (.lst [.int 1, .int 0]) := but7 _ _ ab upd_same
    refine ⟨_, _, rfl, rfl, a, _, _, rfl, rfl, ha7, by omega, by omega, by show 2 * (9 + d).toNat ≤ _; exact Nat.le_of_lt (small1000 (by omega)), fun f hf => ?_⟩
    rw [blk_V]
    have R1 : IL ((Wm.blk (9 + d).toNat).map V.int) 40 := IL.blk (by omega)
    generalize (Wm.blk (9 + d).toNat).map V.int = L1 at R1
    refine ⟨by decide, fun z hz => ?_⟩
    refine ⟨f, z, _, _, rfl, rfl, at_old upd_same hz, upd_same, R1.sz IL.zz (by decide), fun g hg => ?_⟩
    have s9 := ((same_new (o := .lst L1) hf).trans (same_new (o := .lst [.int 0, .int 0]) hz)).trans (same_new (o := .lst (L1 ++ [.int 0, .int 0])) hg)
    refine ⟨_, rfl, es, M, rfl, fun H10 o s10 o0 ho => ?_⟩
    refine ⟨g, o, _, _, rfl, rfl, s10 _ _ upd_same, ho, (R1.app IL.zz).sz (IL.row M) (by decide), fun q hq => ?_⟩
    have s := (s9.trans s10).trans (same_new (o := .lst (L1 ++ [.int 0, .int 0] ++ (rowL es).map V.int)) hq)
    exact fin _ q _ _ upd_same ((R1.app IL.zz).app (IL.row M)) (by decide) ((bag7.keep s).mono (by omega)) ((But.of (same_new ha)).trans (but7.trans (But.of s)))
end
end K01
namespace K01
open PySem L2 Wm TL
section
variable {P : Program} {w : World} {K : PySem.W.Frag} {mg : Str → Option Value} {base : Heap}
theorem eqv_nil : ∀ ds : List PyData, PyData.eqv (.list ds) (.list []) = decide (ds = [])
  | [] => by simp [PyData.eqv, PyData.eqvAll]
  | d :: ds => by simp [PyData.eqv, PyData.eqvAll]
theorem shaped_intsL (ns : List Int) : SeqAt.shaped (.list (ns.map PyData.int)) = true := PySem.W.ke_shaped_ints ns
theorem odd_none {xs : List V} (h : xs.filter (fun x => !isI x) ≠ []) : Told xs .non := by
  refine .inr ⟨fun es M f => h ?_, rfl⟩
  rw [f, List.filter_eq_nil_iff]
  intro x m
  obtain ⟨z, _, rfl⟩ := List.mem_map.mp m
  simp [isI]
theorem no_odd {xs : List V} (h : xs.filter (fun x => !isI x) = []) : ∃ zs : List Int, xs = zs.map V.int := by
  rw [List.filter_eq_nil_iff] at h
  refine all_ints fun x m => ?_
  have := h x m
  simpa using this
def tI (S : List Nat) : List Int := S.map fun (k : Nat) => (k : Int)
theorem ones_take {zs : List Int} {i : Nat} {z : Int} (h : zs[i]? = some z) : ones 0 (zs.take (i + 1)) = ones 0 (zs.take i) ++ (if z = 1 then [i] else []) := by
  have hi := (List.getElem?_eq_some_iff.mp h).1
  rw [take_succ_app h, ones_app, List.length_take, Nat.zero_add, Nat.min_eq_left (Nat.le_of_lt hi)]
  rfl
theorem ones_le : ∀ (zs : List Int) (o : Nat), (ones o zs).length ≤ zs.length
  | [], _ => Nat.le_refl _
  | z :: zs, o => by
    have ih := ones_le zs (o + 1)
    show (if z = 1 then o :: ones (o + 1) zs else ones (o + 1) zs).length ≤ zs.length + 1
    by_cases c : z = 1
    · rw [if_pos c, List.length_cons]; omega
    · rw [if_neg c]; omega
theorem ones_lt {zs : List Int} {k : Nat} (h : k ∈ ones 0 zs) : k < zs.length := by
  obtain ⟨j, e, q⟩ := (ones_mem _ _ _).mp h
  have := (List.getElem?_eq_some_iff.mp q).1
  omega
theorem first_of {zs : List Int} (h : ∀ es, Num es → (ones 0 (rowL es))[0]? = some 0 → zs ≠ rowL es) : Told (zs.map V.int) .non := by
  refine .inr ⟨fun es M f => ?_, rfl⟩
  cases es with
  | nil => have := M.pos; cases this
  | cons d es => exact h (d :: es) M (first_row d es (M.dig d (by simp)).1) (map_int_inj f)
theorem last_of {S A : List Nat} {i x : Nat} (h : S.take (i + 1) = A ++ [x]) (l : i + 1 ≤ S.length) : S[i]? = some x := by
  have e := congrArg List.length h
  rw [List.length_take, List.length_append, List.length_singleton, Nat.min_eq_left l] at e
  have q : (S.take (i + 1))[i]? = some x := by
    rw [h, List.getElem?_append_right (by omega), show i - A.length = 0 by omega]
    rfl
  rw [List.getElem?_take_of_lt (Nat.lt_succ_self i)] at q
  exact q
theorem tI_app (s : List Nat) (d : Nat) : (tI (s ++ [d])).map V.int = (tI s).map V.int ++ [.int (d : Nat)] := by
  unfold tI
  rw [List.map_append, List.map_append]
  rfl
theorem tI_at {S : List Nat} {i x : Nat} (h : S[i]? = some x) : ((tI S).map V.int)[i]? = some (.int (x : Nat)) := by
  unfold tI
  rw [List.getElem?_map, List.getElem?_map, h]
  rfl
theorem ixN_last (n : Nat) : ixN (n + 1) (-1) = some n := by
  unfold ixN
  rw [if_neg (by decide), if_pos (by omega)]
  congr 1
  omega
theorem at_last (l : List V) (x : V) : atI (l ++ [x]) (-1) = some x := by
  unfold atI
  rw [List.length_append, List.length_singleton, ixN_last]
  show (l ++ [x])[l.length]? = _
  rw [List.getElem?_append_right (Nat.le_refl _), Nat.sub_self]
  rfl
theorem set_last (l : List V) (x y : V) : (l ++ [x]).set l.length y = l ++ [y] := by
  rw [List.set_append_right _ _ (Nat.le_refl _), Nat.sub_self]
  rfl
theorem ok_read (T : Txt K mg) : FnOk P w K mg base CX0 2 T.a_read T.d_read ["_law_row_here"] (sp_read K) := by
  refine T.F_read.ok sc_read (fun vs H Q E h => ?_) (fun cdv A outer s H vs Q E hr h => ?_)
  · obtain ⟨p, xs, rfl, _⟩ := h
    rfl
  · obtain ⟨p, xs, rfl, hS, it, hlen, kk⟩ := h
    refine ⟨_, (pss_cons (ps_if (pt_cmpR (op_neD hr.units) (pe_lc (own := [("_law_tick", 1)]) (g := gName 1) rfl sc_read.nd (pi_list (pv 0)) (blkOk_by (own := [("_law_tick", 1)]) (N := nm_read) (sc := defScope s_read) (by decide +kernel)) (fun _ _ _ _ _ => pg_name (i := 1) sc_read.nd rfl (Or.inl rfl)) (fun _ _ _ _ _ => (pts_one (pt_not (pt_val (pe_call (ok_plain T) (hr.mono (by decide)) (by rfl) T.g_plain T.F_plain.kp T.b_plain .nil pass0 (pa_cons (pv 1) pa_nil)))))) (fun _ _ _ _ _ => (pv 1))) (pe_lst pa_nil) (nomark _))
        (pss_one (ps_ret pe_non))
        pss_nil)
      (pss_cons (ps_setLc (i := 2) (own := [("_law_at", 3)]) (g := gName 3) rfl sc_read.nd rfl rfl (sw_true rfl rfl rfl (by decide +kernel)) (pi_range1 (by rfl) T.z_range (pa_cons (pe_callB call_len_seq (by rfl) T.z_len PySem.boot_len (pa_cons (pv 0) pa_nil)) pa_nil)) (blkOk_by (own := [("_law_at", 3)]) (N := nm_read) (sc := defScope s_read) (by decide +kernel)) (fun _ _ _ _ _ => pg_name (i := 3) sc_read.nd rfl (Or.inl rfl)) (fun _ _ _ _ _ => (pts_one (pt_cmpR op_eq (pe_ix (show IxR _ (rIxL K) from ix_list) (pv 0) (pv 3) (fun _ _ => rfl)) pe_int (nomark _)))) (fun _ _ _ _ _ => (pv 3)))
      (pss_cons (ps_if (PW.pt (pw_or (pt_cmpR (op_eqD hr.units) (pv 2) (pe_lst pa_nil) (nomark _)) (pw_or1 (pt_cmpR op_ne (pe_ix ix_list (pv 2) pe_int (fun _ _ => rfl)) pe_int (nomark _)))))
        (pss_one (ps_ret pe_non))
        pss_nil)
      (pss_cons (ps_set (i := 4) sc_read.nd rfl (Or.inl rfl) (pe_lst (pa_cons pe_int pa_nil)))
      (pss_cons (ps_for PassesOwn.never rfl (pi_range2 (by rfl) T.z_range (pa_cons pe_int (pa_cons (pe_callB call_len_seq (by rfl) T.z_len PySem.boot_len (pa_cons (pv 2) pa_nil)) pa_nil))) (pg_name (i := 5) sc_read.nd rfl (Or.inl rfl))
        (pss_cons (ps_set (i := 6) sc_read.nd rfl (Or.inl rfl) (pe_op op_sub (pe_ix ix_list (pv 2) (pv 5) (fun _ _ => rfl)) (pe_ix ix_list (pv 2) (pe_op op_sub (pv 5) pe_int) (fun _ _ => rfl))))
        (pss_one (ps_if (pt_cmpR op_eq (pv 6) pe_int (nomark _))
          (pss_one (ps_asg (pe_op op_add (pe_ix ix_list (pv 4) (pe_un un_neg pe_int) (fun _ _ => rfl)) pe_int) (pg_sub (pv 4) (pe_un un_neg pe_int) set_list)))
          (pss_one (ps_if (pt_cmpR op_eq (pv 6) pe_int (nomark _))
            (pss_one (ps_expr (pe_bm PySem.F.plainAttrs_list PySem.F.slot_list_append PySem.F.type_list_append mt_append (pv 4) (pa_cons pe_int pa_nil))))
            (pss_one (ps_ret pe_non))))))))
      (pss_cons (ps_if (PW.pt (pw_or (pt_cmpR op_gt (pe_callB (cr_max rfl) (by rfl) T.z_max (by decide +kernel) (pa_cons (pv 4) pa_nil)) pe_int (nomark _)) (pw_or (pt_cmpR op_gt (pe_callB call_len_seq (by rfl) T.z_len PySem.boot_len (pa_cons (pv 4) pa_nil)) pe_int (nomark _)) (pw_or1 (pt_cmpR op_gt (pe_callB (cr_sum rfl) (by rfl) T.z_sum (by decide +kernel) (pa_cons (pv 4) pa_nil)) pe_int (nomark _))))))
        (pss_one (ps_ret pe_non))
        pss_nil)
      (pss_cons (ps_set (i := 7) sc_read.nd rfl (Or.inl rfl) (pe_join pe_str (pe_lc (own := [("_law_size", 8)]) (g := gName 8) (tt := tYes) rfl sc_read.nd (pi_list (pv 4)) (blkOk_by (own := [("_law_size", 8)]) (N := nm_read) (sc := defScope s_read) (by decide +kernel)) (fun _ _ _ _ _ => pg_name (i := 8) sc_read.nd rfl (Or.inl rfl)) (fun _ _ _ _ _ => pts_nil) (fun _ _ _ _ _ => (pe_callTy call_str_int (by rfl) T.z_str (by decide +kernel) (pa_cons (pv 8) pa_nil))))))
      (pss_cons (ps_if (pt_cmpR (op_neD hr.units) (pe_call (ok_row T) (hr.mono (by decide)) (by rfl) T.g_row T.F_row.kp T.b_row .nil pass0 (pa_cons (pv 7) pa_nil)) (pv 0) (nomark _))
        (pss_one (ps_ret pe_non))
        pss_nil)
      (pss_one (ps_ret (pv 7))))))))))), ?_⟩
    refine ⟨_, rfl, p, rfl, ⟨_, hS⟩, fun D hD => ?_⟩
    refine lc_list (xs := xs) (fun i H' => Same H H' ∧ H' D = some (.lst ((xs.take i).filter (fun x => !isI x)))) ⟨same_new hD, upd_same⟩ (fun i H' _ hP => sqL_keep hP.1 hS) (fun i x H1 hx hP => ?_) (fun H1 hP => ?_)
    · obtain ⟨sm, hL⟩ := hP
      refine ⟨rfl, ?_⟩
      refine ⟨_, rfl, x, rfl, (it x (List.mem_of_getElem? hx)).keep sm, isI x, rfl, ?_⟩
      have hi := (List.getElem?_eq_some_iff.mp hx).1
      have e : (xs.take (i + 1)).filter (fun x => !isI x) = (xs.take i).filter (fun x => !isI x) ++ (if (!isI x) = true then [x] else []) := by
        rw [take_succ_app hx, List.filter_append, List.filter_cons, List.filter_nil]
      refine ite2 (fun c => ?_) (fun c => ?_)
      · refine ⟨_, rfl, _, hL, small1000 (Nat.le_trans (List.length_filter_le _ _) (by rw [List.length_take]; omega)), same_mut sm hD, ?_⟩
        rw [upd_same, e, if_pos c]
      · rw [e, if_neg c, List.append_nil]
        exact ⟨sm, hL⟩
    · obtain ⟨sm, hL⟩ := hP
      rw [List.take_length] at hL
      refine ⟨Nat.zero_le _, fun E1 hE1 => ?_⟩
      have s1 := sm.trans (same_new (o := .lst []) hE1)
      obtain ⟨dd, dp, tk, dl⟩ := items_data (K := K) (H := upd H1 E1 (.lst [])) (xs := xs.filter (fun x => !isI x)) fun x m => (it x (List.mem_filter.mp m).1).keep s1
      refine ⟨_, _, .lst (SqL.of (at_old hL hE1)) dp, .lst (SqL.of upd_same) .nil, tks_shaped tk, by decide +kernel, _, rfl, ?_⟩
      rw [eqv_nil]
      refine ite2 (fun c => ?_) (fun c => ?_)
      · refine kk _ _ s1 (odd_none fun z => ?_)
        rw [z] at dl
        rw [List.eq_nil_of_length_eq_zero dl] at c
        cases c
      have c0 : xs.filter (fun x => !isI x) = [] := by
        have : dd = [] := by
          by_cases z : dd = []
          · exact z
          · exact absurd (by rw [decide_eq_false z]; rfl) c
        rw [this] at dl
        exact List.eq_nil_of_length_eq_zero dl.symm
      obtain ⟨zs, rfl⟩ := no_odd c0
      rw [List.length_map] at hlen
      have hS1 := sqL_keep s1 hS
      have hl0 : (((zs.map V.int).length : Nat) : Int) = ((zs.length : Nat) : Int) := by rw [List.length_map]
      refine ⟨_, rfl, p, _, rfl, .inl hS1, _, rfl, by omega, by omega, ?_⟩
      rw [List.length_map, Int.toNat_natCast]
      intro D2 hD2
      have n0 := s1.free hD2
      refine lc_it walk_range (fun i H' => Same (upd H1 E1 (.lst [])) H' ∧ H' D2 = some (.lst ((tI (ones 0 (zs.take i))).map V.int))) ⟨same_new hD2, upd_same⟩ (fun _ _ _ _ => trivial) (fun i x H2 H' hi hP hY => ?_) (fun H2 hP => ?_)
      · obtain ⟨sm2, hL2⟩ := hP
        obtain ⟨rfl, hx⟩ := hY
        have hx : x = .int (i : Nat) := hx.trans (congrArg V.int (Int.zero_add _))
        subst hx
        refine ⟨rfl, ?_⟩
        have hz : zs[i]? = some zs[i] := List.getElem?_eq_getElem hi
        have hv : (zs.map V.int)[i]? = some (.int zs[i]) := by rw [List.getElem?_map, hz]; rfl
        refine ⟨_, rfl, _, rfl, p, _, _, _, rfl, rfl, sqL_keep sm2 hS1, atI_nat hv, rfl, _, rfl, ?_⟩
        refine ite2 (fun c => ?_) (fun c => ?_)
        · have c1 : zs[i] = 1 := V.int.inj (of_decide_eq_true c)
          refine ⟨_, rfl, _, hL2, ?_, same_mut sm2 hD2, ?_⟩
          · rw [List.length_map]
            unfold tI
            rw [List.length_map]
            exact small1000 (Nat.le_trans (ones_le _ _) (by rw [List.length_take]; omega))
          · rw [upd_same, ones_take hz, if_pos c1]
            unfold tI
            rw [List.map_append, List.map_append]
            rfl
        · have c1 : zs[i] ≠ 1 := fun z => c (decide_eq_true (by rw [z]))
          rw [ones_take hz, if_neg c1, List.append_nil]
          exact ⟨sm2, hL2⟩
      · obtain ⟨sm2, hL2⟩ := hP
        rw [List.take_length] at hL2
        have s2 := s1.trans sm2
        refine ⟨_, rfl, ?_⟩
        refine ⟨by decide, fun E2 hE2 => ?_⟩
        refine ⟨_, _, .lst (SqL.of (at_old hL2 hE2)) (dp_ints _), .lst (SqL.of upd_same) (dp_ints []), shaped_intsL _, shaped_intsL _, _, rfl, ?_⟩
        have s3 := s2.trans (same_new (o := .lst []) hE2)
        rw [eqv_lst_iff]
        refine ite2 (fun c => ?_) (fun c => ?_)
        · refine kk _ _ s3 (first_of fun es M q z => ?_)
          have c' : tI (ones 0 zs) = [] := of_decide_eq_true c
          rw [z] at c'
          rw [List.map_eq_nil_iff.mp c'] at q
          cases q
        have hne : ones 0 zs ≠ [] := fun z => c (decide_eq_true (by rw [z]; rfl))
        obtain ⟨s0, S', eS⟩ : ∃ s0 S', ones 0 zs = s0 :: S' := by
          cases q : ones 0 zs with
          | nil => exact absurd q hne
          | cons a b => exact ⟨a, b, rfl⟩
        have hat0 : atI ((tI (ones 0 zs)).map V.int) 0 = some (.int (s0 : Nat)) := by
          rw [eS]
          show atI _ ((0 : Nat) : Int) = _
          exact atI_nat rfl
        have hD2a : SqL K (upd H2 E2 (.lst [])) D2 ((tI (ones 0 zs)).map V.int) := SqL.of (at_old hL2 hE2)
        refine ⟨_, rfl, D2, _, 0, _, rfl, rfl, hD2a, hat0, rfl, _, rfl, ?_⟩
        refine ite2 (fun c2 => ?_) (fun c2 => ?_)
        · refine kk _ _ s3 (first_of fun es M q z => ?_)
          rw [← z, eS] at q
          have q : s0 = 0 := Option.some.inj q
          rw [q] at c2
          cases c2
        have hs0 : s0 = 0 := by
          by_cases z : s0 = 0
          · exact z
          · exact absurd (by rw [decide_eq_false (fun y => z (by have := V.int.inj y; omega))]; rfl) c2
        subst hs0
        have hSlen : (ones 0 zs).length ≤ 1000 := Nat.le_trans (ones_le _ _) hlen
        have hlt : ∀ k ∈ ones 0 zs, k < 1000 := fun k m => by have := ones_lt m; omega
        have hSpos : 1 ≤ (ones 0 zs).length := by rw [eS]; simp
        have hfst : (ones 0 zs).take 1 = [0] := by rw [eS]; rfl
        have hsteps : ∀ es, Num es → zs = rowL es → St (ones 0 zs) := fun es M z => by rw [z]; exact (steps_row es (fun d m => (M.dig d m).1) 0).1
        generalize hSS : ones 0 zs = S at *
        refine ⟨by decide, fun Z hZ => ?_⟩
        have hZ0 := s3.free hZ
        refine ⟨_, rfl, D2, _, rfl, .inl (sqL_keep (same_new hZ) hD2a), ?_⟩
        have htl : ((tI S).map V.int).length = S.length := by unfold tI; rw [List.length_map, List.length_map]
        have hn1 : ((((tI S).map V.int).length : Nat) : Int) = (S.length : Nat) := by rw [htl]
        refine ⟨_, _, rfl, ⟨by decide, by decide, by omega, by omega⟩, ?_⟩
        have eN : (((((tI S).map V.int).length : Nat) : Int) - 1).toNat = S.length - 1 := by omega
        rw [eN]
        have hDZ : D2 ≠ Z := ne_of_none (at_old hL2 hE2) hZ
        refine for_it walk_range (fun i σ H' => ∃ (s : List Nat) (e : Nat) (u v : Option V), (∀ d ∈ s, 1 ≤ d) ∧ σ = (((((L2.start nm_read [V.ref p]).set 2 (some (.ref D2))).set 4 (some (.ref Z))).set 5 u).set 6 v) ∧ Same (upd H2 E2 (.lst [])) H' ∧
            H' Z = some (.lst ((tI (s ++ [e + 1])).map V.int)) ∧ S.take (i + 1) = ones 0 (Wm.pre s ++ blk (e + 1)) ∧ s.length + e ≤ i) ⟨[], 0, none, none, by simp, rfl, same_new hZ, upd_same, hfst, by simp⟩ (fun _ _ _ _ _ => trivial) (fun i x σ H3 H' hi hP hY => ?_) (fun σ H3 hP => ?_)
        · obtain ⟨s, e, u, v, hs, rfl, sm3, hZ3, htk, hse⟩ := hP
          obtain ⟨rfl, hx⟩ := hY
          have hx : x = .int ((i + 1 : Nat) : Int) := hx.trans (congrArg V.int (by omega))
          subst hx
          have hi2 : i + 1 < S.length := by omega
          have hSi : S[i]? = some ((Wm.pre s).length + 2 * e) := last_of (by rw [htk, step2]) (Nat.le_of_lt hi2)
          obtain ⟨b, hSb⟩ : ∃ b, S[i + 1]? = some b := ⟨_, List.getElem?_eq_getElem hi2⟩
          have hat1 : atI ((tI S).map V.int) ((i + 1 : Nat) : Int) = some (.int (b : Nat)) := atI_nat (tI_at hSb)
          have hatp : atI ((tI S).map V.int) (((i + 1 : Nat) : Int) - 1) = some (.int (((Wm.pre s).length + 2 * e : Nat) : Int)) := by
            rw [show (((i + 1 : Nat) : Int) - 1) = ((i : Nat) : Int) by omega]
            exact atI_nat (tI_at hSi)
          have hD3 : SqL K H' D2 ((tI S).map V.int) := sqL_keep sm3 hD2a
          have htk2 : S.take (i + 1 + 1) = S.take (i + 1) ++ [b] := take_succ_app hSb
          have sm03 := s3.trans sm3
          refine ⟨_, rfl, _, rfl, D2, _, _, _, rfl, rfl, hD3, hat1, _, rfl, _, rfl, _, _, rfl, rfl, D2, _, _, _, rfl, rfl, hD3, hatp, _, _, rfl, rfl, ?_⟩
          refine ⟨_, rfl, rfl, _, rfl, ite2 (fun c => ?_) (fun c => ?_)⟩
          · have cb : b = (Wm.pre s).length + 2 * e + 2 := by
              have := V.int.inj (of_decide_eq_true c)
              omega
            rw [tI_app] at hZ3
            refine ⟨_, rfl, 1, rfl, Z, _, -1, _, rfl, rfl, SqL.of hZ3, at_last _ _, _, _, rfl, rfl, _, rfl, 1, rfl, Z, _, -1, _, rfl, rfl, hZ3, by rw [List.length_append]; exact ixN_last _, ?_⟩
            rw [set_last]
            refine ⟨s, e + 1, _, _, hs, rfl, same_mut sm3 hZ, ?_, ?_, by omega⟩
            · rw [upd_same, tI_app]
              rfl
            · rw [htk2, htk, step2 s (e + 1), cb]
              congr 2
          · refine ⟨_, rfl, rfl, _, rfl, ite2 (fun c4 => ?_) (fun c4 => ?_)⟩
            · have cb : b = (Wm.pre s).length + 2 * e + 4 := by
                have := V.int.inj (of_decide_eq_true c4)
                omega
              refine ⟨.ref Z, rfl, .inl ⟨rfl, _, SqL.of hZ3⟩, Z, _, _, rfl, rfl, hZ3, ?_, ?_⟩
              · unfold tI
                rw [List.length_map, List.length_map, List.length_append, List.length_singleton]
                exact small1000 (by omega)
              refine ⟨s ++ [e + 1], 0, _, _, fun d m => ?_, rfl, same_mut sm3 hZ, ?_, ?_, by rw [List.length_append, List.length_singleton]; omega⟩
              · rcases List.mem_append.mp m with q | q
                · exact hs d q
                · rw [List.mem_singleton] at q
                  omega
              · rw [upd_same, tI_app (s ++ [e + 1])]
                rfl
              · rw [htk2, htk, step4 s (e + 1), cb]
                congr 2
            · refine kk _ _ sm03 (.inr ⟨fun es M f => ?_, rfl⟩)
              have q := hsteps es M (map_int_inj f) i _ _ hSi hSb
              rcases q with q | q
              · exact c (decide_eq_true (congrArg V.int (by omega)))
              · exact c4 (decide_eq_true (congrArg V.int (by omega)))
        · obtain ⟨s, e, u, v, hs, rfl, sm3, hZ3, htk, hse⟩ := hP
          rw [show S.length - 1 + 1 = S.length by omega, List.take_length, ← ones_row] at htk
          have sm03 := s3.trans sm3
          have hL1 : ∀ d ∈ s ++ [e + 1], 1 ≤ d := fun d m => by
            rcases List.mem_append.mp m with q | q
            · exact hs d q
            · rw [List.mem_singleton] at q
              omega
          have hLl : (s ++ [e + 1]).length ≤ 1001 := by rw [List.length_append, List.length_singleton]; omega
          have hLp : 1 ≤ (s ++ [e + 1]).length := by rw [List.length_append, List.length_singleton]; omega
          have huniq : ∀ es, Num es → zs.map V.int = (rowL es).map V.int → es = s ++ [e + 1] := fun es M f => by
            refine (ones_inj hL1 (fun d m => (M.dig d m).1) ?_).symm
            rw [← htk, ← hSS, map_int_inj f]
          generalize s ++ [e + 1] = L at *
          have hno : ¬ Num L → Told (zs.map V.int) .non := fun n => .inr ⟨fun es M f => n (by rw [← huniq es M f]; exact M), rfl⟩
          refine ⟨_, rfl, Z, tI L, rfl, SqL.of hZ3, by unfold tI; rw [List.length_map]; omega, fun m hm hmax => ?_⟩
          have hml : ∃ d ∈ L, ((d : Nat) : Int) = m := by
            unfold tI at hm
            obtain ⟨d, hd, e⟩ := List.mem_map.mp hm
            exact ⟨d, hd, e⟩
          have hsum : (tI L).sum = ((L.sum : Nat) : Int) := sum_cast L
          have htl2 : (((tI L).map V.int).length : Int) = (L.length : Nat) := by unfold tI; rw [List.length_map, List.length_map]
          refine ⟨_, _, rfl, rfl, _, rfl, ite2 (fun c => ?_) (fun c => ?_)⟩
          · have c1 : (9 : Int) < m := of_decide_eq_true c
            refine kk _ _ sm03 (hno fun N => ?_)
            obtain ⟨d, hd, e⟩ := hml
            have := (N.dig d hd).2
            omega
          refine ⟨_, rfl, Z, _, rfl, .inl (SqL.of hZ3), _, _, rfl, rfl, _, rfl, ite2 (fun c3 => ?_) (fun c3 => ?_)⟩
          · have c1 : (4 : Int) < (((tI L).map V.int).length : Int) := of_decide_eq_true c3
            refine kk _ _ sm03 (hno fun N => ?_)
            have := N.len
            omega
          refine ⟨_, rfl, Z, tI L, rfl, SqL.of hZ3, _, _, rfl, rfl, _, rfl, ite2 (fun c4 => ?_) (fun c4 => ?_)⟩
          · have c1 : (24 : Int) < (tI L).sum := of_decide_eq_true c4
            refine kk _ _ sm03 (hno fun N => ?_)
            have := N.sum
            omega
          have c1 : ¬ (9 : Int) < m := fun z => c (decide_eq_true z)
          have c31 : ¬ (4 : Int) < (((tI L).map V.int).length : Int) := fun z => c3 (decide_eq_true z)
          have c41 : ¬ (24 : Int) < (tI L).sum := fun z => c4 (decide_eq_true z)
          have N : Num L := ⟨hLp, by omega, fun d hd => ⟨hL1 d hd, by
            have q := hmax (d : Int) (List.mem_map.mpr ⟨d, hd, rfl⟩)
            omega⟩, by omega⟩
          refine ⟨⟨_, rfl⟩, ?_⟩
          refine ⟨_, rfl, Z, rfl, ⟨_, SqL.of hZ3⟩, fun D4 hD4 => ?_⟩
          refine lc_list (xs := (tI L).map V.int) (fun i H' => Same H3 H' ∧ H' D4 = some (.lst (((L.map decS).take i).map V.str))) ⟨same_new hD4, upd_same⟩ (fun i H' _ hP => SqL.of (hP.1 _ _ hZ3)) (fun i x H4 hx hP => ?_) (fun H4 hP => ?_)
          · obtain ⟨sm4, hL4⟩ := hP
            obtain ⟨y, hy, rfl⟩ := mapV_at hx
            unfold tI at hy
            rw [List.getElem?_map] at hy
            obtain ⟨d, hd, rfl⟩ := Option.map_eq_some_iff.mp hy
            have hd9 := (N.dig d (List.mem_of_getElem? hd)).2
            have hx2 : (L.map decS)[i]? = some (decS d) := by rw [List.getElem?_map, hd]; rfl
            refine ⟨rfl, yesT ?_⟩
            refine ⟨_, rfl, _, rfl, log_small (by omega), ?_⟩
            refine ⟨_, hL4, by rw [List.length_map, List.length_take, List.length_map]; exact small1000 (by have := N.len; omega), same_mut sm4 hD4, ?_⟩
            rw [upd_same]
            exact congrArg (fun l => some (HO.lst l)) (take_succ_map V.str hx2)
          · obtain ⟨sm4, hL4⟩ := hP
            rw [show ((tI L).map V.int).length = (L.map decS).length by unfold tI; rw [List.length_map, List.length_map, List.length_map], List.take_length] at hL4
            refine ⟨"", D4, L.map decS, rfl, rfl, .inl (SqL.of hL4), ?_, ?_⟩
            · have z0 : ("" : Str).length = 0 := by decide +kernel
              have q1 : ∀ g ∈ L, g ≤ 1000 := fun g m => by have := (N.dig g m).2; omega
              have q2 := dec_sum q1
              have := N.len
              rw [z0]
              omega
            rw [num_text N.dig]
            refine ⟨_, rfl, L, N, rfl, fun H5 q s5 q0 hq => ?_⟩
            have s05 := (sm03.trans sm4).trans s5
            refine ⟨_, rfl, _, _, .lst (SqL.of hq) (dp_ints _), .lst (sqL_keep s05 hS) (dp_ints _), shaped_intsL _, shaped_intsL _, _, rfl, ?_⟩
            rw [eqv_lst_iff]
            refine ite2 (fun c5 => ?_) (fun c5 => ?_)
            · refine kk _ _ s05 (.inr ⟨fun es M f => ?_, rfl⟩)
              have q1 := map_int_inj f
              rw [huniq es M f] at q1
              rw [decide_eq_true q1.symm] at c5
              cases c5
            · have q1 : rowL L = zs := by
                by_cases z : rowL L = zs
                · exact z
                · exact absurd (by rw [decide_eq_false z]; rfl) c5
              exact ⟨_, rfl, kk _ _ s05 (.inl ⟨L, N, by rw [q1], rfl⟩)⟩
end
end K01
namespace K01
open PySem L2 Wm TL
section
variable {P : Program} {w : World} {K : PySem.W.Frag} {mg : Str → Option Value} {base : Heap}
theorem tI_map (ds : List Nat) : (ds.map fun (d : Nat) => V.int (d : Int)) = (tI ds).map V.int := by
  unfold tI
  rw [List.map_map]
  rfl
theorem row_items {H : Hp} {ds : List Nat} (N : Num ds) : ∀ x ∈ (rowL ds).map V.int, Item K H x := (IL.row N).items
theorem ok_asked (T : Txt K mg) : FnOk P w K mg base CX0 6 T.a_asked T.d_asked ["_law_number_here"] (sp_asked K) := by
  refine T.F_asked.ok sc_asked (fun vs H Q E h => ?_) (fun cdv A outer s H vs Q E hr h => ?_)
  · obtain ⟨ds, _, rfl, _⟩ := h
    rfl
  · obtain ⟨ds, N, rfl, kk⟩ := h
    have hlen := N.len
    have hrow := row_le ds N
    refine ⟨_, (pss_cons (ps_set (i := 1) sc_asked.nd rfl (Or.inl rfl) (pe_call (ok_row T) (hr.mono (by decide)) (by rfl) T.g_row T.F_row.kp T.b_row .nil pass0 (pa_cons (pv 0) pa_nil)))
      (pss_cons (ps_set (i := 2) sc_asked.nd rfl (Or.inl rfl) (pe_call (ok_row_of T) (hr.mono (by decide)) (by rfl) T.g_row_of T.F_row_of.kp T.b_row_of .nil pass0 (pa_cons (pv 0) pa_nil)))
      (pss_cons (ps_if (PW.pt (pw_or (pt_not (pt_val (pe_callB call_isi (by rfl) T.z_isinstance (by decide +kernel) (pa_cons (pv 2) (pa_cons (pe_bltn (v := V.ty "tuple") (by rfl) T.z_tuple (by decide +kernel) rfl) pa_nil))))) (pw_or1 (pt_cmpR (op_neD hr.units) (pe_callTy call_list_of (by rfl) T.z_list (by decide +kernel) (pa_cons (pv 2) pa_nil)) (pv 1) (nomark _)))))
        (pss_one (ps_ret pe_bl))
        pss_nil)
      (pss_cons (ps_if (pt_cmpR (op_neD hr.units) (pe_lc (own := [("_law_tick", 3)]) (g := gName 3) rfl sc_asked.nd (pi_tup (pv 2)) (blkOk_by (own := [("_law_tick", 3)]) (N := nm_asked) (sc := defScope s_asked) (by decide +kernel)) (fun _ _ _ _ _ => pg_name (i := 3) sc_asked.nd rfl (Or.inl rfl)) (fun _ _ _ _ _ => (pts_one (pt_not (pt_val (pe_call (ok_plain T) (hr.mono (by decide)) (by rfl) T.g_plain T.F_plain.kp T.b_plain .nil pass0 (pa_cons (pv 3) pa_nil)))))) (fun _ _ _ _ _ => (pv 3))) (pe_lst pa_nil) (nomark _))
        (pss_one (ps_ret pe_bl))
        pss_nil)
      (pss_cons (ps_set (i := 4) sc_asked.nd rfl (Or.inl rfl) (pe_call (ok_length_of T) (hr.mono (by decide)) (by rfl) T.g_length_of T.F_length_of.kp T.b_length_of .nil pass0 (pa_cons (pv 0) pa_nil)))
      (pss_cons (ps_if (PW.pt (pw_or (pt_not (pt_val (pe_call (ok_plain T) (hr.mono (by decide)) (by rfl) T.g_plain T.F_plain.kp T.b_plain .nil pass0 (pa_cons (pv 4) pa_nil)))) (pw_or1 (pt_cmpR op_ne (pv 4) (pe_callB call_len_seq (by rfl) T.z_len PySem.boot_len (pa_cons (pv 1) pa_nil)) (nomark _)))))
        (pss_one (ps_ret pe_bl))
        pss_nil)
      (pss_cons (ps_set (i := 5) sc_asked.nd rfl (Or.inl rfl) (pe_call (ok_blocks T) (hr.mono (by decide)) (by rfl) T.g_blocks T.F_blocks.kp T.b_blocks .nil pass0 (pa_cons (pv 0) pa_nil)))
      (pss_cons (ps_if (PW.pt (pw_or (pt_not (pt_val (pe_callB call_isi (by rfl) T.z_isinstance (by decide +kernel) (pa_cons (pv 5) (pa_cons (pe_bltn (v := V.ty "tuple") (by rfl) T.z_tuple (by decide +kernel) rfl) pa_nil))))) (pw_or1 (pt_cmpR (op_neD hr.units) (pe_callTy call_list_of (by rfl) T.z_list (by decide +kernel) (pa_cons (pv 5) pa_nil)) (pe_lc (own := [("_law_sign", 6)]) (g := gName 6) (tt := tYes) rfl sc_asked.nd (pi_str (pv 0)) (blkOk_by (own := [("_law_sign", 6)]) (N := nm_asked) (sc := defScope s_asked) (by decide +kernel)) (fun _ _ _ _ _ => pg_name (i := 6) sc_asked.nd rfl (Or.inl rfl)) (fun _ _ _ _ _ => pts_nil) (fun _ _ _ _ _ => (pe_callTy call_int_str (by rfl) T.z_int (by decide +kernel) (pa_cons (pv 6) pa_nil)))) (nomark _)))))
        (pss_one (ps_ret pe_bl))
        pss_nil)
      (pss_cons (ps_if (pt_cmpR (op_neD hr.units) (pe_lc (own := [("_law_one", 7)]) (g := gName 7) rfl sc_asked.nd (pi_tup (pv 5)) (blkOk_by (own := [("_law_one", 7)]) (N := nm_asked) (sc := defScope s_asked) (by decide +kernel)) (fun _ _ _ _ _ => pg_name (i := 7) sc_asked.nd rfl (Or.inl rfl)) (fun _ _ _ _ _ => (pts_one (pt_not (pt_val (pe_call (ok_plain T) (hr.mono (by decide)) (by rfl) T.g_plain T.F_plain.kp T.b_plain .nil pass0 (pa_cons (pv 7) pa_nil)))))) (fun _ _ _ _ _ => (pv 7))) (pe_lst pa_nil) (nomark _))
        (pss_one (ps_ret pe_bl))
        pss_nil)
      (pss_one (ps_ret (pe_and (pe_cmpR op_eq (pe_call (ok_number_of T) (hr.mono (by decide)) (by rfl) T.g_number_of T.F_number_of.kp T.b_number_of .nil pass0 (pa_cons (pv 2) pa_nil)) (pv 0) (nomark _)) (pe_one (pe_cmpR op_eq (pe_call (ok_number_of T) (hr.mono (by decide)) (by rfl) T.g_number_of T.F_number_of.kp T.b_number_of .nil pass0 (pa_cons (pv 1) pa_nil)) (pv 0) (nomark _))))))))))))))), ?_⟩
    refine ⟨_, rfl, ds, N, rfl, fun H1 p s1 p0 hp => ?_⟩
    refine ⟨_, rfl, ds, N, rfl, fun H2 q s2 q0 hq => ?_⟩
    refine ⟨_, rfl, _, _, _, _, true, rfl, .ty "tuple", .base (.tup hq), kit_ty (by decide +kernel), true, rfl, iteF ?_⟩
    refine ⟨_, rfl, q, _, rfl, .inr (SqT.of hq), fun l hl => ?_⟩
    have hp2 := s2 _ _ hp
    refine ⟨_, rfl, _, _, .lst (SqL.of upd_same) (dp_ints _), .lst (SqL.of (at_old hp2 hl)) (dp_ints _), shaped_intsL _, shaped_intsL _, _, rfl, ?_⟩
    rw [eqv_lst_iff, decide_eq_true rfl]
    refine iteF ?_
    have hq2 := at_old (u := .lst ((rowL ds).map V.int)) hq hl
    have hp3 := at_old (u := .lst ((rowL ds).map V.int)) hp2 hl
    have sA : Same H (upd H2 l (.lst ((rowL ds).map V.int))) := (s1.trans s2).trans (same_new hl)
    generalize upd H2 l (.lst ((rowL ds).map V.int)) = H3 at *
    refine ⟨_, rfl, q, rfl, ⟨_, SqT.of hq2⟩, fun D hD => ?_⟩
    refine lc_tup (xs := (rowL ds).map V.int) (fun i H' => Same H3 H' ∧ H' D = some (.lst [])) ⟨same_new hD, upd_same⟩ (fun i H' _ hP => SqT.of (hP.1 _ _ hq2)) (fun i x H4 hx hP => ?_) (fun H4 hP => ?_)
    · obtain ⟨sm, hL⟩ := hP
      have itx := row_items (K := K) (H := H4) N x (List.mem_of_getElem? hx)
      obtain ⟨z, hz, rfl⟩ := mapV_at hx
      refine ⟨rfl, ?_⟩
      exact ⟨_, rfl, _, rfl, itx, true, rfl, iteF ⟨sm, hL⟩⟩
    obtain ⟨sm, hL⟩ := hP
    refine ⟨Nat.zero_le _, fun E1 hE1 => ?_⟩
    refine ⟨_, _, .lst (SqL.of (at_old hL hE1)) .nil, .lst (SqL.of upd_same) .nil, by decide +kernel, by decide +kernel, _, rfl, ?_⟩
    rw [eqv_nil]
    refine iteF ?_
    have sB := (sA.trans sm).trans (same_new (o := .lst []) hE1)
    have hp5 := at_old (u := .lst []) (sm _ _ hp3) hE1
    have hq5 := at_old (u := .lst []) (sm _ _ hq2) hE1
    generalize upd H4 E1 (.lst []) = H5 at *
    refine ⟨_, rfl, ds, N, rfl, fun H6 s6 => ?_⟩
    refine ⟨_, rfl, _, rfl, item_int (by omega), true, rfl, iteF ?_⟩
    refine ⟨_, rfl, _, rfl, p, _, rfl, .inl (SqL.of (s6 _ _ hp5)), rfl, _, rfl, ?_⟩
    rw [List.length_map, decide_eq_true rfl]
    refine iteF ?_
    refine ⟨_, rfl, ds, N, rfl, fun H7 t s7 t0 ht => ?_⟩
    rw [tI_map] at ht
    refine ⟨_, rfl, _, _, _, _, true, rfl, .ty "tuple", .base (.tup ht), kit_ty (by decide +kernel), true, rfl, iteF ?_⟩
    refine ⟨_, rfl, t, _, rfl, .inr (SqT.of ht), fun l2 hl2 => ?_⟩
    refine ⟨_, rfl, _, rfl, fun D2 hD2 => ?_⟩
    have hl2a : upd H7 l2 (.lst ((tI ds).map V.int)) l2 = some (.lst ((tI ds).map V.int)) := upd_same
    refine lc_it walk_str (fun i H' => Same (upd H7 l2 (.lst ((tI ds).map V.int))) H' ∧ H' D2 = some (.lst ((tI (ds.take i)).map V.int))) ⟨same_new hD2, upd_same⟩ (fun _ _ _ _ => trivial) (fun i x H8 H' hi hP hY => ?_) (fun H8 hP => ?_)
    · obtain ⟨sm2, hL2⟩ := hP
      obtain ⟨rfl, c, hc, rfl⟩ := hY
      rw [numS_size] at hi
      rw [numS_at ds i hi] at hc
      have hc' := (Option.some.inj hc).symm
      subst hc'
      refine ⟨rfl, yesT ?_⟩
      refine ⟨_, rfl, _, _, rfl, dig_int (N.dig _ (List.getElem_mem hi)), (by show 1 ≤ 640; decide), _, hL2, by unfold tI; rw [List.length_map, List.length_map, List.length_take]; exact small1000 (by omega), ?_⟩
      refine ⟨same_mut sm2 hD2, ?_⟩
      rw [upd_same, take_succ_app (List.getElem?_eq_getElem hi), tI_app]
    obtain ⟨sm2, hL2⟩ := hP
    rw [numS_size, List.take_length] at hL2
    refine ⟨_, _, .lst (SqL.of (sm2 _ _ hl2a)) (dp_ints _), .lst (SqL.of hL2) (dp_ints _), shaped_intsL _, shaped_intsL _, _, rfl, ?_⟩
    rw [eqv_lst_iff, decide_eq_true rfl]
    refine iteF ?_
    have s78 : Same H7 H8 := (same_new hl2).trans sm2
    have ht8 := s78 _ _ ht
    refine ⟨_, rfl, t, rfl, ⟨_, SqT.of ht8⟩, fun D3 hD3 => ?_⟩
    refine lc_tup (xs := (tI ds).map V.int) (fun i H' => Same H8 H' ∧ H' D3 = some (.lst [])) ⟨same_new hD3, upd_same⟩ (fun i H' _ hP => SqT.of (hP.1 _ _ ht8)) (fun i x H9 hx hP => ?_) (fun H9 hP => ?_)
    · obtain ⟨sm3, hL3⟩ := hP
      obtain ⟨z, hz, rfl⟩ := mapV_at hx
      have hz2 : z.natAbs < 1000000 := by
        unfold tI at hz
        rw [List.getElem?_map] at hz
        obtain ⟨d, hd, rfl⟩ := Option.map_eq_some_iff.mp hz
        have := (N.dig d (List.mem_of_getElem? hd)).2
        omega
      refine ⟨rfl, ?_⟩
      exact ⟨_, rfl, _, rfl, item_int hz2, true, rfl, iteF ⟨sm3, hL3⟩⟩
    obtain ⟨sm3, hL3⟩ := hP
    refine ⟨Nat.zero_le _, fun E2 hE2 => ?_⟩
    refine ⟨_, _, .lst (SqL.of (at_old hL3 hE2)) .nil, .lst (SqL.of upd_same) .nil, by decide +kernel, by decide +kernel, _, rfl, ?_⟩
    rw [eqv_nil]
    refine iteF ?_
    have s5X := ((s6.trans s7).trans s78).trans (sm3.trans (same_new (o := .lst []) hE2))
    have hpX := s5X _ _ hp5
    have hqX := s5X _ _ hq5
    refine ⟨_, rfl, q, _, rfl, .inr (SqT.of hqX), row_items N, by rw [List.length_map]; omega, fun HA v sa hv => ?_⟩
    rw [hv.row N]
    refine ⟨_, rfl, rfl, _, rfl, ?_⟩
    rw [decide_eq_true rfl]
    refine iteT ?_
    refine ⟨_, rfl, p, _, rfl, .inl (SqL.of (sa _ _ hpX)), row_items N, by rw [List.length_map]; omega, fun HB v2 sb hv2 => ?_⟩
    rw [hv2.row N]
    refine ⟨_, rfl, rfl, ?_⟩
    rw [decide_eq_true rfl]
    exact kk _ ((sB.trans s5X).trans (sa.trans sb))
end
end K01
namespace K01
open PySem L2 Wm TL
section
variable {P : Program} {w : World} {K : PySem.W.Frag} {mg : Str → Option Value} {base : Heap}
theorem scal_told {xs : List V} {v : V} (h : Told xs v) : scal v v = true := by
  rcases h with ⟨ds, _, _, rfl⟩ | ⟨_, rfl⟩ <;> rfl
theorem told_nil {v : V} (h : Told [] v) : v = .non := by
  rcases h with ⟨ds, N, e, _⟩ | ⟨_, e⟩
  · have q := congrArg List.length e
    rw [List.length_map, row_sum] at q
    have q : 0 = 2 * (ds.sum + ds.length + 1) := q
    omega
  · exact e
theorem ok_law (T : Txt K mg) : Rp.GOk P w K mg base CX0 7 T.a_law T.d_law ["_law_script"] (sp_law K) := by
  refine Rp.gok T.F_law sc_law (fun vs H Q E h => ?_) (fun cdv A outer s H vs Q E hg hr h => ?_)
  · obtain ⟨a, ns, rfl, _⟩ := h
    rfl
  · obtain ⟨a, ns, rfl, hS, hlen, kk⟩ := h
    refine ⟨_, (pss_cons (ps_set (i := 1) sc_law.nd rfl (Or.inl rfl) (pe_call (ok_bag T) (hr.mono (by decide)) (by rfl) T.g_bag T.F_bag.kp T.b_bag .nil pass0 (pa_cons (pv 0) pa_nil)))
      (pss_cons (ps_set (i := 2) sc_law.nd rfl (Or.inl rfl) (pe_call (ok_number T) (hr.mono (by decide)) (by rfl) T.g_number T.F_number.kp T.b_number .nil pass0 (pa_cons (pv 1) pa_nil)))
      (pss_cons (ps_set (i := 3) sc_law.nd rfl (Or.inl rfl) (pe_call (ok_number T) (hr.mono (by decide)) (by rfl) T.g_number T.F_number.kp T.b_number .nil pass0 (pa_cons (pv 1) pa_nil)))
      (pss_cons (ps_if (PW.pt (pw_or (pt_not (pt_val (pe_call (ok_asked T) (hr.mono (by decide)) (by rfl) T.g_asked T.F_asked.kp T.b_asked .nil pass0 (pa_cons (pv 2) pa_nil)))) (pw_or1 (pt_not (pt_val (pe_call (ok_asked T) (hr.mono (by decide)) (by rfl) T.g_asked T.F_asked.kp T.b_asked .nil pass0 (pa_cons (pv 3) pa_nil)))))))
        (pss_one (ps_ret pe_bl))
        pss_nil)
      (pss_cons (ps_for PassesOwn.never rfl (pi_range1 (by rfl) T.z_range (pa_cons pe_int pa_nil)) (pg_name (i := 4) sc_law.nd rfl (Or.inl rfl))
        (pss_cons (ps_set (i := 5) sc_law.nd rfl (Or.inl rfl) (pe_call (ok_bent T) (hr.mono (by decide)) (by rfl) T.g_bent T.F_bent.kp T.b_bent .nil pass0 (pa_cons (pv 1) (pa_cons (pv 2) (pa_cons (pv 3) pa_nil)))))
        (pss_cons (ps_set (i := 6) sc_law.nd rfl (Or.inl rfl) (pe_call (ok_read T) (hr.mono (by decide)) (by rfl) T.g_read T.F_read.kp T.b_read .nil pass0 (pa_cons (pv 5) pa_nil)))
        (pss_cons (ps_set (i := 7) sc_law.nd rfl (Or.inl rfl) (pe_callB (Rp.call_reprD hg hr.units) (by rfl) T.z_repr (by decide +kernel) (pa_cons (pv 5) pa_nil)))
        (pss_cons (ps_if (PW.pt (pw_or (pt_cmpR op_ne (pe_call (ok_number_of T) (hr.mono (by decide)) (by rfl) T.g_number_of T.F_number_of.kp T.b_number_of .nil pass0 (pa_cons (pv 5) pa_nil)) (pv 6) (nomark _)) (pw_or1 (pt_cmpR op_ne (pe_call (ok_number_of T) (hr.mono (by decide)) (by rfl) T.g_number_of T.F_number_of.kp T.b_number_of .nil pass0 (pa_cons (pe_callTy call_tuple_of (by rfl) T.z_tuple (by decide +kernel) (pa_cons (pv 5) pa_nil)) pa_nil)) (pv 6) (nomark _)))))
          (pss_one (ps_ret pe_bl))
          pss_nil)
        (pss_cons (ps_if (pt_cmpR op_ne (pe_callB (Rp.call_reprD hg hr.units) (by rfl) T.z_repr (by decide +kernel) (pa_cons (pv 5) pa_nil)) (pv 7) (nomark _))
          (pss_one (ps_ret pe_bl))
          pss_nil)
        (pss_one (ps_if (PW.pt (pw_and (pt_cmpR op_isN (pv 6) pe_non (nomark _)) (pw_and1 (pt_cmpR op_notN (pe_call (ok_number_of T) (hr.mono (by decide)) (by rfl) T.g_number_of T.F_number_of.kp T.b_number_of .nil pass0 (pa_cons (pv 5) pa_nil)) pe_non (nomark _)))))
          (pss_one (ps_ret pe_bl))
          pss_nil))))))))
      (pss_one (ps_ret (pe_and (pe_cmpR op_isN (pe_call (ok_number_of T) (hr.mono (by decide)) (by rfl) T.g_number_of T.F_number_of.kp T.b_number_of .nil pass0 (pa_cons (pe_lst pa_nil) pa_nil)) pe_non (nomark _)) (pe_one (pe_cmpR op_isN (pe_call (ok_number_of T) (hr.mono (by decide)) (by rfl) T.g_number_of T.F_number_of.kp T.b_number_of .nil pass0 (pa_cons (pe_tup pa_nil) pa_nil)) pe_non (nomark _))))))))))), ?_⟩
    refine ⟨_, rfl, a, ns, rfl, hS, hlen, fun H1 b s1 bag1 => ?_⟩
    refine ⟨_, rfl, b, 0, rfl, bag1, by decide, fun H2 n1 N1 bag2 but2 => ?_⟩
    refine ⟨_, rfl, b, _, rfl, bag2, by omega, fun H3 n2 N2 bag3 but3 => ?_⟩
    refine ⟨_, rfl, n1, N1, rfl, fun H4 s4 => ⟨true, rfl, iteF ?_⟩⟩
    refine ⟨_, rfl, n2, N2, rfl, fun H5 s5 => ⟨true, rfl, iteF ?_⟩⟩
    have bag5 := bag3.keep (s4.trans s5)
    refine ⟨4, rfl, by decide, by decide, ?_⟩
    refine for_range (fun i σ H' => Bag H' b (12 + 4 * i) ∧ ∃ x4 x5 x6 x7, σ = [some (.ref a), some (.ref b), some (.str (numS n1)), some (.str (numS n2)), x4, x5, x6, x7])
      ⟨bag5, _, _, _, _, rfl⟩ (fun i σ H' hi hP => ?_) (fun σ H' hP => ?_)
    · obtain ⟨bag, x4, x5, x6, x7, rfl⟩ := hP
      have hi4 : i < 4 := hi
      refine ⟨_, rfl, _, rfl, _, rfl, b, _, n1, n2, rfl, N1, N2, bag, by omega, fun H6 p xs hp it hl bag6 but6 => ?_⟩
      obtain ⟨dd, dp, tk, dl⟩ := items_data it
      have tsh := tks_show tk
      have tln := tks_shown tk (by omega)
      have tdp := (tks_lay tk).2
      refine ⟨_, rfl, p, xs, rfl, SqL.of hp, it, hl, fun H7 v s7 hv => ?_⟩
      refine ⟨_, rfl, .ref p, .list dd, rfl, .lst (SqL.of (s7 _ _ hp)) (tks_keep s7 dp tk), tsh.1, tsh.2.1, by simp only [PyData.depth]; omega, tln, ?_⟩
      refine ⟨_, rfl, p, xs, rfl, .inl (SqL.of (s7 _ _ hp)), fun x m => (it x m).keep s7, hl, fun H8 u s8 hu => ?_⟩
      have eu := hu.uniq hv
      subst eu
      have s68 := s7.trans s8
      refine ⟨_, rfl, scal_told hu, _, rfl, ?_⟩
      rw [decide_eq_true rfl]
      refine iteF ?_
      refine ⟨_, rfl, p, _, rfl, .inl ⟨SqL.of (s68 _ _ hp), fun q hq => ?_⟩⟩
      have s69 := s68.trans (same_new (o := .tup xs) hq)
      refine ⟨q, xs, rfl, .inr (SqT.of upd_same), fun x m => (it x m).keep s69, hl, fun H9 u2 s9 hu2 => ?_⟩
      have eu := hu2.uniq hu
      subst eu
      have s6a := s69.trans s9
      refine ⟨_, rfl, scal_told hu, _, rfl, ?_⟩
      rw [decide_eq_true rfl]
      refine iteF ?_
      refine ⟨_, rfl, .ref p, .list dd, rfl, .lst (SqL.of (s6a _ _ hp)) (tks_keep s6a dp tk), tsh.1, tsh.2.1, by simp only [PyData.depth]; omega, tln, ?_⟩
      refine ⟨_, rfl, rfl, _, rfl, ?_⟩
      rw [decide_eq_true rfl]
      refine iteF ?_
      refine ⟨_, rfl, rfl, _, rfl, ite2 (fun c => ?_) (fun _ => ?_)⟩
      · refine ⟨_, rfl, p, xs, rfl, .inl (SqL.of (s6a _ _ hp)), fun x m => (it x m).keep s6a, hl, fun HA u3 sa hu3 => ?_⟩
        have eu := hu3.uniq hu
        subst eu
        refine ⟨rfl, _, rfl, ?_⟩
        have c' : decide (u3 = V.non) = true := c
        rw [c']
        exact iteF ⟨(bag6.keep (s6a.trans sa)).mono (by omega), _, _, _, _, rfl⟩
      · exact ⟨(bag6.keep s6a).mono (by omega), _, _, _, _, rfl⟩
    · refine ⟨Nat.zero_le _, fun c hc => ?_⟩
      refine ⟨c, [], rfl, .inl (SqL.of upd_same), by simp, by decide, fun H6 v s6 hv => ?_⟩
      rw [told_nil hv]
      refine ⟨rfl, _, rfl, ?_⟩
      rw [decide_eq_true rfl]
      refine iteT ?_
      refine ⟨Nat.zero_le _, fun c2 hc2 => ?_⟩
      refine ⟨c2, [], rfl, .inr (SqT.of upd_same), by simp, by decide, fun H7 v2 s7 hv2 => ?_⟩
      rw [told_nil hv2]
      refine ⟨rfl, ?_⟩
      rw [decide_eq_true rfl]
      exact kk _
end
end K01
namespace K01
open PySem L2 Wm
theorem all_mk {l : PySem.W.OpenLaw} {w : World} {K : PySem.W.Frag} {h : Heap} {mg : Str → Option Value} {fa : Addr} (X : K.In h) (G : h.Ns mainGlobals mg) (hfa : mg "law" = some (.ref fa))
    {x_is_whole : Addr} {od_is_whole an_is_whole : Option Addr} {sl_is_whole : Array (Option Value)} {oc_is_whole kV_is_whole dc_is_whole pm_is_whole cd_is_whole ct_is_whole : Value}
    (a_is_whole : PySem.W.nsIn K mainGlobals "is_whole" = some (some (.ref x_is_whole)))
    (l_is_whole : K.lookup x_is_whole = some ⟨oc_is_whole, od_is_whole, .func (PySem.W.fnOf "is_whole" "is_whole" (defArgs s_is_whole) (defBody s_is_whole) (defScope s_is_whole) .none kV_is_whole dc_is_whole pm_is_whole an_is_whole cd_is_whole ct_is_whole), sl_is_whole⟩)
    (c_is_whole : PySem.W.codeIn K cd_is_whole "is_whole" = true) (k_is_whole : PySem.W.keepIn K (.ref x_is_whole) = true)
    {x_is_whole_within : Addr} {od_is_whole_within an_is_whole_within : Option Addr} {sl_is_whole_within : Array (Option Value)} {oc_is_whole_within kV_is_whole_within dc_is_whole_within pm_is_whole_within cd_is_whole_within ct_is_whole_within : Value}
    (a_is_whole_within : PySem.W.nsIn K mainGlobals "is_whole_within" = some (some (.ref x_is_whole_within)))
    (l_is_whole_within : K.lookup x_is_whole_within = some ⟨oc_is_whole_within, od_is_whole_within, .func (PySem.W.fnOf "is_whole_within" "is_whole_within" (defArgs s_is_whole_within) (defBody s_is_whole_within) (defScope s_is_whole_within) .none kV_is_whole_within dc_is_whole_within pm_is_whole_within an_is_whole_within cd_is_whole_within ct_is_whole_within), sl_is_whole_within⟩)
    (c_is_whole_within : PySem.W.codeIn K cd_is_whole_within "is_whole_within" = true) (k_is_whole_within : PySem.W.keepIn K (.ref x_is_whole_within) = true)
    {x_is_number : Addr} {od_is_number an_is_number : Option Addr} {sl_is_number : Array (Option Value)} {oc_is_number kV_is_number dc_is_number pm_is_number cd_is_number ct_is_number : Value}
    (a_is_number : PySem.W.nsIn K mainGlobals "is_number" = some (some (.ref x_is_number)))
    (l_is_number : K.lookup x_is_number = some ⟨oc_is_number, od_is_number, .func (PySem.W.fnOf "is_number" "is_number" (defArgs s_is_number) (defBody s_is_number) (defScope s_is_number) .none kV_is_number dc_is_number pm_is_number an_is_number cd_is_number ct_is_number), sl_is_number⟩)
    (c_is_number : PySem.W.codeIn K cd_is_number "is_number" = true) (k_is_number : PySem.W.keepIn K (.ref x_is_number) = true)
    {x_check_number : Addr} {od_check_number an_check_number : Option Addr} {sl_check_number : Array (Option Value)} {oc_check_number kV_check_number dc_check_number pm_check_number cd_check_number ct_check_number : Value}
    (a_check_number : PySem.W.nsIn K mainGlobals "check_number" = some (some (.ref x_check_number)))
    (l_check_number : K.lookup x_check_number = some ⟨oc_check_number, od_check_number, .func (PySem.W.fnOf "check_number" "check_number" (defArgs s_check_number) (defBody s_check_number) (defScope s_check_number) .none kV_check_number dc_check_number pm_check_number an_check_number cd_check_number ct_check_number), sl_check_number⟩)
    (c_check_number : PySem.W.codeIn K cd_check_number "check_number" = true) (k_check_number : PySem.W.keepIn K (.ref x_check_number) = true)
    {x_blocks : Addr} {od_blocks an_blocks : Option Addr} {sl_blocks : Array (Option Value)} {oc_blocks kV_blocks dc_blocks pm_blocks cd_blocks ct_blocks : Value}
    (a_blocks : PySem.W.nsIn K mainGlobals "blocks" = some (some (.ref x_blocks)))
    (l_blocks : K.lookup x_blocks = some ⟨oc_blocks, od_blocks, .func (PySem.W.fnOf "blocks" "blocks" (defArgs s_blocks) (defBody s_blocks) (defScope s_blocks) .none kV_blocks dc_blocks pm_blocks an_blocks cd_blocks ct_blocks), sl_blocks⟩)
    (c_blocks : PySem.W.codeIn K cd_blocks "blocks" = true) (k_blocks : PySem.W.keepIn K (.ref x_blocks) = true)
    {x_row_of : Addr} {od_row_of an_row_of : Option Addr} {sl_row_of : Array (Option Value)} {oc_row_of kV_row_of dc_row_of pm_row_of cd_row_of ct_row_of : Value}
    (a_row_of : PySem.W.nsIn K mainGlobals "row_of" = some (some (.ref x_row_of)))
    (l_row_of : K.lookup x_row_of = some ⟨oc_row_of, od_row_of, .func (PySem.W.fnOf "row_of" "row_of" (defArgs s_row_of) (defBody s_row_of) (defScope s_row_of) .none kV_row_of dc_row_of pm_row_of an_row_of cd_row_of ct_row_of), sl_row_of⟩)
    (c_row_of : PySem.W.codeIn K cd_row_of "row_of" = true) (k_row_of : PySem.W.keepIn K (.ref x_row_of) = true)
    {x_length_of : Addr} {od_length_of an_length_of : Option Addr} {sl_length_of : Array (Option Value)} {oc_length_of kV_length_of dc_length_of pm_length_of cd_length_of ct_length_of : Value}
    (a_length_of : PySem.W.nsIn K mainGlobals "length_of" = some (some (.ref x_length_of)))
    (l_length_of : K.lookup x_length_of = some ⟨oc_length_of, od_length_of, .func (PySem.W.fnOf "length_of" "length_of" (defArgs s_length_of) (defBody s_length_of) (defScope s_length_of) .none kV_length_of dc_length_of pm_length_of an_length_of cd_length_of ct_length_of), sl_length_of⟩)
    (c_length_of : PySem.W.codeIn K cd_length_of "length_of" = true) (k_length_of : PySem.W.keepIn K (.ref x_length_of) = true)
    {x_number_of : Addr} {od_number_of an_number_of : Option Addr} {sl_number_of : Array (Option Value)} {oc_number_of kV_number_of dc_number_of pm_number_of cd_number_of ct_number_of : Value}
    (a_number_of : PySem.W.nsIn K mainGlobals "number_of" = some (some (.ref x_number_of)))
    (l_number_of : K.lookup x_number_of = some ⟨oc_number_of, od_number_of, .func (PySem.W.fnOf "number_of" "number_of" (defArgs s_number_of) (defBody s_number_of) (defScope s_number_of) .none kV_number_of dc_number_of pm_number_of an_number_of cd_number_of ct_number_of), sl_number_of⟩)
    (c_number_of : PySem.W.codeIn K cd_number_of "number_of" = true) (k_number_of : PySem.W.keepIn K (.ref x_number_of) = true)
    {x_bag : Addr} {od_bag an_bag : Option Addr} {sl_bag : Array (Option Value)} {oc_bag kV_bag dc_bag pm_bag cd_bag ct_bag : Value}
    (a_bag : PySem.W.nsIn K mainGlobals "_law_bag" = some (some (.ref x_bag)))
    (l_bag : K.lookup x_bag = some ⟨oc_bag, od_bag, .func (PySem.W.fnOf "_law_bag" "_law_bag" (defArgs s_bag) (defBody s_bag) (defScope s_bag) .none kV_bag dc_bag pm_bag an_bag cd_bag ct_bag), sl_bag⟩)
    (c_bag : PySem.W.codeIn K cd_bag "_law_bag" = true) (k_bag : PySem.W.keepIn K (.ref x_bag) = true)
    {x_draw : Addr} {od_draw an_draw : Option Addr} {sl_draw : Array (Option Value)} {oc_draw kV_draw dc_draw pm_draw cd_draw ct_draw : Value}
    (a_draw : PySem.W.nsIn K mainGlobals "_law_draw" = some (some (.ref x_draw)))
    (l_draw : K.lookup x_draw = some ⟨oc_draw, od_draw, .func (PySem.W.fnOf "_law_draw" "_law_draw" (defArgs s_draw) (defBody s_draw) (defScope s_draw) .none kV_draw dc_draw pm_draw an_draw cd_draw ct_draw), sl_draw⟩)
    (c_draw : PySem.W.codeIn K cd_draw "_law_draw" = true) (k_draw : PySem.W.keepIn K (.ref x_draw) = true)
    {x_number : Addr} {od_number an_number : Option Addr} {sl_number : Array (Option Value)} {oc_number kV_number dc_number pm_number cd_number ct_number : Value}
    (a_number : PySem.W.nsIn K mainGlobals "_law_number" = some (some (.ref x_number)))
    (l_number : K.lookup x_number = some ⟨oc_number, od_number, .func (PySem.W.fnOf "_law_number" "_law_number" (defArgs s_number) (defBody s_number) (defScope s_number) .none kV_number dc_number pm_number an_number cd_number ct_number), sl_number⟩)
    (c_number : PySem.W.codeIn K cd_number "_law_number" = true) (k_number : PySem.W.keepIn K (.ref x_number) = true)
    {x_row : Addr} {od_row an_row : Option Addr} {sl_row : Array (Option Value)} {oc_row kV_row dc_row pm_row cd_row ct_row : Value}
    (a_row : PySem.W.nsIn K mainGlobals "_law_row" = some (some (.ref x_row)))
    (l_row : K.lookup x_row = some ⟨oc_row, od_row, .func (PySem.W.fnOf "_law_row" "_law_row" (defArgs s_row) (defBody s_row) (defScope s_row) .none kV_row dc_row pm_row an_row cd_row ct_row), sl_row⟩)
    (c_row : PySem.W.codeIn K cd_row "_law_row" = true) (k_row : PySem.W.keepIn K (.ref x_row) = true)
    {x_bent : Addr} {od_bent an_bent : Option Addr} {sl_bent : Array (Option Value)} {oc_bent kV_bent dc_bent pm_bent cd_bent ct_bent : Value}
    (a_bent : PySem.W.nsIn K mainGlobals "_law_bent" = some (some (.ref x_bent)))
    (l_bent : K.lookup x_bent = some ⟨oc_bent, od_bent, .func (PySem.W.fnOf "_law_bent" "_law_bent" (defArgs s_bent) (defBody s_bent) (defScope s_bent) .none kV_bent dc_bent pm_bent an_bent cd_bent ct_bent), sl_bent⟩)
    (c_bent : PySem.W.codeIn K cd_bent "_law_bent" = true) (k_bent : PySem.W.keepIn K (.ref x_bent) = true)
    {x_plain : Addr} {od_plain an_plain : Option Addr} {sl_plain : Array (Option Value)} {oc_plain kV_plain dc_plain pm_plain cd_plain ct_plain : Value}
    (a_plain : PySem.W.nsIn K mainGlobals "_law_plain" = some (some (.ref x_plain)))
    (l_plain : K.lookup x_plain = some ⟨oc_plain, od_plain, .func (PySem.W.fnOf "_law_plain" "_law_plain" (defArgs s_plain) (defBody s_plain) (defScope s_plain) .none kV_plain dc_plain pm_plain an_plain cd_plain ct_plain), sl_plain⟩)
    (c_plain : PySem.W.codeIn K cd_plain "_law_plain" = true) (k_plain : PySem.W.keepIn K (.ref x_plain) = true)
    {x_read : Addr} {od_read an_read : Option Addr} {sl_read : Array (Option Value)} {oc_read kV_read dc_read pm_read cd_read ct_read : Value}
    (a_read : PySem.W.nsIn K mainGlobals "_law_read" = some (some (.ref x_read)))
    (l_read : K.lookup x_read = some ⟨oc_read, od_read, .func (PySem.W.fnOf "_law_read" "_law_read" (defArgs s_read) (defBody s_read) (defScope s_read) .none kV_read dc_read pm_read an_read cd_read ct_read), sl_read⟩)
    (c_read : PySem.W.codeIn K cd_read "_law_read" = true) (k_read : PySem.W.keepIn K (.ref x_read) = true)
    {x_asked : Addr} {od_asked an_asked : Option Addr} {sl_asked : Array (Option Value)} {oc_asked kV_asked dc_asked pm_asked cd_asked ct_asked : Value}
    (a_asked : PySem.W.nsIn K mainGlobals "_law_asked" = some (some (.ref x_asked)))
    (l_asked : K.lookup x_asked = some ⟨oc_asked, od_asked, .func (PySem.W.fnOf "_law_asked" "_law_asked" (defArgs s_asked) (defBody s_asked) (defScope s_asked) .none kV_asked dc_asked pm_asked an_asked cd_asked ct_asked), sl_asked⟩)
    (c_asked : PySem.W.codeIn K cd_asked "_law_asked" = true) (k_asked : PySem.W.keepIn K (.ref x_asked) = true)
    {x_law : Addr} {od_law an_law : Option Addr} {sl_law : Array (Option Value)} {oc_law kV_law dc_law pm_law cd_law ct_law : Value}
    (a_law : PySem.W.nsIn K mainGlobals "law" = some (some (.ref x_law)))
    (l_law : K.lookup x_law = some ⟨oc_law, od_law, .func (PySem.W.fnOf "law" "law" (defArgs s_law) (defBody s_law) (defScope s_law) .none kV_law dc_law pm_law an_law cd_law ct_law), sl_law⟩)
    (c_law : PySem.W.codeIn K cd_law "law" = true) (k_law : PySem.W.keepIn K (.ref x_law) = true)
    {t_DIGITS : Tok} (n_DIGITS : PySem.W.nsIn K mainGlobals "DIGITS" = some (some (.str "123456789" t_DIGITS)))
    {t_MOST_DIGITS : Tok} (n_MOST_DIGITS : PySem.W.nsIn K mainGlobals "MOST_DIGITS" = some (some (.int 4 t_MOST_DIGITS)))
    {t_GREATEST_SUM : Tok} (n_GREATEST_SUM : PySem.W.nsIn K mainGlobals "GREATEST_SUM" = some (some (.int 24 t_GREATEST_SUM)))
    (z_all : PySem.W.nsIn K mainGlobals "all" = some none)
    (z_bool : PySem.W.nsIn K mainGlobals "bool" = some none)
    (z_int : PySem.W.nsIn K mainGlobals "int" = some none)
    (z_isinstance : PySem.W.nsIn K mainGlobals "isinstance" = some none)
    (z_len : PySem.W.nsIn K mainGlobals "len" = some none)
    (z_list : PySem.W.nsIn K mainGlobals "list" = some none)
    (z_max : PySem.W.nsIn K mainGlobals "max" = some none)
    (z_min : PySem.W.nsIn K mainGlobals "min" = some none)
    (z_range : PySem.W.nsIn K mainGlobals "range" = some none)
    (z_repr : PySem.W.nsIn K mainGlobals "repr" = some none)
    (z_str : PySem.W.nsIn K mainGlobals "str" = some none)
    (z_sum : PySem.W.nsIn K mainGlobals "sum" = some none)
    (z_tuple : PySem.W.nsIn K mainGlobals "tuple" = some none)
    : ∃ fd : FuncData, (∀ (s : Shared) (v : Value), BindsTo s fd ⟨[v], []⟩ [("_law_script", v)]) ∧ ∀ base : Heap, K.In base → base.Ns mainGlobals mg → Rp.GOk l.prog w K mg base CX0 7 fa fd ["_law_script"] (sp_law K) := by
  have e := hfa.symm.trans (PySem.W.mg_of X G a_law)
  cases e
  have F_is_whole := fun_mk (st := s_is_whole) l_is_whole c_is_whole k_is_whole
  have b_is_whole := F_is_whole.binds (ps := ["thing"]) fun _ _ _ _ _ _ us hl => match us, hl with | [_], _ => rfl
  have F_is_whole_within := fun_mk (st := s_is_whole_within) l_is_whole_within c_is_whole_within k_is_whole_within
  have b_is_whole_within := F_is_whole_within.binds (ps := ["thing", "low", "high"]) fun _ _ _ _ _ _ us hl => match us, hl with | [_, _, _], _ => rfl
  have F_is_number := fun_mk (st := s_is_number) l_is_number c_is_number k_is_number
  have b_is_number := F_is_number.binds (ps := ["thing"]) fun _ _ _ _ _ _ us hl => match us, hl with | [_], _ => rfl
  have F_check_number := fun_mk (st := s_check_number) l_check_number c_check_number k_check_number
  have b_check_number := F_check_number.binds (ps := ["thing"]) fun _ _ _ _ _ _ us hl => match us, hl with | [_], _ => rfl
  have F_blocks := fun_mk (st := s_blocks) l_blocks c_blocks k_blocks
  have b_blocks := F_blocks.binds (ps := ["number"]) fun _ _ _ _ _ _ us hl => match us, hl with | [_], _ => rfl
  have F_row_of := fun_mk (st := s_row_of) l_row_of c_row_of k_row_of
  have b_row_of := F_row_of.binds (ps := ["number"]) fun _ _ _ _ _ _ us hl => match us, hl with | [_], _ => rfl
  have F_length_of := fun_mk (st := s_length_of) l_length_of c_length_of k_length_of
  have b_length_of := F_length_of.binds (ps := ["number"]) fun _ _ _ _ _ _ us hl => match us, hl with | [_], _ => rfl
  have F_number_of := fun_mk (st := s_number_of) l_number_of c_number_of k_number_of
  have b_number_of := F_number_of.binds (ps := ["row"]) fun _ _ _ _ _ _ us hl => match us, hl with | [_], _ => rfl
  have F_bag := fun_mk (st := s_bag) l_bag c_bag k_bag
  have b_bag := F_bag.binds (ps := ["_law_script"]) fun _ _ _ _ _ _ us hl => match us, hl with | [_], _ => rfl
  have F_draw := fun_mk (st := s_draw) l_draw c_draw k_draw
  have b_draw := F_draw.binds (ps := ["_law_bag_here", "_law_limit"]) fun _ _ _ _ _ _ us hl => match us, hl with | [_, _], _ => rfl
  have F_number := fun_mk (st := s_number) l_number c_number k_number
  have b_number := F_number.binds (ps := ["_law_bag_here"]) fun _ _ _ _ _ _ us hl => match us, hl with | [_], _ => rfl
  have F_row := fun_mk (st := s_row) l_row c_row k_row
  have b_row := F_row.binds (ps := ["_law_number_here"]) fun _ _ _ _ _ _ us hl => match us, hl with | [_], _ => rfl
  have F_bent := fun_mk (st := s_bent) l_bent c_bent k_bent
  have b_bent := F_bent.binds (ps := ["_law_bag_here", "_law_one", "_law_other"]) fun _ _ _ _ _ _ us hl => match us, hl with | [_, _, _], _ => rfl
  have F_plain := fun_mk (st := s_plain) l_plain c_plain k_plain
  have b_plain := F_plain.binds (ps := ["_law_thing"]) fun _ _ _ _ _ _ us hl => match us, hl with | [_], _ => rfl
  have F_read := fun_mk (st := s_read) l_read c_read k_read
  have b_read := F_read.binds (ps := ["_law_row_here"]) fun _ _ _ _ _ _ us hl => match us, hl with | [_], _ => rfl
  have F_asked := fun_mk (st := s_asked) l_asked c_asked k_asked
  have b_asked := F_asked.binds (ps := ["_law_number_here"]) fun _ _ _ _ _ _ us hl => match us, hl with | [_], _ => rfl
  have F_law := fun_mk (st := s_law) l_law c_law k_law
  have b_law := F_law.binds (ps := ["_law_script"]) fun _ _ _ _ _ _ us hl => match us, hl with | [_], _ => rfl
  have T : Σ' T : Txt K mg, T.a_law = fa ∧ T.d_law = PySem.W.fnOf "law" "law" (defArgs s_law) (defBody s_law) (defScope s_law) .none kV_law dc_law pm_law an_law cd_law ct_law :=
    ⟨{ a_is_whole := _, d_is_whole := _, F_is_whole := F_is_whole, b_is_whole := b_is_whole, g_is_whole := PySem.W.mg_of X G a_is_whole,
        a_is_whole_within := _, d_is_whole_within := _, F_is_whole_within := F_is_whole_within, b_is_whole_within := b_is_whole_within, g_is_whole_within := PySem.W.mg_of X G a_is_whole_within,
        a_is_number := _, d_is_number := _, F_is_number := F_is_number, b_is_number := b_is_number, g_is_number := PySem.W.mg_of X G a_is_number,
        a_check_number := _, d_check_number := _, F_check_number := F_check_number, b_check_number := b_check_number, g_check_number := PySem.W.mg_of X G a_check_number,
        a_blocks := _, d_blocks := _, F_blocks := F_blocks, b_blocks := b_blocks, g_blocks := PySem.W.mg_of X G a_blocks,
        a_row_of := _, d_row_of := _, F_row_of := F_row_of, b_row_of := b_row_of, g_row_of := PySem.W.mg_of X G a_row_of,
        a_length_of := _, d_length_of := _, F_length_of := F_length_of, b_length_of := b_length_of, g_length_of := PySem.W.mg_of X G a_length_of,
        a_number_of := _, d_number_of := _, F_number_of := F_number_of, b_number_of := b_number_of, g_number_of := PySem.W.mg_of X G a_number_of,
        a_bag := _, d_bag := _, F_bag := F_bag, b_bag := b_bag, g_bag := PySem.W.mg_of X G a_bag,
        a_draw := _, d_draw := _, F_draw := F_draw, b_draw := b_draw, g_draw := PySem.W.mg_of X G a_draw,
        a_number := _, d_number := _, F_number := F_number, b_number := b_number, g_number := PySem.W.mg_of X G a_number,
        a_row := _, d_row := _, F_row := F_row, b_row := b_row, g_row := PySem.W.mg_of X G a_row,
        a_bent := _, d_bent := _, F_bent := F_bent, b_bent := b_bent, g_bent := PySem.W.mg_of X G a_bent,
        a_plain := _, d_plain := _, F_plain := F_plain, b_plain := b_plain, g_plain := PySem.W.mg_of X G a_plain,
        a_read := _, d_read := _, F_read := F_read, b_read := b_read, g_read := PySem.W.mg_of X G a_read,
        a_asked := _, d_asked := _, F_asked := F_asked, b_asked := b_asked, g_asked := PySem.W.mg_of X G a_asked,
        a_law := _, d_law := _, F_law := F_law, b_law := b_law, g_law := PySem.W.mg_of X G a_law,
        t_DIGITS := _, c_DIGITS := PySem.W.mg_of X G n_DIGITS,
        t_MOST_DIGITS := _, c_MOST_DIGITS := PySem.W.mg_of X G n_MOST_DIGITS,
        t_GREATEST_SUM := _, c_GREATEST_SUM := PySem.W.mg_of X G n_GREATEST_SUM,
        z_all := PySem.W.mg_none_of X G z_all,
        z_bool := PySem.W.mg_none_of X G z_bool,
        z_int := PySem.W.mg_none_of X G z_int,
        z_isinstance := PySem.W.mg_none_of X G z_isinstance,
        z_len := PySem.W.mg_none_of X G z_len,
        z_list := PySem.W.mg_none_of X G z_list,
        z_max := PySem.W.mg_none_of X G z_max,
        z_min := PySem.W.mg_none_of X G z_min,
        z_range := PySem.W.mg_none_of X G z_range,
        z_repr := PySem.W.mg_none_of X G z_repr,
        z_str := PySem.W.mg_none_of X G z_str,
        z_sum := PySem.W.mg_none_of X G z_sum,
        z_tuple := PySem.W.mg_none_of X G z_tuple }, rfl, rfl⟩
  obtain ⟨T, e1, e2⟩ := T
  subst e1
  refine ⟨T.d_law, fun s v => by rw [e2]; exact .of_eq rfl, fun base _ _ => ok_law T⟩
theorem walk {l : PySem.W.OpenLaw} {q : Program} {loose : List Str} {XP : (Str → Option Value) → Heap → Prop} {YP : World → Heap → Prop} {d : DefRec} {K : Params → PySem.W.Frag} (hn : l.most = some 63) (hdf : d.params.defaults = [])
    (hY : ∀ (w : World) (h : Heap), YP w h → (K w.params).In h)
    (F : ∀ (w : World) (mg : Str → Option Value) (fa : Addr) (h : Heap), (K w.params).In h → h.Ns mainGlobals mg → mg d.name = some (.ref fa) →
      ∃ fd : FuncData, (∀ (s : Shared) (u : Value), BindsTo s fd ⟨[u], []⟩ [("_law_script", u)]) ∧ ∀ base : Heap, (K w.params).In base → base.Ns mainGlobals mg → Rp.GOk l.prog w (K w.params) mg base CX0 7 fa fd ["_law_script"] (sp_law (K w.params))) :
    PySem.W.WalkO q loose XP YP l.row.toRowW d [] (fun f vs => PySem.call f vs) :=
  Rp.walk_gof (n := 63) (k := 7) (x := "_law_script") (CX := fun _ => CX0) (sp := fun w => sp_law (K w.params)) hn (by decide) hdf ⟨rfl, by decide, by decide⟩ hY F (fun _ _ a ns hl _ hS => ⟨a, ns, rfl, hS, hl, fun _ => rfl⟩) fun _ _ _ _ _ z => z
end K01

open PySem PySem.W PyProof.Rows in
set_option maxRecDepth 100000 in
set_option maxHeartbeats 0 in
theorem PySem.Challenge.cw_wheelchorus_k01_rows_and_blocks_holds : PySem.Challenge.rw_wheelchorus_k01_rows_and_blocks.Holds := by
  w_on; o_law; k_head; (case hw => w_witness2)
  k_fill
  refine K01.walk (l := PySem.Challenge.rw_wheelchorus_k01_rows_and_blocks) rfl rfl (fun w h Y => PySem.W.kIn_of Y) ?F
  case F =>
    intro w mg fa h KX G hmg
    refine' K01.all_mk KX G hmg ?a_is_whole ?l_is_whole ?c_is_whole ?k_is_whole ?a_is_whole_within ?l_is_whole_within ?c_is_whole_within ?k_is_whole_within ?a_is_number ?l_is_number ?c_is_number ?k_is_number ?a_check_number ?l_check_number ?c_check_number ?k_check_number ?a_blocks ?l_blocks ?c_blocks ?k_blocks ?a_row_of ?l_row_of ?c_row_of ?k_row_of ?a_length_of ?l_length_of ?c_length_of ?k_length_of ?a_number_of ?l_number_of ?c_number_of ?k_number_of ?a_bag ?l_bag ?c_bag ?k_bag ?a_draw ?l_draw ?c_draw ?k_draw ?a_number ?l_number ?c_number ?k_number ?a_row ?l_row ?c_row ?k_row ?a_bent ?l_bent ?c_bent ?k_bent ?a_plain ?l_plain ?c_plain ?k_plain ?a_read ?l_read ?c_read ?k_read ?a_asked ?l_asked ?c_asked ?k_asked ?a_law ?l_law ?c_law ?k_law ?n_DIGITS ?n_MOST_DIGITS ?n_GREATEST_SUM ?z_all ?z_bool ?z_int ?z_isinstance ?z_len ?z_list ?z_max ?z_min ?z_range ?z_repr ?z_str ?z_sum ?z_tuple
    (case a_is_whole => k_is)
    (case l_is_whole => k_is)
    (case c_is_whole => k_is)
    (case k_is_whole => k_is)
    (case a_is_whole_within => k_is)
    (case l_is_whole_within => k_is)
    (case c_is_whole_within => k_is)
    (case k_is_whole_within => k_is)
    (case a_is_number => k_is)
    (case l_is_number => k_is)
    (case c_is_number => k_is)
    (case k_is_number => k_is)
    (case a_check_number => k_is)
    (case l_check_number => k_is)
    (case c_check_number => k_is)
    (case k_check_number => k_is)
    (case a_blocks => k_is)
    (case l_blocks => k_is)
    (case c_blocks => k_is)
    (case k_blocks => k_is)
    (case a_row_of => k_is)
    (case l_row_of => k_is)
    (case c_row_of => k_is)
    (case k_row_of => k_is)
    (case a_length_of => k_is)
    (case l_length_of => k_is)
    (case c_length_of => k_is)
    (case k_length_of => k_is)
    (case a_number_of => k_is)
    (case l_number_of => k_is)
    (case c_number_of => k_is)
    (case k_number_of => k_is)
    (case a_bag => k_is)
    (case l_bag => k_is)
    (case c_bag => k_is)
    (case k_bag => k_is)
    (case a_draw => k_is)
    (case l_draw => k_is)
    (case c_draw => k_is)
    (case k_draw => k_is)
    (case a_number => k_is)
    (case l_number => k_is)
    (case c_number => k_is)
    (case k_number => k_is)
    (case a_row => k_is)
    (case l_row => k_is)
    (case c_row => k_is)
    (case k_row => k_is)
    (case a_bent => k_is)
    (case l_bent => k_is)
    (case c_bent => k_is)
    (case k_bent => k_is)
    (case a_plain => k_is)
    (case l_plain => k_is)
    (case c_plain => k_is)
    (case k_plain => k_is)
    (case a_read => k_is)
    (case l_read => k_is)
    (case c_read => k_is)
    (case k_read => k_is)
    (case a_asked => k_is)
    (case l_asked => k_is)
    (case c_asked => k_is)
    (case k_asked => k_is)
    (case a_law => k_is)
    (case l_law => k_is)
    (case c_law => k_is)
    (case k_law => k_is)
    (case n_DIGITS => k_is)
    (case n_MOST_DIGITS => k_is)
    (case n_GREATEST_SUM => k_is)
    (case z_all => k_is)
    (case z_bool => k_is)
    (case z_int => k_is)
    (case z_isinstance => k_is)
    (case z_len => k_is)
    (case z_list => k_is)
    (case z_max => k_is)
    (case z_min => k_is)
    (case z_range => k_is)
    (case z_repr => k_is)
    (case z_str => k_is)
    (case z_sum => k_is)
    (case z_tuple => k_is)
