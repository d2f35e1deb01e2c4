import PyProof.Rows.All
import Wide.All
import OpenK.AllK
import Wide.FinOn
import HandS.ForMost
import HandS.IsInst
import HandS.Style
import HandS.Zip
import HandS.Walk
import HandS.Defaults
import HandS.MakeKw
import HandS.MakeKwOnly
import HandS.ClsMeth
import HandS.Strs
import HandS.Codes
import HandS.Text
import KE.KTupSum
import KE.GoesMore
import HandS.TupAny
import HandS.TupMul
import PySem.Challenge.RW_wheelchorus_k18_parts_of_wire
set_option Elab.async false
set_option linter.all false
set_option maxRecDepth 100000
set_option maxHeartbeats 4000000
/-! Numbers as lists of digits, their rows, and where two rows part. -/
namespace Wm
open PySem L2
def codes (ds : List Nat) : List Nat := ds.map (· + 48)
def numS (ds : List Nat) : Str := ⟨(codes ds).toArray⟩
structure Dig (ds : List Nat) : Prop where
  dig : ∀ d ∈ ds, 1 ≤ d ∧ d ≤ 9
structure Num (ds : List Nat) : Prop where
  pos : 1 ≤ ds.length
  len : ds.length ≤ 4
  dig : ∀ d ∈ ds, 1 ≤ d ∧ d ≤ 9
  sum : ds.sum ≤ 24
def blk (d : Nat) : List Int := (List.replicate d [1, 0]).flatten
def rowL : List Nat → List Int
  | [] => [0, 0]
  | d :: ds => blk d ++ ([0, 0] ++ rowL ds)
structure Diff (xs ys : List Int) (k : Nat) (a b : Int) : Prop where
  one : xs[k]? = some a
  two : ys[k]? = some b
  ne : a ≠ b
  eq : ∀ j, j < k → xs[j]? = ys[j]?
theorem Diff.symm {xs ys : List Int} {k : Nat} {a b : Int} (h : Diff xs ys k a b) : Diff ys xs k b a :=
  ⟨h.two, h.one, h.ne.symm, fun j l => (h.eq j l).symm⟩
theorem Diff.cons {xs ys : List Int} {k : Nat} {a b : Int} (z : Int) (h : Diff xs ys k a b) : Diff (z :: xs) (z :: ys) (k + 1) a b := by
  refine ⟨by simpa using h.one, by simpa using h.two, h.ne, fun j l => ?_⟩
  cases j with
  | zero => rfl
  | succ j => simpa using h.eq j (by omega)
theorem Diff.app {xs ys : List Int} {k : Nat} {a b : Int} : ∀ (p : List Int), Diff xs ys k a b → Diff (p ++ xs) (p ++ ys) (p.length + k) a b
  | [], h => by simpa using h
  | z :: p, h => by
    have ih := (Diff.app p h).cons z
    have e : (z :: p).length + k = p.length + k + 1 := by simp only [List.length_cons]; omega
    rw [e]
    exact ih
theorem Diff.uniq {xs ys : List Int} {k l : Nat} {a b c d : Int} (h : Diff xs ys k a b) (g : Diff xs ys l c d) : k = l ∧ a = c ∧ b = d := by
  have e : k = l := by
    rcases Nat.lt_trichotomy k l with x | x | x
    · exact absurd (by have q := g.eq k x; rw [h.one, h.two] at q; exact Option.some.inj q) h.ne
    · exact x
    · exact absurd (by have q := h.eq l x; rw [g.one, g.two] at q; exact Option.some.inj q) g.ne
  subst e
  exact ⟨rfl, Option.some.inj (h.one.symm.trans g.one), Option.some.inj (h.two.symm.trans g.two)⟩
theorem Diff.lt1 {xs ys : List Int} {k : Nat} {a b : Int} (h : Diff xs ys k a b) : k < xs.length := (List.getElem?_eq_some_iff.mp h.one).1
theorem Diff.lt2 {xs ys : List Int} {k : Nat} {a b : Int} (h : Diff xs ys k a b) : k < ys.length := (List.getElem?_eq_some_iff.mp h.two).1
theorem blk_add (d e : Nat) : blk (d + e) = blk d ++ blk e := by
  unfold blk
  rw [← List.replicate_append_replicate, List.flatten_append]
theorem blk_succ (e : Nat) : blk (e + 1) = [1, 0] ++ blk e := by
  rw [Nat.add_comm, blk_add]
  rfl
theorem blk_len (d : Nat) : (blk d).length = 2 * d := by
  induction d with
  | zero => rfl
  | succ d ih => rw [blk_succ, List.length_append, ih]; simp only [List.length_cons, List.length_nil]; omega
theorem row_less (d e : Nat) (ds es : List Nat) (h : d < e) : Diff (rowL (d :: ds)) (rowL (e :: es)) (2 * d) 0 1 := by
  obtain ⟨f, rfl⟩ : ∃ f, e = d + (f + 1) := ⟨e - d - 1, by omega⟩
  have h0 : Diff ([0, 0] ++ rowL ds) ([1, 0] ++ (blk f ++ ([0, 0] ++ rowL es))) 0 0 1 := ⟨rfl, rfl, by decide, fun j l => absurd l (Nat.not_lt_zero _)⟩
  have h1 := h0.app (blk d)
  rw [blk_len, Nat.add_zero] at h1
  have e1 : rowL ((d + (f + 1)) :: es) = blk d ++ ([1, 0] ++ (blk f ++ ([0, 0] ++ rowL es))) := by
    show blk (d + (f + 1)) ++ _ = _
    rw [blk_add, blk_succ, List.append_assoc, List.append_assoc]
  rw [e1]
  exact h1
theorem rows_part : ∀ (ds es : List Nat), (∀ d ∈ ds, 1 ≤ d) → (∀ e ∈ es, 1 ≤ e) →
    ds = es ∨ (∃ k, Diff (rowL ds) (rowL es) k 1 0 ∧ es < ds) ∨ (∃ k, Diff (rowL ds) (rowL es) k 0 1 ∧ ds < es)
  | [], [], _, _ => .inl rfl
  | [], e :: es, _, h => by
    obtain ⟨f, rfl⟩ : ∃ f, e = f + 1 := ⟨e - 1, by have := h e (by simp); omega⟩
    refine .inr (.inr ⟨0, ⟨rfl, ?_, by decide, fun j l => absurd l (Nat.not_lt_zero _)⟩, List.nil_lt_cons _ _⟩)
    show (blk (f + 1) ++ _)[0]? = _
    rw [blk_succ]
    rfl
  | d :: ds, [], h, _ => by
    obtain ⟨f, rfl⟩ : ∃ f, d = f + 1 := ⟨d - 1, by have := h d (by simp); omega⟩
    refine .inr (.inl ⟨0, ⟨?_, rfl, by decide, fun j l => absurd l (Nat.not_lt_zero _)⟩, List.nil_lt_cons _ _⟩)
    show (blk (f + 1) ++ _)[0]? = _
    rw [blk_succ]
    rfl
  | d :: ds, e :: es, h, g => by
    rcases Nat.lt_trichotomy d e with x | x | x
    · exact .inr (.inr ⟨_, row_less d e ds es x, List.cons_lt_cons_iff.mpr (.inl x)⟩)
    · subst x
      rcases rows_part ds es (fun y m => h y (List.mem_cons_of_mem _ m)) (fun y m => g y (List.mem_cons_of_mem _ m)) with q | ⟨k, q, l⟩ | ⟨k, q, l⟩
      · exact .inl (by rw [q])
      · exact .inr (.inl ⟨_, (q.app [0, 0]).app (blk d), List.cons_lt_cons_iff.mpr (.inr ⟨rfl, l⟩)⟩)
      · exact .inr (.inr ⟨_, (q.app [0, 0]).app (blk d), List.cons_lt_cons_iff.mpr (.inr ⟨rfl, l⟩)⟩)
    · exact .inr (.inl ⟨_, (row_less e d es ds x).symm, List.cons_lt_cons_iff.mpr (.inl x)⟩)
theorem codes_lt : ∀ (ds es : List Nat), ds < es → codes ds < codes es
  | [], [], h => absurd h (List.lt_irrefl _)
  | [], _ :: _, _ => List.nil_lt_cons _ _
  | _ :: _, [], h => absurd h (List.not_lt_nil _)
  | d :: ds, e :: es, h => by
    rcases List.cons_lt_cons_iff.mp h with x | ⟨x, y⟩
    · exact List.cons_lt_cons_iff.mpr (.inl (Nat.add_lt_add_right x 48))
    · exact List.cons_lt_cons_iff.mpr (.inr ⟨by rw [x], codes_lt ds es y⟩)
theorem codes_inj : ∀ (ds es : List Nat), codes ds = codes es → ds = es
  | [], [], _ => rfl
  | [], _ :: _, h => by simp [codes] at h
  | _ :: _, [], h => by simp [codes] at h
  | d :: ds, e :: es, h => by
    have h1 : d + 48 = e + 48 := (List.cons.inj h).1
    have h2 : codes ds = codes es := (List.cons.inj h).2
    rw [codes_inj ds es h2, show d = e by omega]
theorem numS_cps (ds : List Nat) : (numS ds).cps.toList = codes ds := rfl
theorem numS_inj {ds es : List Nat} (h : numS ds = numS es) : ds = es := codes_inj _ _ (by rw [← numS_cps, h, numS_cps])
theorem numS_len (ds : List Nat) : (numS ds).length = ds.length := by
  show (codes ds).toArray.size = _
  simp [codes]
theorem lt_asymm' {a b : List Nat} (h : a < b) : ¬ b < a := fun g => List.lt_irrefl _ (List.lt_trans h g)
theorem rowL_le : ∀ ds : List Nat, (∀ d ∈ ds, d ≤ 9) → (rowL ds).length ≤ 20 * ds.length + 2
  | [], _ => by decide
  | d :: ds, h => by
    have ih := rowL_le ds fun y m => h y (List.mem_cons_of_mem _ m)
    have hd := h d (by simp)
    show (blk d ++ ([0, 0] ++ rowL ds)).length ≤ _
    rw [List.length_append, List.length_append, blk_len]
    simp only [List.length_cons, List.length_nil]
    omega
end Wm

/-! Digits as signs, texts of digits cut and joined; what a heap keeps. -/
namespace Wm
open PySem L2
theorem dig_cases {d : Nat} (h : 1 ≤ d ∧ d ≤ 9) : d = 1 ∨ d = 2 ∨ d = 3 ∨ d = 4 ∨ d = 5 ∨ d = 6 ∨ d = 7 ∨ d = 8 ∨ d = 9 := by omega
theorem dig_int {d : Nat} (h : 1 ≤ d ∧ d ≤ 9) : PySem.intText? ⟨#[d + 48]⟩ = some (d : Int) := by
  rcases dig_cases h with e | e | e | e | e | e | e | e | e <;> subst e <;> decide +kernel
theorem dig_in {d : Nat} (h : 1 ≤ d ∧ d ≤ 9) : (d + 48) ∈ ("123456789" : Str).cps.toList := by
  rcases dig_cases h with e | e | e | e | e | e | e | e | e <;> subst e <;> decide +kernel
theorem dig_str {d : Nat} (h : 1 ≤ d ∧ d ≤ 9) : ((toString (d : Int) : String) : Str) = numS [d] := by
  rcases dig_cases h with e | e | e | e | e | e | e | e | e <;> subst e <;> decide +kernel
theorem numS_app (ds es : List Nat) : numS ds ++ numS es = numS (ds ++ es) := by
  refine PyProof.Rows.ext_toList ?_
  show ((numS ds).cps ++ (numS es).cps).toList = _
  rw [Array.toList_append, numS_cps, numS_cps, numS_cps]
  simp [codes]
theorem numS_nil : numS [] = ("" : Str) := by decide +kernel
theorem numS_take (ds : List Nat) (k : Nat) : cutS (numS ds) none (some (k : Int)) = numS (ds.take k) := by
  refine PyProof.Rows.ext_toList ?_
  show ((codes ds).drop 0).take (HT.sIx (numS ds).length (numS ds).length (some (k : Int)) - 0) = codes (ds.take k)
  rw [numS_len, HT.sIx_nat, List.drop_zero, Nat.sub_zero]
  simp only [codes, ← List.map_take]
  congr 1
  rw [List.take_eq_take_iff]
  omega
theorem numS_last (ds : List Nat) : cutS (numS ds) none (some (-1)) = numS ds.dropLast := by
  refine PyProof.Rows.ext_toList ?_
  show ((codes ds).drop 0).take (HT.sIx (numS ds).length (numS ds).length (some (-1)) - 0) = codes ds.dropLast
  rw [numS_len, List.drop_zero, Nat.sub_zero, List.dropLast_eq_take]
  simp only [codes, ← List.map_take]
  have e : HT.sIx ds.length ds.length (some (-1)) = ds.length - 1 := by
    unfold HT.sIx
    simp only [show (-1 : Int) < 0 by decide, if_true]
    omega
  rw [e]
theorem numS_at (ds : List Nat) (i : Nat) (hi : i < ds.length) : (numS ds).cps[i]? = some (ds[i] + 48) := by
  show ((codes ds).toArray)[i]? = _
  simp [codes, hi]
theorem numS_size (ds : List Nat) : (numS ds).cps.size = ds.length := numS_len ds

/-! heaps -/
theorem same_new {H : Hp} {p : Addr} {o : HO} (n : H p = none) : Same H (upd H p o) := fun b u e => by
  rw [upd_ne (ne_of_none e n)]
  exact e
theorem at_old {H : Hp} {p q : Addr} {o u : HO} (h : H p = some o) (n : H q = none) : upd H q u p = some o := by
  rw [upd_ne (ne_of_none h n)]
  exact h
theorem sameT {K : PySem.W.Frag} {H H' : Hp} {a : Addr} {xs : List V} (e : Same H H') (h : SqT K H a xs) : SqT K H' a xs := by
  rcases h with (h | ⟨o, h⟩) | h
  · exact .inl (.inl (e _ _ h))
  · exact .inl (.inr ⟨o, e _ _ h⟩)
  · exact .inr h
/-- what stood stands, but for what H did not know and the object at p, which is new since -/
theorem same_mut {H H' : Hp} {p : Addr} {o : HO} (s : Same H H') (n : H p = none) : Same H (upd H' p o) := fun b u e => by
  rw [upd_ne (ne_of_none e n)]
  exact s b u e
def But (b : Addr) (H H' : Hp) : Prop := ∀ p o, p ≠ b → H p = some o → H' p = some o
theorem But.refl (b : Addr) (H : Hp) : But b H H := fun _ _ _ h => h
theorem But.trans {b : Addr} {H H1 H2 : Hp} (x : But b H H1) (y : But b H1 H2) : But b H H2 := fun p o n h => y p o n (x p o n h)
theorem But.of {b : Addr} {H H' : Hp} (s : Same H H') : But b H H' := fun p o _ h => s p o h
theorem But.set {b : Addr} {H : Hp} {o : HO} : But b H (upd H b o) := fun p u n h => by
  rw [upd_ne n]
  exact h
/-- the bag of draws: its cells' list and its four numbers -/
def Bag (H : Hp) (b : Addr) (n : Nat) : Prop :=
  ∃ (c : Addr) (x k m z : Int) (ns : List Int), H b = some (.lst [.int x, .ref c, .int k, .int m, .int z]) ∧ H c = some (.lst (ns.map V.int)) ∧ 0 ≤ k ∧ 0 ≤ m ∧ m ≤ (n : Int)
theorem bag_ne {H : Hp} {b c : Addr} {x k m z : Int} {ns : List Int} (hb : H b = some (.lst [.int x, .ref c, .int k, .int m, .int z])) (hc : H c = some (.lst (ns.map V.int))) : c ≠ b := by
  intro e
  subst e
  rw [hb] at hc
  have q := Option.some.inj hc
  have q2 : ([.int x, .ref c, .int k, .int m, .int z] : List V) = ns.map V.int := by injection q
  cases ns with
  | nil => simp at q2
  | cons u r => cases r with
    | nil => simp at q2
    | cons v r => simp at q2
theorem Bag.mono {H : Hp} {b : Addr} {n m : Nat} (h : Bag H b n) (l : n ≤ m) : Bag H b m := by
  obtain ⟨c, x, k, q, z, ns, h1, h2, h3, h4, h5⟩ := h
  exact ⟨c, x, k, q, z, ns, h1, h2, h3, h4, by omega⟩
theorem Bag.keep {H H' : Hp} {b : Addr} {n : Nat} (h : Bag H b n) (s : Same H H') : Bag H' b n := by
  obtain ⟨c, x, k, q, z, ns, h1, h2, h3, h4, h5⟩ := h
  exact ⟨c, x, k, q, z, ns, s _ _ h1, s _ _ h2, h3, h4, h5⟩
end Wm
namespace Wm
open PySem L2
theorem yesT {σ : L2.St} {H : Hp} {A B : Hp → Prop} (h : A H) : tYes σ H (fun b H3 => if b = true then A H3 else B H3) := by
  show (if true = true then A H else B H)
  rw [if_pos rfl]
  exact h
end Wm

/-! row[::2] of a list or a tuple; a loop over a list or a tuple. -/
namespace Hf
open PySem PySem.Spec PyProof.Rows L2
def ev2 {α : Type} : List α → List α
  | [] => []
  | [x] => [x]
  | x :: _ :: r => x :: ev2 r
theorem ev2_le {α : Type} : ∀ xs : List α, (ev2 xs).length ≤ xs.length
  | [] => Nat.le_refl _
  | [_] => Nat.le_refl _
  | x :: y :: r => by
    have ih := ev2_le r
    show (ev2 r).length + 1 ≤ r.length + 2
    omega
theorem ev2_mem {α : Type} {z : α} : ∀ {xs : List α}, z ∈ ev2 xs → z ∈ xs
  | [], h => h
  | [_], h => h
  | x :: y :: r, h => by
    rcases List.mem_cons.mp h with e | e
    · rw [e]; simp
    · exact List.mem_cons_of_mem _ (List.mem_cons_of_mem _ (ev2_mem e))
theorem ev2_map {α β : Type} (f : α → β) : ∀ xs : List α, ev2 (xs.map f) = (ev2 xs).map f
  | [] => rfl
  | [_] => rfl
  | x :: y :: r => by
    show f x :: ev2 (r.map f) = f x :: (ev2 r).map f
    rw [ev2_map f r]
theorem ev2_pick {α : Type} : ∀ xs : List α, (List.range ((xs.length + 1) / 2)).filterMap (fun k => xs[2 * k]?) = ev2 xs
  | [] => by simp [ev2]
  | [x] => by
    rw [show ([x].length + 1) / 2 = 1 by simp, show List.range 1 = [0] by decide]
    simp [ev2]
  | x :: y :: r => by
    have ih := ev2_pick r
    have e : ((x :: y :: r).length + 1) / 2 = (r.length + 1) / 2 + 1 := by
      show (r.length + 1 + 1 + 1) / 2 = _
      omega
    rw [e, List.range_succ_eq_map, List.filterMap_cons]
    show x :: _ = x :: ev2 r
    rw [List.filterMap_map, ← ih]
    rfl
theorem ev2_vals : ∀ {xs : List V} {us : List Value}, Vals xs us → Vals (ev2 xs) (ev2 us)
  | [], _, h => by cases h; exact .nil
  | [x], _, h => by
    cases h with
    | cons a b =>
      cases b
      exact .cons a .nil
  | x :: y :: r, _, h => by
    cases h with
    | cons a b =>
      cases b with
      | cons c d => exact .cons a (ev2_vals d)
theorem pick2 (items : Array Value) : slicePick items none none (some 2) = (ev2 items.toList).toArray := by
  have e := ev2_pick items.toList
  unfold slicePick
  have b : sliceBounds none none (some 2) items.size = (0, (items.size : Int), 2) := by
    first
    | rfl
    | simp [sliceBounds]
  rw [b]
  show ((sliceRange 0 (items.size : Int) 2).filterMap (items[·]?)).toArray = _
  have r : sliceRange 0 (items.size : Int) 2 = (List.range ((items.size + 1) / 2)).map fun k => 2 * k := by
    unfold sliceRange
    have h1 : (2 : Int) > 0 := by decide
    by_cases h : (0 : Int) < (items.size : Int)
    · have e : ((items.size : Int) - 0 + 2 - 1) / 2 = (((items.size + 1) / 2 : Nat) : Int) := by omega
      simp only [h1, if_true, h, e, Int.toNat_natCast]
      apply List.map_congr_left
      intro k _
      omega
    · have e : items.size = 0 := by omega
      simp [e]
  rw [r, List.filterMap_map]
  rw [Array.length_toList] at e
  rw [← e]
  refine congrArg List.toArray (congrArg (fun f => List.filterMap f _) (funext fun k => ?_))
  show items[2 * k]? = _
  rw [Array.getElem?_toList]
section
variable {prog : Program} {w : World} {A : Around} {E : Value → Shared → Prop} {s : Shared}
theorem places2 (n : Nat) : Builtin.Slice.slicePlaces 0 (n : Int) 2 = (n + 1) / 2 := by
  unfold Builtin.Slice.slicePlaces
  have h1 : (2 : Int) > 0 := by omega
  simp only [h1, if_true]
  split <;> omega
theorem adjust2 (n : Nat) : Builtin.Slice.sliceAdjust none none 2 (n : Int) = (0, (n : Int)) := by
  have h1 : ¬ ((2 : Int) < 0) := by omega
  unfold Builtin.Slice.sliceAdjust
  simp only [h1, if_false]
theorem sliceApplied2 {sl : Addr} {t : Tok} {n : Nat} {Q : Int × Int × Nat → Shared → Prop} (hs : s.heap.IsSliceOf sl .none .none (.int 2 t))
    (h : Q (0, 2, (n + 1) / 2) s) : wpAny (model prog w) A (Builtin.Slice.sliceApplied (.ref sl) (pure (n : Int))) Q E s := by
  obtain ⟨os, hos, hcs, hds⟩ := id hs
  unfold Builtin.Slice.sliceApplied Builtin.Slice.sliceFields
  refine wpAny_bind (wpAny_bind (wpAny_field hos hds (x := .none) rfl (wpAny_bind (wpAny_field hos hds (x := .none) rfl (wpAny_bind (wpAny_field hos hds (x := .int 2 t) rfl (wpAny_pure ?_)))))))
  refine wpAny_bind (slicePart_int ?_)
  show wpAny _ _ (if ((2 : Int) == 0) = true then _ else _) _ _ s
  rw [if_neg (by decide)]
  refine wpAny_bind (HT.slicePart_ .none (wpAny_bind (HT.slicePart_ .none (wpAny_bind (wpAny_pure ?_)))))
  show wpAny _ _ (match Builtin.Slice.sliceAdjust none none 2 (n : Int) with | (lo, hi) => pure (lo, (2 : Int), Builtin.Slice.slicePlaces lo hi 2)) _ _ s
  rw [adjust2 n]
  show wpAny _ _ (pure ((0 : Int), (2 : Int), Builtin.Slice.slicePlaces (0 : Int) (n : Int) 2)) _ _ s
  rw [places2]
  exact wpAny_pure h
theorem pick2t (xs : Array Value) : ((List.range ((xs.size + 1) / 2)).filterMap fun (m : Nat) => xs[((0 : Int) + (m : Int) * 2).toNat]?).toArray = (ev2 xs.toList).toArray := by
  have e : (fun (m : Nat) => xs[((0 : Int) + (m : Int) * 2).toNat]?) = fun m => xs.toList[2 * m]? := by
    funext m
    have : ((0 : Int) + (m : Int) * 2).toNat = 2 * m := by omega
    rw [this, Array.getElem?_toList]
  rw [e, ← ev2_pick xs.toList, Array.length_toList]
theorem getItem_tuple_2 {t sl : Addr} {tk : Tok} {items : Array Value} {Q : Value → Shared → Prop} (ht : IsTup s.heap t items) (hs : s.heap.IsSliceOf sl .none .none (.int 2 tk))
    (h : Q (.ref s.heap.objs.size) { s with heap := s.heap.push { cls := .type "tuple", data := .seq (ev2 items.toList).toArray } })
    (hsz : items.size ≤ sizeLine) : wpAny (model prog w) A (getItem (.ref t) (.ref sl)) Q E s := by
  have htake : sizeOk (.seq (ev2 items.toList).toArray) := by
    show (ev2 items.toList).toArray.size ≤ sizeLine
    rw [List.size_toArray]
    exact Nat.le_trans (ev2_le items.toList) (by rw [Array.length_toList]; exact hsz)
  obtain ⟨os, hos, hcs, hds⟩ := id hs
  have hTs : s.TypeIs (.ref sl) "slice" := ⟨os, hos, hcs⟩
  unfold getItem
  try with_reducible refine wpAny_holding ?_
  first | refine wpAny_bind (wpAny_pure ?_) | skip
  refine wpAny_bind (wpAny_sequenceKey ht.typeIs (by decide) ?_)
  refine wpAny_bind (wpAny_callSpecial?_slot (name := Str.ofString "__getitem__") ht.typeIs PyProof.Rows.slot_tuple_getitem
    (wpAny_call_entry PyProof.Rows.slot_tuple_getitem ht.typeIs entry_tuple_getitem ?_ (args_tuple_getitem _ _)))
  show wpAny _ _ (Builtin.Tuple.tupleItemsOf (.ref t) >>= _) _ _ s
  refine wpAny_bind (tupleItemsOf_ ht ?_)
  refine wpAny_bind (wpAny_typeOf hTs ?_)
  rw [if_pos (by decide)]
  refine wpAny_bind (sliceApplied2 hs ?_)
  have hno : ¬ (((0 : Int) == 0 && (2 : Int) == 1 && ((items.size + 1) / 2) == items.size) = true) := by
    intro q
    rw [Bool.and_eq_true, Bool.and_eq_true] at q
    exact absurd q.1.2 (by decide)
  show wpAny _ _ (if ((0 : Int) == 0 && (2 : Int) == 1 && ((items.size + 1) / 2) == items.size) = true then _ else _) _ _ s
  rw [if_neg hno, pick2t]
  first
    | exact wpAny_bind (m := Builtin.Tuple.tupleExact _) (wpAny_newObj_type (wpAny_pure ⟨_, rfl, wpAny_pure h⟩) htake)
    | exact wpAny_bind (m := Builtin.Tuple.tupleExact _) (wpAny_newObj_type (wpAny_bind (wpAny_pure (wpAny_pure ⟨_, rfl, wpAny_pure h⟩))) htake)
    | exact wpAny_bind (wpAny_bind (m := Builtin.Tuple.tupleExact _) (wpAny_newObj_type (wpAny_pure (wpAny_pure ⟨_, rfl, wpAny_pure h⟩)) htake))
    | exact wpAny_bind (wpAny_bind (m := Builtin.Tuple.tupleExact _) (wpAny_newObj_type (wpAny_pure ⟨_, rfl, wpAny_pure h⟩) htake))
end
section
variable {X : Cx}
def tHalf (K : PySem.W.Frag) (te : TE) : TE := fun σ H Q => te σ H fun x H1 => ∃ a xs, x = .ref a ∧ (SqL K H1 a xs ∨ SqT K H1 a xs) ∧
  ∀ p H2, (∀ b o, H1 b = some o → H2 b = some o) → H1 p = none → (SqL K H2 p (ev2 xs) ∨ SqT K H2 p (ev2 xs)) → Q (.ref p) H2
theorem new_same {H : Hp} {p : Addr} {o : HO} (n : H p = none) : ∀ b u, H b = some u → upd H p o b = some u := fun b u e => by
  rw [upd_ne (ne_of_none e n)]
  exact e
theorem pe_half {e : Expr} {te : TE} {k : Nat} {p1 p3 pos : Pos} (he : PE X e te) : PE X (.Subscript e (.Slice none none (some (.Constant (.int 2) k p1)) p3) pos) (tHalf X.K te) := by
  refine ⟨fun pins s σ H Q I h => ?_⟩
  refine Subscript_ (thn (he.run pins s σ H _ I h) fun v s1 ⟨x, H1, I1, r1, q1⟩ => ?_)
  obtain ⟨a, xs, ex, hq, q⟩ := q1
  subst ex
  cases r1
  have hst : PO X (some (.Constant (.int 2) k p1)) (tPart (tC (.int 2))) := po_some pe_int
  refine wpAny_Slice (thn (po_none.run pins s1 σ H1 (fun o H2 => o = none ∧ H2 = H1) I1 ⟨rfl, rfl⟩) fun vl s2 ⟨l, H2, I2, pl, el, e2⟩ => ?_)
  subst el e2
  refine thn (po_none.run pins s2 σ H2 (fun o H3 => o = none ∧ H3 = H2) I2 ⟨rfl, rfl⟩) fun vu s3 ⟨u, H3, I3, pu, eu, e3⟩ => ?_
  subst eu e3
  refine thn (hst.run pins s3 σ H3 (fun o H4 => o = some 2 ∧ H4 = H3) I3 ⟨2, rfl, rfl, rfl⟩) fun vs s4 ⟨o, H4, I4, ps, eo, e4⟩ => ?_
  subst eo e4
  have I5 : Inv X pins σ H4 { s4 with heap := s4.heap.push { cls := .type "slice", data := .fields #[vl, vu, vs] } } := I4.kept (t' := s4.toks) fun b ob q => Heap.get?_push_of_some _ q
  rcases hq with hx | hx
  · obtain ⟨its, r, ht, hz⟩ := I5.list hx
    have hlen := r.length
    show wpAny (model X.prog X.w) X.A (subscriptTail e (.Slice none none (some (.Constant (.int 2) k p1)) p3) (.ref a) (.ref s4.heap.objs.size)) (EP X pins σ Q) X.xe { s4 with heap := s4.heap.push { cls := .type "slice", data := .fields #[vl, vu, vs] } }
    refine tail_any (ops := [.ref a, .ref s4.heap.objs.size]) ht.isList.typeIs (PySem.slot_list_getitem.lookup) ?_ (by with_unfolding_all rfl)
    refine wpAny_getItem_list_slice ht.isList (Heap.IsSliceOf.new _ vl vu vs) pl pu ps (by decide) ?_ (by rw [List.size_toArray]; omega)
    rw [pick2]
    refine ⟨.ref _, _, I5.laid (t' := s4.toks) (o := .lst (ev2 xs)) (fun b ob q => Heap.get?_push_of_some _ q) (Nat.le_refl _) ?_, rfl, q _ _ (new_same (I5.hok.fresh (Nat.le_refl _))) (I5.hok.fresh (Nat.le_refl _)) (.inl (SqL.of upd_same))⟩
    exact ⟨Nat.le_trans (ev2_le xs) hz, _, 0, ev2_vals r, Heap.get?_push_size _ rfl⟩
  · obtain ⟨its, r, ht, hz⟩ := I5.tuple hx
    have hlen := r.length
    cases pl
    cases pu
    cases ps
    show wpAny (model X.prog X.w) X.A (subscriptTail e (.Slice none none (some (.Constant (.int 2) k p1)) p3) (.ref a) (.ref s4.heap.objs.size)) (EP X pins σ Q) X.xe { s4 with heap := s4.heap.push { cls := .type "slice", data := .fields #[Value.none, Value.none, .int 2 _] } }
    refine tail_any (ops := [.ref a, .ref s4.heap.objs.size]) ht.typeIs (PyProof.Rows.slot_tuple_getitem.lookup) ?_ (by with_unfolding_all rfl)
    refine getItem_tuple_2 ht (Heap.IsSliceOf.new _ _ _ _) ?_ (by rw [List.size_toArray]; omega)
    refine ⟨.ref _, _, I5.laid (t' := s4.toks) (o := .tup (ev2 xs)) (fun b ob q => Heap.get?_push_of_some _ q) (Nat.le_refl _) ?_, rfl, q _ _ (new_same (I5.hok.fresh (Nat.le_refl _))) (I5.hok.fresh (Nat.le_refl _)) (.inr (SqT.of upd_same))⟩
    exact ⟨Nat.le_trans (ev2_le xs) hz, _, ev2_vals r, IsTup.new _ _⟩
theorem keepL {K : PySem.W.Frag} {H H' : Hp} {a : Addr} {xs : List V} (e : Same H H') (h : SqL K H a xs) : SqL K H' a xs := by
  rcases h with (h | ⟨o, h⟩) | h
  · exact .inl (.inl (e _ _ h))
  · exact .inl (.inr ⟨o, e _ _ h⟩)
  · exact .inr h
theorem keepT {K : PySem.W.Frag} {H H' : Hp} {a : Addr} {xs : List V} (e : Same H H') (h : SqT K H a xs) : SqT K H' a xs := by
  rcases h with (h | ⟨o, h⟩) | h
  · exact .inl (.inl (e _ _ h))
  · exact .inl (.inr ⟨o, e _ _ h⟩)
  · exact .inr h
def iSeq (K : PySem.W.Frag) (tl : TE) : TI := fun σ H R => tl σ H fun x H1 => ∃ a xs, x = .ref a ∧ (SqL K H1 a xs ∨ SqT K H1 a xs) ∧
  ∀ J G, Walk J xs.length G (YAt xs) → (∀ H', Same H1 H' → G H') → R J H1
theorem pi_seq {tg l : Expr} {tl : TE} (hl : PE X l tl) : PI X tg l (iSeq X.K tl) := by
  refine ⟨fun pins s σ H R I h => ?_⟩
  refine thn (hl.run pins s σ H _ I h) fun v s1 ⟨x, H1, I1, r1, q1⟩ => ?_
  obtain ⟨a, xs, e, hq, q⟩ := q1
  subst e
  cases r1
  rcases hq with hq | hq
  · have q := q _ _ walk_list fun H' s => keepL s hq
    obtain ⟨its, rv, p, hz⟩ := I1.list hq
    refine wpAny_pyIter_list p.isList ?_
    refine ⟨s1.heap.objs.size, [s1.heap.objs.size], _, _, H1, rfl, I1.kept (t' := s1.toks) fun b o e => Heap.get?_push_of_some _ e, turn_list a _, ⟨_, Heap.get?_push_size _ rfl, rfl, rfl⟩, fun b hb => ?_, q⟩
    have e : b = s1.heap.objs.size := by simpa using hb
    subst e
    exact I1.fpOk (Nat.le_refl _) (I1.hok.fresh (Nat.le_refl _))
  · have q := q _ _ walk_tup fun H' s => keepT s hq
    obtain ⟨its, rv, p, hz⟩ := I1.tuple hq
    refine wpAny_pyIter_tuple (show s1.heap.IsTuple a its.toArray from p) ?_
    refine ⟨s1.heap.objs.size, [s1.heap.objs.size], _, _, H1, rfl, I1.kept (t' := s1.toks) fun b o e => Heap.get?_push_of_some _ e, turn_tuple a _, ⟨_, Heap.get?_push_size _ rfl, rfl, rfl⟩, fun b hb => ?_, q⟩
    have e : b = s1.heap.objs.size := by simpa using hb
    subst e
    exact I1.fpOk (Nat.le_refl _) (I1.hok.fresh (Nat.le_refl _))
end
end Hf

/-! Rows read back: strokes, steps, groups. -/
namespace Wm
open PySem L2 TL
/-- the rows of the first digits, without the two ticks at the end -/
def pre : List Nat → List Int
  | [] => []
  | d :: ds => blk d ++ ([0, 0] ++ pre ds)
theorem pre_app : ∀ (ds : List Nat) (d : Nat), pre (ds ++ [d]) = pre ds ++ (blk d ++ [0, 0])
  | [], d => by show blk d ++ ([0, 0] ++ []) = [] ++ _; simp
  | e :: ds, d => by
    show blk e ++ ([0, 0] ++ pre (ds ++ [d])) = (blk e ++ ([0, 0] ++ pre ds)) ++ _
    rw [pre_app ds d]
    simp only [List.append_assoc]
theorem pre_row : ∀ ds : List Nat, pre ds ++ [0, 0] = rowL ds
  | [] => rfl
  | d :: ds => by
    show (blk d ++ ([0, 0] ++ pre ds)) ++ _ = blk d ++ ([0, 0] ++ rowL ds)
    rw [← pre_row ds]
    simp only [List.append_assoc]
theorem blk_V (d : Nat) : (List.replicate d [V.int 1, V.int 0]).flatten = (blk d).map V.int := by
  unfold blk
  rw [List.map_flatten, List.map_replicate]
  rfl
theorem pre_le : ∀ ds : List Nat, (∀ d ∈ ds, d ≤ 9) → (pre ds).length ≤ 20 * ds.length
  | [], _ => by decide
  | d :: ds, h => by
    have ih := pre_le ds fun y m => h y (List.mem_cons_of_mem _ m)
    have hd := h d (by simp)
    show (blk d ++ ([0, 0] ++ pre ds)).length ≤ _
    rw [List.length_append, List.length_append, blk_len]
    simp only [List.length_cons, List.length_nil]
    omega
theorem take_succ_app {α : Type} {l : List α} {i : Nat} {x : α} (h : l[i]? = some x) : l.take (i + 1) = l.take i ++ [x] := by
  rw [List.take_add_one, h]
  rfl
theorem take_succ_map {α β : Type} {l : List α} {i : Nat} {x : α} (f : α → β) (h : l[i]? = some x) : (l.take i).map f ++ [f x] = (l.take (i + 1)).map f := by
  rw [take_succ_app h, List.map_append]
  rfl
theorem row_sum : ∀ ds : List Nat, (rowL ds).length = 2 * (ds.sum + ds.length + 1)
  | [] => rfl
  | d :: ds => by
    have ih := row_sum ds
    show (blk d ++ ([0, 0] ++ rowL ds)).length = _
    rw [List.length_append, List.length_append, blk_len, ih, List.sum_cons]
    simp only [List.length_cons, List.length_nil]
    omega
theorem row_le (ds : List Nat) (N : Num ds) : (rowL ds).length ≤ 100 := by
  have h := rowL_le ds fun d m => (N.dig d m).2
  have l := N.len
  omega
theorem row_bits : ∀ (ds : List Nat) (z : Int), z ∈ rowL ds → z = 0 ∨ z = 1
  | [], z, h => by
    have h : z ∈ [0, 0] := h
    simp only [List.mem_cons, List.not_mem_nil, or_false, or_self] at h
    exact .inl h
  | d :: ds, z, h => by
    have h : z ∈ blk d ++ ([0, 0] ++ rowL ds) := h
    rw [List.mem_append, List.mem_append] at h
    rcases h with h | h | h
    · obtain ⟨l, hl, hz⟩ := List.mem_flatten.mp h
      rw [(List.mem_replicate.mp hl).2] at hz
      simp only [List.mem_cons, List.not_mem_nil, or_false] at hz
      exact hz.symm
    · simp only [List.mem_cons, List.not_mem_nil, or_false, or_self] at h
      exact .inl h
    · exact row_bits ds z h
/-! strokes -/
def ones : Nat → List Int → List Nat
  | _, [] => []
  | o, x :: xs => if x = 1 then o :: ones (o + 1) xs else ones (o + 1) xs
theorem ones_app : ∀ (a : List Int) (o : Nat) (b : List Int), ones o (a ++ b) = ones o a ++ ones (o + a.length) b
  | [], o, b => rfl
  | x :: a, o, b => by
    have ih := ones_app a (o + 1) b
    have e : o + (x :: a).length = o + 1 + a.length := by rw [List.length_cons]; omega
    rw [e]
    show (if x = 1 then o :: ones (o + 1) (a ++ b) else ones (o + 1) (a ++ b)) = (if x = 1 then o :: ones (o + 1) a else ones (o + 1) a) ++ _
    rw [ih]
    by_cases c : x = 1
    · rw [if_pos c, if_pos c]; rfl
    · rw [if_neg c, if_neg c]
theorem ones_mem : ∀ (xs : List Int) (o k : Nat), k ∈ ones o xs ↔ ∃ j, k = o + j ∧ xs[j]? = some 1
  | [], o, k => by simp [ones]
  | x :: xs, o, k => by
    have ih := ones_mem xs (o + 1) k
    show k ∈ (if x = 1 then o :: ones (o + 1) xs else ones (o + 1) xs) ↔ _
    constructor
    · intro h
      by_cases c : x = 1
      · rw [if_pos c] at h
        rcases List.mem_cons.mp h with e | e
        · exact ⟨0, by omega, by rw [c]; rfl⟩
        · obtain ⟨j, e1, e2⟩ := ih.mp e
          exact ⟨j + 1, by omega, by simpa using e2⟩
      · rw [if_neg c] at h
        obtain ⟨j, e1, e2⟩ := ih.mp h
        exact ⟨j + 1, by omega, by simpa using e2⟩
    · rintro ⟨j, e1, e2⟩
      cases j with
      | zero =>
        have c : x = 1 := Option.some.inj e2
        rw [if_pos c]
        exact List.mem_cons.mpr (.inl (by omega))
      | succ j =>
        have m : k ∈ ones (o + 1) xs := ih.mpr ⟨j, by omega, by simpa using e2⟩
        by_cases c : x = 1
        · rw [if_pos c]; exact List.mem_cons_of_mem _ m
        · rw [if_neg c]; exact m
theorem ones_blk (o d : Nat) : ones o (blk (d + 1)) = ones o (blk d) ++ [o + 2 * d] := by
  rw [blk_add, ones_app, blk_len]
  rfl
theorem ones_end (a : List Int) (o : Nat) : ones o (a ++ [0, 0]) = ones o a := by
  rw [ones_app]
  show ones o a ++ [] = _
  rw [List.append_nil]
theorem step2 (s : List Nat) (d : Nat) : ones 0 (pre s ++ blk (d + 1)) = ones 0 (pre s ++ blk d) ++ [(pre s).length + 2 * d] := by
  rw [ones_app, ones_app, ones_blk, List.append_assoc, Nat.zero_add]
theorem step4 (s : List Nat) (d : Nat) : ones 0 (pre (s ++ [d]) ++ blk 1) = ones 0 (pre s ++ blk d) ++ [(pre s).length + 2 * d + 2] := by
  rw [ones_app, pre_app, ← List.append_assoc, ones_end]
  have e : ((pre s ++ blk d) ++ ([0, 0] : List Int)).length = (pre s).length + 2 * d + 2 := by
    rw [List.length_append, List.length_append, blk_len]
    rfl
  rw [e, Nat.zero_add]
  rfl
theorem ones_row (s : List Nat) (d : Nat) : ones 0 (rowL (s ++ [d])) = ones 0 (pre s ++ blk d) := by
  rw [← pre_row, pre_app, ← List.append_assoc, ones_end, ones_end]
theorem ones_inj {ds es : List Nat} (h1 : ∀ d ∈ ds, 1 ≤ d) (h2 : ∀ e ∈ es, 1 ≤ e) (h : ones 0 (rowL ds) = ones 0 (rowL es)) : ds = es := by
  rcases rows_part ds es h1 h2 with q | ⟨k, q, _⟩ | ⟨k, q, _⟩
  · exact q
  · have m : k ∈ ones 0 (rowL ds) := (ones_mem _ _ _).mpr ⟨k, by omega, q.one⟩
    rw [h] at m
    obtain ⟨j, e1, e2⟩ := (ones_mem _ _ _).mp m
    rw [show j = k by omega, q.two] at e2
    cases e2
  · have m : k ∈ ones 0 (rowL es) := (ones_mem _ _ _).mpr ⟨k, by omega, q.two⟩
    rw [← h] at m
    obtain ⟨j, e1, e2⟩ := (ones_mem _ _ _).mp m
    rw [show j = k by omega, q.one] at e2
    cases e2
def St (l : List Nat) : Prop := ∀ (k a b : Nat), l[k]? = some a → l[k + 1]? = some b → b = a + 2 ∨ b = a + 4
theorem St.cons {x : Nat} {l : List Nat} (h : ∀ y, l.head? = some y → y = x + 2 ∨ y = x + 4) (s : St l) : St (x :: l) := by
  intro k a b e1 e2
  cases k with
  | zero =>
    have e : x = a := Option.some.inj e1
    subst e
    refine h b ?_
    rw [List.head?_eq_getElem?]
    exact e2
  | succ k => exact s k a b (by simpa using e1) (by simpa using e2)
theorem steps_blk {l : List Int} (hl : ∀ o, St (ones o l) ∧ ∀ y, (ones o l).head? = some y → y = o) : ∀ (d o : Nat), St (ones o (blk d ++ ([0, 0] ++ l))) ∧ ∀ y, (ones o (blk d ++ ([0, 0] ++ l))).head? = some y → (y = o ∨ y = o + 2)
  | 0, o => by
    have h := hl (o + 2)
    exact ⟨h.1, fun y e => .inr (h.2 y e)⟩
  | d + 1, o => by
    have ih := steps_blk hl d (o + 2)
    have e : ones o (blk (d + 1) ++ ([0, 0] ++ l)) = o :: ones (o + 2) (blk d ++ ([0, 0] ++ l)) := by
      rw [blk_succ]
      rfl
    rw [e]
    refine ⟨ih.1.cons fun y q => ?_, fun y q => .inl (Option.some.inj q).symm⟩
    rcases ih.2 y q with z | z
    · exact .inl z
    · exact .inr (by omega)
theorem steps_row : ∀ (es : List Nat), (∀ d ∈ es, 1 ≤ d) → ∀ o, St (ones o (rowL es)) ∧ ∀ y, (ones o (rowL es)).head? = some y → y = o
  | [], _, o => ⟨fun k a b (e : (none : Option Nat) = some a) => (by cases e), fun y (e : (none : Option Nat) = some y) => by cases e⟩
  | d :: es, h, o => by
    have ih := steps_row es fun y m => h y (List.mem_cons_of_mem _ m)
    obtain ⟨f, rfl⟩ : ∃ f, d = f + 1 := ⟨d - 1, by have := h d (by simp); omega⟩
    have q := steps_blk ih (f + 1) o
    refine ⟨q.1, fun y e => ?_⟩
    have e' : ones o (rowL ((f + 1) :: es)) = o :: ones (o + 2) (blk f ++ ([0, 0] ++ rowL es)) := by
      show ones o (blk (f + 1) ++ _) = _
      rw [blk_succ]
      rfl
    rw [e'] at e
    exact (Option.some.inj e).symm
theorem first_row (d : Nat) (es : List Nat) (h : 1 ≤ d) : (ones 0 (rowL (d :: es)))[0]? = some 0 := by
  obtain ⟨f, rfl⟩ : ∃ f, d = f + 1 := ⟨d - 1, by omega⟩
  show (ones 0 (blk (f + 1) ++ _))[0]? = _
  rw [blk_succ]
  rfl
/-! groups -/
def gaps : List Int → List Nat
  | [] => [0]
  | z :: zs => if z = 1 then (match gaps zs with | [] => [1] | g :: gs => (g + 1) :: gs) else 0 :: gaps zs
theorem gaps_ne : ∀ zs, gaps zs ≠ []
  | [] => by simp [gaps]
  | z :: zs => by
    show (if z = 1 then (match gaps zs with | [] => [1] | g :: gs => (g + 1) :: gs) else 0 :: gaps zs) ≠ []
    by_cases c : z = 1
    · rw [if_pos c]
      split <;> simp
    · rw [if_neg c]; simp
def bits (zs : List Int) : List Nat := zs.map fun z => if z = 1 then 49 else 48
theorem joinL_cons {s : List Nat} {p : List Nat} {ps : List (List Nat)} (h : ps ≠ []) : joinL s (p :: ps) = p ++ (s ++ joinL s ps) := by
  cases ps with
  | nil => exact absurd rfl h
  | cons q r => rfl
theorem joinL_one (s p : List Nat) : joinL s [p] = p := rfl
theorem map_ne {α β : Type} {f : α → β} {l : List α} (h : l ≠ []) : l.map f ≠ [] := fun e => h (List.map_eq_nil_iff.mp e)
theorem gaps_join : ∀ zs, bits zs = joinL [48] ((gaps zs).map fun g => List.replicate g 49)
  | [] => rfl
  | z :: zs => by
    have ih := gaps_join zs
    have ne := gaps_ne zs
    show (if z = 1 then 49 else 48) :: bits zs = joinL [48] ((if z = 1 then (match gaps zs with | [] => [1] | g :: gs => (g + 1) :: gs) else 0 :: gaps zs).map _)
    by_cases c : z = 1
    · rw [if_pos c, if_pos c]
      cases e : gaps zs with
      | nil => exact absurd e ne
      | cons g gs =>
        rw [e] at ih
        rw [ih]
        cases gs with
        | nil => rfl
        | cons g2 gs => rfl
    · rw [if_neg c, if_neg c, List.map_cons, joinL_cons (map_ne ne), ← ih]
      rfl
theorem gaps_sum : ∀ zs, (gaps zs).sum ≤ zs.length ∧ (gaps zs).length ≤ zs.length + 1
  | [] => by decide
  | z :: zs => by
    have ih := gaps_sum zs
    show (if z = 1 then (match gaps zs with | [] => [1] | g :: gs => (g + 1) :: gs) else 0 :: gaps zs).sum ≤ zs.length + 1 ∧ (if z = 1 then (match gaps zs with | [] => [1] | g :: gs => (g + 1) :: gs) else 0 :: gaps zs).length ≤ zs.length + 1 + 1
    by_cases c : z = 1
    · rw [if_pos c]
      cases e : gaps zs with
      | nil => exact absurd e (gaps_ne zs)
      | cons g gs =>
        rw [e, List.sum_cons, List.length_cons] at ih
        show ((g + 1) :: gs).sum ≤ _ ∧ ((g + 1) :: gs).length ≤ _
        rw [List.sum_cons, List.length_cons]
        omega
    · rw [if_neg c, List.sum_cons, List.length_cons]
      omega
theorem mem_sum {g : Nat} : ∀ {l : List Nat}, g ∈ l → g ≤ l.sum
  | a :: l, h => by
    rw [List.sum_cons]
    rcases List.mem_cons.mp h with e | e
    · omega
    · have := mem_sum e
      omega
theorem gaps_le {zs : List Int} {g : Nat} (h : g ∈ gaps zs) : g ≤ zs.length := by
  have h1 := (gaps_sum zs).1
  have h2 : g ≤ (gaps zs).sum := mem_sum h
  omega
theorem ev2_row : ∀ ds, Hf.ev2 (rowL ds) = (match ds with | [] => [0] | d :: r => List.replicate d 1 ++ (0 :: Hf.ev2 (rowL r)))
  | [] => rfl
  | d :: r => by
    show Hf.ev2 (blk d ++ ([0, 0] ++ rowL r)) = List.replicate d 1 ++ (0 :: Hf.ev2 (rowL r))
    induction d with
    | zero => rfl
    | succ d ih =>
      rw [blk_succ, List.replicate_succ]
      show (1 : Int) :: Hf.ev2 (blk d ++ ([0, 0] ++ rowL r)) = _
      rw [ih]
      rfl
theorem gaps_rep (l : List Int) (d : Nat) : gaps (List.replicate d 1 ++ (0 :: l)) = d :: gaps l := by
  induction d with
  | zero => rfl
  | succ d ih =>
    rw [List.replicate_succ]
    show (if (1 : Int) = 1 then (match gaps (List.replicate d 1 ++ (0 :: l)) with | [] => [1] | g :: gs => (g + 1) :: gs) else _) = _
    rw [if_pos rfl, ih]
theorem gaps_row : ∀ ds, gaps (Hf.ev2 (rowL ds)) = ds ++ [0, 0]
  | [] => rfl
  | d :: r => by
    rw [ev2_row]
    show gaps (List.replicate d 1 ++ (0 :: Hf.ev2 (rowL r))) = _
    rw [gaps_rep, gaps_row r]
    rfl
end Wm

/-! Ticks of bent rows as data. -/
namespace Wm
open PySem L2
inductive Tk : PyData → Prop
  | int {i : Int} : i.natAbs < 1000000 → Tk (.int i)
  | bl (b : Bool) : Tk (.bool b)
  | non : Tk .none
  | one : Tk (.str "1")
  | lst : Tk (.list [.int 0])
def Item (K : PySem.W.Frag) (H : Hp) (x : V) : Prop := ∃ d, Dp K H x d ∧ Tk d
theorem sqL_keep {K : PySem.W.Frag} {H H' : Hp} {a : Addr} {xs : List V} (e : Same H H') (h : SqL K H a xs) : SqL K H' a xs := by
  rcases h with (h | ⟨o, h⟩) | h
  · exact .inl (.inl (e _ _ h))
  · exact .inl (.inr ⟨o, e _ _ h⟩)
  · exact .inr h
theorem tk_keep {K : PySem.W.Frag} {H H' : Hp} {x : V} {d : PyData} (e : Same H H') (h : Dp K H x d) (t : Tk d) : Dp K H' x d := by
  cases t with
  | int _ => cases h; exact .int _
  | bl b => cases h; exact .bl _
  | non => cases h; exact .non
  | one => cases h; exact .str _
  | lst =>
    cases h with
    | lst q a =>
      refine .lst (sqL_keep e q) ?_
      cases a with
      | cons b c =>
        cases b
        cases c
        exact .cons (.int _) .nil
theorem Item.keep {K : PySem.W.Frag} {H H' : Hp} {x : V} (e : Same H H') (h : Item K H x) : Item K H' x := let ⟨d, a, b⟩ := h; ⟨d, tk_keep e a b, b⟩
theorem tks_keep {K : PySem.W.Frag} {H H' : Hp} (e : Same H H') : ∀ {xs : List V} {ds : List PyData}, DpAll K H xs ds → (∀ d ∈ ds, Tk d) → DpAll K H' xs ds
  | _, _, .nil, _ => .nil
  | _, _, .cons a b, t => .cons (tk_keep e a (t _ (by simp))) (tks_keep e b fun d m => t d (List.mem_cons_of_mem _ m))
theorem items_data {K : PySem.W.Frag} {H : Hp} : ∀ {xs : List V}, (∀ x ∈ xs, Item K H x) → ∃ ds, DpAll K H xs ds ∧ (∀ d ∈ ds, Tk d) ∧ ds.length = xs.length
  | [], _ => ⟨[], .nil, by simp, rfl⟩
  | x :: xs, h => by
    obtain ⟨d, a, b⟩ := h x (by simp)
    obtain ⟨ds, c1, c2, c3⟩ := items_data (xs := xs) fun y m => h y (List.mem_cons_of_mem _ m)
    refine ⟨d :: ds, .cons a c1, fun y m => ?_, by rw [List.length_cons, List.length_cons, c3]⟩
    rcases List.mem_cons.mp m with q | q
    · rw [q]; exact b
    · exact c2 y q
theorem item_int {K : PySem.W.Frag} {H : Hp} {i : Int} (h : i.natAbs < 1000000) : Item K H (.int i) := ⟨_, .int i, .int h⟩
theorem tk_lay {d : PyData} (t : Tk d) : d.canLay0 = true ∧ d.depth ≤ 1 := by
  cases t with
  | int _ => exact ⟨by simp [PyData.canLay0], by simp [PyData.depth]⟩
  | bl b => exact ⟨by simp [PyData.canLay0], by simp [PyData.depth]⟩
  | non => exact ⟨by simp [PyData.canLay0], by simp [PyData.depth]⟩
  | one => exact ⟨by decide +kernel, by simp [PyData.depth]⟩
  | lst => exact ⟨by simp [PyData.canLay0, PyData.canLayAll0], by simp [PyData.depth, PyData.depthAll]⟩
theorem tks_lay : ∀ {ds : List PyData}, (∀ d ∈ ds, Tk d) → PyData.canLayAll0 ds = true ∧ PyData.depthAll ds ≤ 1
  | [], _ => by simp [PyData.canLayAll0, PyData.depthAll]
  | d :: ds, h => by
    have h1 := tk_lay (h d (by simp))
    have h2 := tks_lay (ds := ds) fun y m => h y (List.mem_cons_of_mem _ m)
    simp only [PyData.canLayAll0, PyData.depthAll, h1.1, h2.1, Bool.and_self, true_and]
    omega
theorem tks_shaped {ds : List PyData} (h : ∀ d ∈ ds, Tk d) : SeqAt.shaped (.list ds) = true := by
  have q := tks_lay h
  have e : decide ((PyData.list ds).depth ≤ 64) = true := decide_eq_true (by simp only [PyData.depth]; omega)
  show ((PyData.list ds).canLay0 && _) = true
  rw [e, Bool.and_true]
  exact q.1
theorem tk_show {d : PyData} (t : Tk d) : d.showable = true ∧ d.hasDict = false ∧ d.leavesShort 13 = true ∧ d.weight ≤ 30 := by
  cases t with
  | @int i h =>
    have hl : i.natAbs.log2 < 20 ∨ i = 0 := by
      by_cases z : i = 0
      · exact .inr z
      · exact .inl ((Nat.log2_lt (by omega)).mpr (by omega))
    refine ⟨decide_eq_true ?_, rfl, decide_eq_true (PyData.shown_int_le (by omega)), ?_⟩
    · rcases hl with z | z
      · omega
      · subst z; decide
    · rcases hl with z | z
      · simp only [PyData.weight]; split <;> omega
      · subst z; decide
  | bl b => exact ⟨rfl, rfl, rfl, by simp [PyData.weight]⟩
  | non => exact ⟨rfl, rfl, rfl, by simp [PyData.weight]⟩
  | one => exact ⟨rfl, rfl, by decide +kernel, by decide +kernel⟩
  | lst => exact ⟨by decide +kernel, rfl, by decide +kernel, by decide +kernel⟩
theorem tks_show : ∀ {ds : List PyData}, (∀ d ∈ ds, Tk d) → PyData.showableAll ds = true ∧ PyData.hasDictAll ds = false ∧ PyData.leavesShortAll 13 ds = true ∧ PyData.weightAll ds ≤ 31 * ds.length
  | [], _ => by simp [PyData.showableAll, PyData.hasDictAll, PyData.leavesShortAll, PyData.weightAll]
  | d :: ds, h => by
    have h1 := tk_show (h d (by simp))
    have h2 := tks_show (ds := ds) fun y m => h y (List.mem_cons_of_mem _ m)
    simp only [PyData.showableAll, PyData.hasDictAll, PyData.leavesShortAll, PyData.weightAll, h1.1, h1.2.1, h1.2.2.1, h2.1, h2.2.1, h2.2.2.1, Bool.and_self, Bool.or_self, true_and, List.length_cons]
    omega
theorem tks_shown {ds : List PyData} (h : ∀ d ∈ ds, Tk d) (l : ds.length ≤ 1000) : (PyData.list ds).shown.length ≤ sizeLine :=
  PyData.shown_fits (B := 13) (by decide) (by decide) (tks_show h).2.2.1 (Nat.le_trans (tks_show h).2.2.2 (by omega))
def isI : V → Bool
  | .int _ => true
  | _ => false
def isBit (x : V) : Bool := decide (x = .int 0) || decide (x = .int 1)
theorem all_ints {xs : List V} (h : ∀ x ∈ xs, isI x = true) : ∃ zs : List Int, xs = zs.map V.int := by
  induction xs with
  | nil => exact ⟨[], rfl⟩
  | cons x xs ih =>
    obtain ⟨zs, e⟩ := ih fun y m => h y (List.mem_cons_of_mem _ m)
    have hx := h x (by simp)
    cases x with
    | int i => exact ⟨i :: zs, by rw [e]; rfl⟩
    | _ => cases hx
theorem all_bits {xs : List V} (h : ∀ x ∈ xs, isBit x = true) : ∃ zs : List Int, xs = zs.map V.int ∧ ∀ z ∈ zs, z = 0 ∨ z = 1 := by
  induction xs with
  | nil => exact ⟨[], rfl, by simp⟩
  | cons x xs ih =>
    obtain ⟨zs, e, b⟩ := ih fun y m => h y (List.mem_cons_of_mem _ m)
    have hx := h x (by simp)
    have hc : x = .int 0 ∨ x = .int 1 := by
      rcases Bool.or_eq_true_iff.mp hx with q | q
      · exact .inl (of_decide_eq_true q)
      · exact .inr (of_decide_eq_true q)
    have : ∃ i : Int, x = .int i ∧ (i = 0 ∨ i = 1) := by
      rcases hc with q | q
      · exact ⟨0, q, .inl rfl⟩
      · exact ⟨1, q, .inr rfl⟩
    obtain ⟨i, rfl, hi⟩ := this
    refine ⟨i :: zs, by rw [e]; rfl, fun z m => ?_⟩
    rcases List.mem_cons.mp m with q | q
    · rw [q]; exact hi
    · exact b z q
/-- what isinstance asks of such a tick -/
theorem tyx_of {K : PySem.W.Frag} {H : Hp} {x : V} (h : Item K H x) : ∃ (n : String) (a b : Bool), TyX K H x (.type n) ∧ PySem.W.kitOne K (.type n) (.type "int") = some a ∧
    PySem.W.kitOne K (.type n) (.type "bool") = some b ∧ (a && !b) = isI x := by
  obtain ⟨d, h, t⟩ := h
  cases t with
  | int _ => cases h; exact ⟨"int", true, false, .base (.int _), kit_ty (by decide +kernel), kit_ty (by decide +kernel), rfl⟩
  | bl b => cases h; exact ⟨"bool", true, true, .base (.bl _), kit_ty (by decide +kernel), kit_ty (by decide +kernel), rfl⟩
  | non => cases h; exact ⟨"NoneType", false, false, .base .non, kit_ty (by decide +kernel), kit_ty (by decide +kernel), rfl⟩
  | one => cases h; exact ⟨"str", false, false, .base (.str _), kit_ty (by decide +kernel), kit_ty (by decide +kernel), rfl⟩
  | lst =>
    cases h with
    | lst q a =>
      rcases q with (q | ⟨o, q⟩) | q
      · exact ⟨"list", false, false, .base (.lst q), kit_ty (by decide +kernel), kit_ty (by decide +kernel), rfl⟩
      · exact ⟨"list", false, false, .base (.frz q), kit_ty (by decide +kernel), kit_ty (by decide +kernel), rfl⟩
      · obtain ⟨o, xs, n, e, c, _⟩ := q
        exact ⟨"list", false, false, .kList e c, kit_ty (by decide +kernel), kit_ty (by decide +kernel), rfl⟩
/-- a list or a tuple -/
def SqA (K : PySem.W.Frag) (H : Hp) (a : Addr) (xs : List V) : Prop := SqL K H a xs ∨ SqT K H a xs
theorem SqA.keep {K : PySem.W.Frag} {H H' : Hp} {a : Addr} {xs : List V} (e : Same H H') (h : SqA K H a xs) : SqA K H' a xs := h.imp (sqL_keep e) (sameT e)
end Wm

/-! Texts of digits: halves, groups, the number they tell. -/
namespace Wm
open PySem L2 TL
def oneS (g : Nat) : Str := ⟨(List.replicate g 49).toArray⟩
def bitS (z : Int) : Str := if z = 1 then "1" else "0"
def decS (g : Nat) : Str := ((toString (g : Int) : String) : Str)
theorem bit_str {z : Int} (h : z = 0 ∨ z = 1) : ((toString z : String) : Str) = bitS z := by
  rcases h with e | e <;> subst e <;> decide +kernel
theorem tl_bit (z : Int) : tl (bitS z) = [if z = 1 then 49 else 48] := by
  unfold bitS
  by_cases c : z = 1
  · rw [if_pos c, if_pos c]; decide +kernel
  · rw [if_neg c, if_neg c]; decide +kernel
theorem joinL_nil : ∀ ps : List (List Nat), joinL [] ps = ps.flatten
  | [] => rfl
  | [p] => by show p = [p].flatten; simp
  | p :: q :: r => by
    show p ++ ([] ++ joinL [] (q :: r)) = _
    rw [joinL_nil (q :: r), List.nil_append]
    rfl
theorem tl_empty : tl ("" : Str) = [] := by decide +kernel
theorem tl_zero : tl ("0" : Str) = [48] := by decide +kernel
theorem tl_join0 (ys : List Str) : tl (Txt.join "" ys) = (ys.map tl).flatten := by
  rw [join_eq, tl_join, tl_empty, joinL_nil]
theorem bits_flat : ∀ zs : List Int, ((zs.map bitS).map tl).flatten = bits zs
  | [] => rfl
  | z :: zs => by
    rw [List.map_cons, List.map_cons, List.flatten_cons, bits_flat zs, tl_bit]
    rfl
theorem halves_eq (zs : List Int) : Txt.join "" (zs.map bitS) = Txt.join "0" ((gaps zs).map oneS) := by
  refine ext_tl ?_
  rw [tl_join0, bits_flat, gaps_join, join_eq, tl_join, tl_zero, List.map_map]
  rfl
theorem groups_eq (zs : List Int) : Txt.split (Txt.join "" (zs.map bitS)) "0" = (gaps zs).map oneS := by
  rw [halves_eq]
  refine split_join (s := 48) (S := []) tl_zero (by decide +kernel) (map_ne (gaps_ne zs)) fun p hp h => ?_
  obtain ⟨g, _, rfl⟩ := List.mem_map.mp hp
  have h : 48 ∈ List.replicate g 49 := h
  exact absurd (List.mem_replicate.mp h).2 (by decide)
theorem oneS_len (g : Nat) : (oneS g).length = g := by
  rw [len_tl]
  show (List.replicate g 49).length = g
  rw [List.length_replicate]
theorem halves_len (zs : List Int) : (Txt.join "" (zs.map bitS)).length = zs.length := by
  rw [len_tl, tl_join0, bits_flat]
  unfold bits
  rw [List.length_map]
theorem len4 : ∀ g : Fin 1001, (decS g.val).length ≤ 4 := by decide +kernel
theorem dec_len {g : Nat} (h : g ≤ 1000) : (decS g).length ≤ 4 := len4 ⟨g, by omega⟩
theorem dec_sum : ∀ {gs : List Nat}, (∀ g ∈ gs, g ≤ 1000) → ((gs.map decS).map (·.length)).sum ≤ 4 * gs.length
  | [], _ => by simp
  | g :: gs, h => by
    have h1 := dec_len (h g (by simp))
    have h2 := dec_sum (gs := gs) fun y m => h y (List.mem_cons_of_mem _ m)
    rw [List.map_cons, List.map_cons, List.sum_cons, List.length_cons]
    omega
theorem join0_len (ys : List Str) : (Txt.join "" ys).length = (ys.map (·.length)).sum := by
  rw [len_tl, tl_join0]
  induction ys with
  | nil => rfl
  | cons y ys ih => rw [List.map_cons, List.flatten_cons, List.length_append, ih, List.map_cons, List.sum_cons, len_tl]
theorem bit_sum (zs : List Int) : ((zs.map bitS).map (·.length)).sum = zs.length := by rw [← join0_len, halves_len]
theorem num_text : ∀ {ds : List Nat}, (∀ d ∈ ds, 1 ≤ d ∧ d ≤ 9) → Txt.join "" (ds.map decS) = numS ds
  | [], _ => by decide +kernel
  | d :: ds, h => by
    have ih := num_text (ds := ds) fun y m => h y (List.mem_cons_of_mem _ m)
    refine ext_tl ?_
    rw [tl_join0, List.map_cons, List.map_cons, List.flatten_cons, ← tl_join0, ih]
    have e : decS d = numS [d] := dig_str (h d (by simp))
    rw [e]
    rfl
/-- the number that a row of bits tells, if it is a row -/
def told (zs : List Int) : Str := Txt.join "" ((gaps (Hf.ev2 zs)).dropLast.dropLast.map decS)
theorem told_row {ds : List Nat} (h : ∀ d ∈ ds, 1 ≤ d ∧ d ≤ 9) : told (rowL ds) = numS ds := by
  unfold told
  rw [gaps_row, ← num_text h]
  congr 2
  show (ds ++ [0, 0]).dropLast.dropLast = ds
  rw [show (ds ++ [0, 0]) = (ds ++ [0]) ++ [0] by simp, List.dropLast_concat, List.dropLast_concat]
theorem digits_codes : ("123456789" : Str).cps.toList = [49, 50, 51, 52, 53, 54, 55, 56, 57] := by decide +kernel
theorem dig_text (t : Str) (h : ∀ c ∈ tl t, c ∈ ("123456789" : Str).cps.toList) : ∃ ds : List Nat, (∀ d ∈ ds, 1 ≤ d ∧ d ≤ 9) ∧ t = numS ds := by
  have h2 : ∀ c ∈ tl t, 49 ≤ c ∧ c ≤ 57 := fun c m => by
    have q := h c m
    rw [digits_codes] at q
    simp only [List.mem_cons, List.not_mem_nil, or_false] at q
    omega
  refine ⟨(tl t).map (· - 48), fun d m => ?_, ?_⟩
  · obtain ⟨c, mc, rfl⟩ := List.mem_map.mp m
    have := h2 c mc
    omega
  · refine ext_tl ?_
    show tl t = ((tl t).map (· - 48)).map (· + 48)
    rw [List.map_map]
    refine (List.map_id _).symm.trans (List.map_congr_left fun c m => ?_)
    have := h2 c m
    show c = c - 48 + 48
    omega
theorem num_codes {ds : List Nat} (h : ∀ d ∈ ds, 1 ≤ d ∧ d ≤ 9) : ∀ c ∈ tl (numS ds), c ∈ ("123456789" : Str).cps.toList := fun c m => by
  have m : c ∈ codes ds := m
  obtain ⟨d, md, rfl⟩ := List.mem_map.mp m
  exact dig_in (h d md)
def IsNum (t : Str) : Prop := ∃ ds, Num ds ∧ t = numS ds
theorem isnum_dig {ds : List Nat} : IsNum (numS ds) ↔ Num ds :=
  ⟨fun ⟨es, N, e⟩ => by rw [numS_inj e]; exact N, fun N => ⟨ds, N, rfl⟩⟩
theorem row_inj {ds es : List Nat} (N : Num ds) (M : Num es) (h : (rowL ds).map V.int = (rowL es).map V.int) : ds = es := by
  have e : rowL ds = rowL es := by
    have q := congrArg (List.map fun v => match v with | V.int i => i | _ => 0) h
    simpa [List.map_map, Function.comp_def] using q
  exact ones_inj (fun d m => (N.dig d m).1) (fun d m => (M.dig d m).1) (by rw [e])
theorem map_int_inj {xs ys : List Int} (h : xs.map V.int = ys.map V.int) : xs = ys := by
  have q := congrArg (List.map fun v => match v with | V.int i => i | _ => 0) h
  simpa [List.map_map, Function.comp_def] using q
/-- what number_of tells of a row -/
def Told (xs : List V) (v : V) : Prop := (∃ ds, Num ds ∧ xs = (rowL ds).map V.int ∧ v = .str (numS ds)) ∨ ((∀ ds, Num ds → xs ≠ (rowL ds).map V.int) ∧ v = .non)
theorem Told.uniq {xs : List V} {v u : V} (a : Told xs v) (b : Told xs u) : v = u := by
  rcases a with ⟨ds, N, e, rfl⟩ | ⟨n, rfl⟩
  · rcases b with ⟨es, M, f, rfl⟩ | ⟨n, _⟩
    · rw [row_inj N M (e.symm.trans f)]
    · exact absurd e (n ds N)
  · rcases b with ⟨es, M, f, rfl⟩ | ⟨_, rfl⟩
    · exact absurd f (n es M)
    · rfl
theorem Told.row {ds : List Nat} {v : V} (N : Num ds) (a : Told ((rowL ds).map V.int) v) : v = .str (numS ds) := a.uniq (.inl ⟨ds, N, rfl, rfl⟩)
end Wm

/-! enumerate of a tuple, as a thing that a for walks. -/
namespace Es
open PySem PySem.Spec PyProof.Rows L2
theorem meets_ent (t : Addr) (its : Array Value) (m : Nat) (dd : Option Addr) (slo : Array (Option Value)) :
    Meets (Builtin.«enumerate.__new__» ⟨[.type "enumerate", .ref t], []⟩) (fun _ R s => s.heap.get? t = some { cls := .type "tuple", dict := dd, data := .seq its m, slots := slo } ∧
      R (.ok (.ret (.ref (s.heap.push { cls := .type "tuple_iterator", data := .fields #[.ref t, .int 0 0] }).objs.size))) { s with heap := (s.heap.push { cls := .type "tuple_iterator", data := .fields #[.ref t, .int 0 0] }).push { cls := .type "enumerate", data := .fields #[.none, .bool false, .ref s.heap.objs.size, rawInt 0, .none, .none] } }) :=
  .of_wp fun prog w A R s h => by
    obtain ⟨hp, gn, dr, tk, os⟩ := s
    obtain ⟨ht, h⟩ := h
    have hsub := sub_enumerate
    have hT : Heap.IsTuple (Shared.heap ⟨hp, gn, dr, tk, os⟩) t its := ⟨_, ht, rfl, m, rfl⟩
    wp_walk using AutoSeq1.wpAny_loadPart' ht
    refine wpAny_stack_any fun st => wpAny_pure ?_
    split
    · rename_i c _ _ _ _ _
      cases (c == Value.type "enumerate")
      · wp_walk using AutoSeq1.wpAny_loadPart' ht, wpAny_pyIter_tuple hT
        exact ⟨_, rfl, h⟩
      · wp_walk using AutoSeq1.wpAny_loadPart' ht, wpAny_pyIter_tuple hT
        exact ⟨_, rfl, h⟩
    · wp_walk using AutoSeq1.wpAny_loadPart' ht, wpAny_pyIter_tuple hT
      exact ⟨_, rfl, h⟩
section
variable {prog : Program} {w : World} {A : Around} {E : Value → Shared → Prop} {s : Shared}
theorem call_ent {t : Addr} {its : Array Value} {Q : Value → Shared → Prop} (ht : s.heap.IsTuple t its)
    (q : ∀ g, IsEnum g (s.heap.objs.size + 1) s.heap.objs.size 0 .none → g.IsTupleIter s.heap.objs.size t 0 → (∀ b o, s.heap.get? b = some o → g.get? b = some o) → Q (.ref (s.heap.objs.size + 1)) { s with heap := g }) :
    wpAny (model prog w) A (call (.type "enumerate") [.ref t]) Q E s := by
  obtain ⟨⟨tc, td, tdat, tsl⟩, h0, h1, m, h2⟩ := ht
  simp only at h1 h2
  subst h1 h2
  refine callType_new F.called_enumerate (by decide) (F.typeCall_enumerate_1 _) (F.newCall_enumerate_1 _) (fun ob => F.args_object_init_2 ob _) F.entry_enumerate_new (meets_ent t its m td tsl) ⟨h0, ?_⟩
  have hz : (s.heap.push { cls := .type "tuple_iterator", data := .fields #[.ref t, .int 0 0] }).objs.size = s.heap.objs.size + 1 := Heap.size_push ..
  have er : IsEnum ((s.heap.push { cls := .type "tuple_iterator", data := .fields #[.ref t, .int 0 0] }).push { cls := .type "enumerate", data := .fields #[.none, .bool false, .ref s.heap.objs.size, rawInt 0, .none, .none] }) (s.heap.objs.size + 1) s.heap.objs.size 0 .none := by
    rw [← hz]
    exact Heap.get?_push_size _ rfl
  show _ ∧ _
  rw [hz]
  exact ⟨⟨_, er, rfl⟩, q _ er ⟨_, Heap.get?_push_of_some _ (Heap.get?_push_size _ rfl), rfl, rfl⟩ fun b o x => Heap.get?_push_of_some _ (Heap.get?_push_of_some _ x)⟩
theorem tup_end {e it t : Addr} {i : Nat} {its : Array Value} {old : Value} {k : Int} {Q : Option Value → Shared → Prop} (hh : A.handled = none) (er : IsEnum s.heap e it k old) (ti : s.heap.IsTupleIter it t i) (ht : s.heap.IsTuple t its) (hx : its[i]? = none)
    (q : ∀ g, Heap.ExtBut it s.heap g → Q none { s with heap := g }) : wpAny (model prog w) A (pyNext (.ref e)) Q E s := by
  have te : s.TypeIs (.ref e) "enumerate" := ⟨_, er, rfl⟩
  unfold pyNext
  refine wpAny_bind (wpAny_attempt (wpAny_callSpecial?_slot (name := Str.ofString "__next__") te F.slot_enumerate_next (wpAny_call_entry F.slot_enumerate_next te F.entry_enumerate_next ?_ (F.args_enumerate_next_1 _))))
  show wpAny _ _ (field (.ref e) 2 >>= _) _ _ _
  refine wpAny_bind (wpAny_field er rfl (x := .ref it) rfl ?_)
  refine wpAny_bind (wpAny_nextOf_tuple_end (show A.in1.handled = none from hh) ti ht hx fun g x k1 ⟨o, k2, k3⟩ => ?_)
  refine wpAny_bind (wpAny_isInstance (T := "StopIteration") (b := true) ⟨o, k2, k3⟩ isSubtype_stop ?_)
  exact wpAny_pure (q _ k1)
end
def Iten (K : PySem.W.Frag) (a : Addr) : It :=
  ⟨fun i H => ∃ (xs : List V) (x : V), SqT K H a xs ∧ xs[i]? = some x, fun i H v H' => ∃ T x, v = .ref T ∧ H T = none ∧ H' = upd H T (.tup [.int (i : Nat), x]) ∧ ∀ xs, SqT K H a xs → xs[i]? = some x, fun i H => ∃ xs : List V, SqT K H a xs ∧ xs.length ≤ i⟩
theorem turn_ent {P : Program} {w : World} {K : PySem.W.Frag} {elts : List Expr} {kk : Nat} {tpos : Pos} (a e it : Addr) (nei : e ≠ it) (nea : e ≠ a) (nai : a ≠ it) :
    Turn P w K (.Tuple elts kk tpos) (Iten K a) [e, it] e (fun i h => (∃ old, IsEnum h e it ((i : Nat) : Int) old) ∧ h.IsTupleIter it a i) where
  mem := by simp
  obj := fun i h st b hb => by
    obtain ⟨⟨old, er⟩, o, ho, _, hd⟩ := st
    have hb' : b = e ∨ b = it := by simpa using hb
    rcases hb' with z | z
    · rw [z]
      exact ⟨_, er, fun v q => nomatch q⟩
    · rw [z]
      exact ⟨o, ho, fun v q => by rw [hd] at q; cases q⟩
  keep := fun i h g st k => by
    obtain ⟨⟨old, er⟩, ti⟩ := st
    exact ⟨⟨old, k e (by simp) _ er⟩, ti.at fun o q => k it (by simp) o q⟩
  item := by
    intro X hP hw hK hc i pins s σ H E I hf st hg
    subst hP hw hK
    obtain ⟨⟨old, er⟩, ti⟩ := st
    obtain ⟨xs, x, hq, hx⟩ := hg
    obtain ⟨its, rv, p, _⟩ := I.tuple hq
    obtain ⟨u, hu, ru⟩ := rv.get hx
    have el : e < s.heap.objs.size := Heap.lt_size er
    have il : it < s.heap.objs.size := by
      obtain ⟨_, q, _⟩ := id ti
      exact Heap.lt_size q
    have hlt : i < its.toArray.size := by
      have q := (List.getElem?_eq_some_iff.mp hu).1
      simpa using q
    have hd : X.A.in1.handled = none := I.ok.hd hc
    refine wpAny_pyNext_enum_itemD (Draws.tuple hd it a nai its.toArray) er ⟨ti, p⟩ hlt nei (by simp [nei, nea]) fun y g tk hy eo st2 hT hsz hk => ?_
    have ey : y = u := by
      rw [show its.toArray[i]? = some u by simpa using hu] at hy
      exact (Option.some.inj hy).symm
    subst ey
    refine ⟨_, rfl, wpAny_letOwnedTupleGo_enum (s := { s with heap := g, toks := tk + 1 }) eo fun g2 er2 sb => ?_⟩
    have hT2 : g2.get? s.heap.objs.size = some { cls := .type "tuple", data := .seq #[.int i tk, y] } := (sb.2 _ (Nat.ne_of_gt el)).trans hT
    have new : ObjOk X.prog X.w (upd H s.heap.objs.size (.tup [.int (i : Nat), x])) g2 s.heap.objs.size (.tup [.int (i : Nat), x]) := ⟨by show 2 ≤ sizeLine; decide, [.int i tk, y], .cons ⟨_, rfl⟩ (.cons ru .nil), ⟨_, hT2, rfl, _, rfl⟩⟩
    have I1 : Inv X pins σ (upd H s.heap.objs.size (.tup [.int (i : Nat), x])) { s with heap := g2, toks := tk + 1 } := I.turnedNew (ch := [e, it]) (fun b ob hb q => (sb.2 b (fun z => hb (by simp [z]))).trans (hk b ob (fun z => hb (by simp [z])) (fun z => hb (by simp [z])) q)) hf (Nat.le_refl _) new
    refine ⟨.ref s.heap.objs.size, _, I1, rfl, ⟨_, x, rfl, I.hok.fresh (Nat.le_refl _), rfl, fun ys hy => by rw [I.tuple_inj hy hq]; exact hx⟩, ⟨⟨y, ?_⟩, st2.1.at fun o q => (sb.2 it nei.symm).trans q⟩, fun b hb => ?_⟩
    · rw [show ((i + 1 : Nat) : Int) = (i : Int) + 1 by omega]
      exact er2
    · have lb : b < s.heap.objs.size := by
        have hb' : b = e ∨ b = it := by simpa using hb
        rcases hb' with z | z
        · rw [z]; exact el
        · rw [z]; exact il
      rw [upd_ne (Nat.ne_of_lt lb)]
      exact (hf b hb).1
  done := by
    intro X hP hw hK hc i pins s σ H E I hf st hg
    subst hP hw hK
    obtain ⟨⟨old, er⟩, ti⟩ := st
    obtain ⟨xs, hq, hx⟩ := hg
    obtain ⟨its, rv, p, _⟩ := I.tuple hq
    have hl := rv.length
    exact tup_end (I.ok.hd hc) er ti p (by simp; omega) fun g kg => ⟨rfl, I.turnedL (t' := s.toks) (ch := [e, it]) (fun b o hb q => kg b o (fun z => hb (by simp [z])) q) hf⟩
  self := fun A i s Q E st h => let ⟨⟨_, er⟩, _⟩ := st; wpAny_pyIter_enum er h
def iEnt (K : PySem.W.Frag) (ta : TA) : TI := fun σ H R => ta σ H fun vs H1 => ∃ a xs, vs = [.ref a] ∧ SqT K H1 a xs ∧ R (Iten K a) H1
theorem pi_ent {X : Cx} {e : Expr} {ta : TA} {p pos tpos : Pos} {elts : List Expr} {kk : Nat} (hg : Gl X "enumerate") (hm : X.mg "enumerate" = none) (ha : PA X [e] ta) (hs : starEach [e] X.env = [(false, eval e X.env)] := by rfl) :
    PI X (.Tuple elts kk tpos) (.Call (.Name "enumerate" p) [e] [] pos) (iEnt X.K ta) := by
  refine ⟨fun pins s σ H R I h => ?_⟩
  refine Call_ (ld_blt I hg hm boot_enumerate (PyProof.Rows.callWith_type1 (thn (ha.run pos pins s σ H _ I h) fun us s1 ⟨vs, H1, I1, r1, q1⟩ => ?_) hs rfl))
  obtain ⟨a, xs, ev, hq, q⟩ := q1
  subst ev
  cases r1 with
  | cons r rr =>
    cases rr
    cases r
    obtain ⟨its, rv, pt, _⟩ := I1.tuple hq
    obtain ⟨ot, hot, _⟩ := id pt
    have al : a < s1.heap.objs.size := Heap.lt_size hot
    refine call_ent (show s1.heap.IsTuple a its.toArray from pt) fun g er ti kg => wpAny_pyIter_enum er ?_
    have I2 : Inv X pins σ H1 { s1 with heap := g } := I1.kept (t' := s1.toks) kg
    refine ⟨s1.heap.objs.size + 1, [s1.heap.objs.size + 1, s1.heap.objs.size], _, _, H1, rfl, I2, turn_ent a (s1.heap.objs.size + 1) s1.heap.objs.size (Nat.succ_ne_self _) (Nat.ne_of_gt (Nat.lt_succ_of_lt al)) (Nat.ne_of_lt al), ⟨⟨.none, er⟩, ti⟩, fun b hb => ?_, q⟩
    have hb' : b = s1.heap.objs.size + 1 ∨ b = s1.heap.objs.size := by simpa using hb
    have le : s1.heap.objs.size ≤ b := by
      rcases hb' with z | z
      · rw [z]; exact Nat.le_add_right _ _
      · rw [z]; exact Nat.le_refl _
    exact I1.fpOk le (I1.hok.fresh le)
theorem walk_ent {K : PySem.W.Frag} {a : Addr} {xs : List V} : Walk (Iten K a) xs.length (fun H => SqT K H a xs) (YPair (fun i => some (.int (i : Nat))) (fun i => xs[i]?)) := by
  refine ⟨fun i _ hi q => ⟨xs, xs[i], q, by simp [hi]⟩, fun _ q => ⟨xs, q, Nat.le_refl _⟩, fun i H v H' _ q y => ?_⟩
  obtain ⟨T, x, y1, y2, y3, y4⟩ := y
  exact ⟨T, .int (i : Nat), x, y1, y2, y3, rfl, y4 xs q⟩
end Es

/-! len(set(xs)) of a list of texts: how many different ones. -/
namespace Sl
open PySem PySem.Spec PyProof.Rows
section
variable {prog : Program} {w : World} {A : Around} {E : Value → Shared → Prop} {s : Shared}
/-- c different ones among the first i: c = i just if they differ -/
def Cnt (xs : List Str) (i c : Nat) : Prop := c ≤ i ∧ (c = i ↔ (xs.take i).Nodup)
theorem cnt_zero (xs : List Str) : Cnt xs 0 0 := ⟨Nat.le_refl _, by simp⟩
theorem cnt_succ {xs : List Str} {i c : Nat} {x : Str} (h : Cnt xs i c) (hx : xs[i]? = some x) : Cnt xs (i + 1) (if decide (x ∈ xs.take i) = true then c else c + 1) := by
  obtain ⟨h1, h2⟩ := h
  have e : xs.take (i + 1) = xs.take i ++ [x] := by rw [List.take_add_one, hx]; rfl
  by_cases m : x ∈ xs.take i
  · rw [decide_eq_true m, if_pos rfl]
    refine ⟨by omega, ⟨fun z => absurd z (by omega), fun z => ?_⟩⟩
    rw [e, List.nodup_append] at z
    exact absurd rfl (z.2.2 x m x (by simp))
  · rw [decide_eq_false m, if_neg (by decide)]
    refine ⟨by omega, ?_⟩
    rw [e, List.nodup_append]
    constructor
    · intro z
      refine ⟨h2.mp (by omega), by simp, fun a ha b hb q => m ?_⟩
      rw [List.mem_singleton] at hb
      rw [← hb, ← q]
      exact ha
    · intro z
      have := h2.mpr z.1
      omega
abbrev so (led : Bool) : Obj := { cls := .type "set", dict := none, data := .set #[] 0 (.fresh 0 0 led) }
theorem at_keep {h h' : Heap} {S : Addr} {f : Str → Bool} {n : Nat} (R : h.SetOf (PySem.strKind prog w) S f n) (k : ∀ o, h.get? S = some o → h'.get? S = some o) : h'.SetOf (PySem.strKind prog w) S f n := by
  obtain ⟨o, es, ep, t, ho, r⟩ := R
  exact ⟨o, es, ep, t, k _ ho, r⟩
theorem fill {R : Result → Shared → Prop} {I : Addr} {fp wr : List Addr} {G : Array GenState → Array GenState → Prop} {n : Nat} {P : Nat → Value → Prop} {St : Nat → Shared → Prop}
    (W : WalksS prog w A.in1 I fp wr G n P St) (S : Addr) (hSf : S ∉ fp) (xs : List Str) (hsz : xs.length = n) (hb : n + 1 < scanBound) (hval : ∀ i v, P i v → ∃ x t, xs[i]? = some x ∧ v = .str x t) :
    ∀ (k i : Nat) (s : Shared), n - i = k → i ≤ n → St i s → (∃ c, Cnt xs i c ∧ s.heap.SetOf (PySem.strKind prog w) S (fun y => decide (y ∈ xs.take i)) c) →
      (∀ s' c, Moved (S :: wr) G s s' → Cnt xs n c → s'.heap.SetOf (PySem.strKind prog w) S (fun y => decide (y ∈ xs.take n)) c → R (.ok (.ret .none)) s') →
      codeAny (model prog w) A (.builtin "set.update.loop" ⟨[.ref S, .ref I], []⟩) R s := by
  have nw : S ∉ wr := fun h => hSf (W.sub _ h)
  have more : ∀ b ∈ wr, b ∈ S :: wr := fun b hb => List.mem_cons_of_mem _ hb
  intro k
  induction k with
  | zero =>
    intro i s hk hi st ⟨c, hc, hS⟩ hR
    have e : i = n := by omega
    subst e
    refine codeAny_builtin PyProof.Rows.F.entry_set_update_loop ?_
    rw [Around.under_plainId PyProof.Rows.F.plain_set_update_loop _]
    show wpAny _ A.in1 (pyNext (.ref I) >>= _) _ _ s
    refine wpAny_bind (W.done s _ _ st fun s' hm => ?_)
    show wpAny _ A.in1 (ret Value.none) _ _ s'
    exact wpAny_pure (hR s' c (hm.mono more) hc (at_keep hS fun o e => hm.heap S o nw e))
  | succ k ih =>
    intro i s hk hi st ⟨c, hc, hS⟩ hR
    have lt : i < n := by omega
    refine codeAny_builtin PyProof.Rows.F.entry_set_update_loop ?_
    rw [Around.under_plainId PyProof.Rows.F.plain_set_update_loop _]
    show wpAny _ A.in1 (pyNext (.ref I) >>= _) _ _ s
    refine wpAny_bind (W.item i s _ _ lt st fun v s' hP st' hm => ?_)
    obtain ⟨x, t, hx, rfl⟩ := hval i v hP
    have hS1 := at_keep (h' := s'.heap) hS fun o e => hm.heap S o nw e
    show wpAny _ A.in1 (holding [Value.str x t] (setAdd S (.str x t)) >>= _) _ _ s'
    refine wpAny_bind (wpAny_holding ?_)
    unfold setAdd
    refine wpAny_holding ?_
    refine wpAny_bind ((PySem.strKind prog w).pyHash (k := x) (strKind_is _ _ _ _) ?_)
    refine wpAny_setAddHashed_of (knd := PySem.strKind prog w) (s := { s' with toks := s'.toks + 1 }) (strKind_is _ _ _ _) rfl hS1 (by have := hc.1; omega) fun g same hS2 => ?_
    have hS3 := SetOf_congr (S' := fun y => decide (y ∈ xs.take (i + 1))) hS2 (fun y => by
      rw [List.take_add_one, hx]
      simp [List.mem_append]) rfl
    refine wpAny_pure ⟨plainId_quiet PyProof.Rows.F.plain_set_update_loop _, ih (i + 1) _ (by omega) lt (W.frame _ s' _ _ st' (Nat.le_succ _) fun b hb o e => ?_) ⟨_, cnt_succ hc hx, hS3⟩ fun s2 c2 m2 hc2 hS4 => ?_⟩
    · rw [same.2 b (fun h : b = S => hSf (by rw [← h]; exact hb))]
      exact e
    · refine hR s2 c2 (Moved.trans W.gtrans ((hm.mono more).then_heap (Nat.le_succ _) fun b o hb e => ?_) m2) hc2 hS4
      rw [same.2 b (fun h : b = S => hb (by rw [h]; exact List.mem_cons_self))]
      exact e
set_option maxHeartbeats 3200000 in
theorem set_strs {l : Addr} {its : Array Value} {xs : List Str} {Q : Value → Shared → Prop} (hh : A.handled = none) (hl : s.heap.IsList l its) (hi : PyProof.Rows.StrsAre its.toList xs) (hb : xs.length + 1 < scanBound)
    (q : ∀ (g : Heap) (tk c : Nat), Cnt xs xs.length c → g.SetOf (PySem.strKind prog w) s.heap.objs.size (fun y => decide (y ∈ xs.take xs.length)) c → (∀ b o, b < s.heap.objs.size → s.heap.get? b = some o → g.get? b = some o) → Q (.ref s.heap.objs.size) { s with heap := g, toks := tk }) :
    wpAny (model prog w) A (call (.type "set") [.ref l]) Q E s := by
  obtain ⟨c0, tl0, m0⟩ := PySem.F.called_set.mro
  have a1 := PySem.F.called_set.made
  have a2 := PySem.F.called_set.sub
  refine wpAny_call (codeAny_of_tree ?_)
  show wpAny _ _ (callAny (.type "set") _) _ _ _
  refine wpAny_pure ⟨Code.quiet_builtin _ (by decide +kernel), codeAny_builtin PySem.F.entry_type_call ?_⟩
  rw [Around.under_plain (weight_type_call_type "set" [.ref l] []) rfl]
  have a3 := PySem.F.called_set.notType
  have a4 := PySem.F.called_set.canCreate
  have a5 := PySem.F.typeCall_set_1 (.ref l)
  repeat (any_goals (first | assumption | wp_step))
  refine codeAny_mono (code_set_new_1 (.ref l) (E := E) (Q₁ := fun ob s₁ => ∃ led : Bool, ob = .ref s.heap.objs.size ∧ s₁ = { s with heap := s.heap.push { cls := .type "set", dict := none, data := .set #[] 0 (.fresh 0 0 led) } }) fun led => ⟨led, rfl, rfl⟩) fun r s₁ hr => ?_
  cases r with
  | error e => exact hr
  | ok fl =>
    cases fl with
    | ret ob =>
      obtain ⟨led, rfl, rfl⟩ := hr
      generalize hso : ({ cls := .type "set", dict := none, data := .set #[] 0 (.fresh 0 0 led) } : Obj) = so
      have hfr : so.isFreed = false := by rw [← hso]; rfl
      have b1 : (s.heap.push so).get? s.heap.objs.size = some so := Heap.get?_push_size _ hfr
      have b2 : Shared.TypeIs { s with heap := s.heap.push so } (.ref s.heap.objs.size) "set" := ⟨_, b1, by rw [← hso]⟩
      have b3 := PySem.F.called_set.init.lookup
      have b4 := PySem.F.called_set.init.bind (.ref s.heap.objs.size)
      repeat (any_goals (first | assumption | wp_step))
      refine codeAny_mono (codeAny_call_builtin (R := wants (fun r s₂ => r = .none ∧ ∃ g tk c, s₂ = { s with heap := g, toks := tk } ∧ Cnt xs xs.length c ∧ g.SetOf (PySem.strKind prog w) s.heap.objs.size (fun y => decide (y ∈ xs.take xs.length)) c ∧
          (∀ b o, b < s.heap.objs.size → s.heap.get? b = some o → g.get? b = some o)) E) PySem.F.called_set.init.plain PySem.F.entry_set_init (check_set_init_1 b2 ?_)) fun r₂ s₂ hr₂ => ?_
      · obtain ⟨ol, hol, hcl, nl, hdl⟩ := hl
        obtain ⟨ocls, odict, odata, oslots⟩ := ol
        simp only at hcl hdl
        subst hcl hdl
        have hol' : (s.heap.push so).get? l = some { cls := .type "list", dict := odict, data := .seq its nl, slots := oslots } := Heap.get?_push_of_some _ hol
        have c1 := PySem.F.sub_list_set
        have c2 := PySem.F.sub_list_frozenset
        have c3 : (Value.type "list" == Value.type "dict") = false := by decide
        have hl1 : (s.heap.push so).IsList l its := ⟨_, hol', rfl, nl, rfl⟩
        unfold Builtin.«set.__init__» noKeywords Builtin.Frozenset.updateFrom
        generalize hPI : pyIter = PI
        have ll : l < s.heap.objs.size := Heap.lt_size hol
        have nI : ∀ ob : Obj, l ≠ (s.heap.push ob).objs.size := fun ob => by
          rw [Heap.size_push]
          exact Nat.ne_of_lt (Nat.lt_succ_of_lt ll)
        have nS : ∀ ob : Obj, s.heap.objs.size ∉ [(s.heap.push ob).objs.size, l] := fun ob => by
          rw [Heap.size_push]
          simp only [List.mem_cons, List.mem_singleton, List.not_mem_nil, or_false, not_or]
          exact ⟨Nat.ne_of_lt (Nat.lt_succ_self _), Nat.ne_of_gt ll⟩
        have nB : ∀ (ob : Obj) (b : Addr), b < s.heap.objs.size → b ≠ (s.heap.push ob).objs.size := fun ob b lb => by
          rw [Heap.size_push]
          exact Nat.ne_of_lt (Nat.lt_succ_of_lt lb)
        subst hso
        wp_walk
        subst hPI
        refine wpAny_pyIter_list hl1 ?_
        refine wpAny_bind (wpAny_runValue ?_)
        have hh3 : A.in1.in1.in1.handled = none := by simp [hh]
        have sz : xs.length = its.size := by rw [← StrsAre.len_eq hi, Array.length_toList]
        have hval : ∀ (i : Nat) (v : Value), its[i]? = some v → ∃ x t, xs[i]? = some x ∧ v = .str x t := fun i v hv => by
          have li : i < xs.length := by
            rw [sz]
            exact (Array.getElem?_eq_some_iff.mp hv).1
          obtain ⟨t, e⟩ := SS.strs_at hi i v (by rw [Array.getElem?_toList]; exact hv)
          refine ⟨xs[i], t, List.getElem?_eq_getElem li, ?_⟩
          rw [e, List.getD_eq_getElem?_getD, List.getElem?_eq_getElem li]
          rfl
        refine fill ((Walks.list hh3 _ l (nI (so led)) its).toS) s.heap.objs.size (nS (so led)) xs sz (by rw [← sz]; exact hb) hval (its.size - 0) 0 _ (by omega) (Nat.zero_le _)
          ⟨⟨_, Heap.get?_push_size _ rfl, rfl, rfl⟩, (hl1.push _)⟩ ?hS0 ?hR
        case hS0 =>
          exact ⟨0, cnt_zero xs, PyProof.Rows.SetOf_congr ((PyProof.Rows.setObjOf_fresh (knd := PySem.strKind prog w) led).setOf (Heap.get?_push_of_some _ b1) (by unfold scanBound; omega)) (fun _ => by simp) rfl⟩
        case hR =>
          intro s' c' hm hc' hS'
          obtain ⟨g, g', d', tk', os'⟩ := s'
          have eg : g' = s.gens := hm.gens
          have ed : d' = s.drawn := hm.drawn
          have eo : os' = s.os := hm.os
          subst eg ed eo
          show wpAny _ _ _ _ _ _
          refine wpAny_pure ?_
          show wpAny _ _ (ret Value.none) _ _ _
          rw [← sz] at hc' hS'
          refine wpAny_pure ⟨rfl, g, tk', c', rfl, hc', hS', fun b o lb e => ?_⟩
          have n1 : b ≠ s.heap.objs.size := Nat.ne_of_lt lb
          have n2 := nB (so led) b lb
          exact hm.heap b o (by simp only [List.mem_cons, List.mem_singleton, List.not_mem_nil, or_false, not_or]; exact ⟨n1, n2⟩) (Heap.get?_push_of_some _ (Heap.get?_push_of_some _ e))
      · cases r₂ with
        | error e => exact hr₂
        | ok fl₂ =>
          cases fl₂ with
          | ret r =>
            obtain ⟨rfl, g, tk, c', rfl, hc', hS', hk'⟩ := hr₂
            repeat (any_goals (first | assumption | wp_step))
            exact q _ _ _ hc' hS' hk'
          | _ => exact hr₂.elim
    | _ => exact hr.elim
end
end Sl
namespace Sl
open PySem PySem.Spec PyProof.Rows L2
section
variable {X : Cx}
def tLen (K : PySem.W.Frag) (ta : TE) : TE := fun σ H Q => ta σ H fun x H1 => ∃ l, ∃ xs : List Str, x = .ref l ∧ SqL K H1 l (xs.map V.str) ∧ xs.length ≤ 4000 ∧ ∀ c, Cnt xs xs.length c → Q (.int (c : Nat)) H1
theorem pe_len {a : Expr} {ta : TE} {p p2 q pos : Pos} (hc : X.calm = true) (hg : Gl X "len") (hm : X.mg "len" = none) (hg2 : Gl X "set") (hm2 : X.mg "set" = none) (ha : PE X a ta)
    (na : starEach [a] X.env = (false, eval a X.env) :: starEach [] X.env := by rfl) : PE X (.Call (.Name "len" p) [.Call (.Name "set" p2) [a] [] q] [] pos) (tLen X.K ta) := by
  refine ⟨fun pins s σ H Q I h => ?_⟩
  refine Call_ (ld_blt I hg hm boot_len ?_)
  refine PyProof.Rows.callWith_builtin1 (PyProof.Rows.args_cons ?_ rfl) rfl rfl
  refine Call_ (ld_blt I hg2 hm2 boot_set ?_)
  refine PyProof.Rows.callWith_type1 (PyProof.Rows.args_cons (thn (ha.run pins s σ H _ I h) fun v s1 ⟨x, H1, I1, r1, q1⟩ => PyProof.Rows.args_nil ?_) na) na rfl
  obtain ⟨l, xs, ev, hq, hl, k⟩ := q1
  subst ev
  cases r1
  obtain ⟨its, r, pl, hz⟩ := I1.list hq
  refine set_strs (I1.ok.hd hc) pl.isList (by simpa using strsAre_of r) (by unfold scanBound; omega) fun g tk c hcn hS hk => ?_
  refine PyProof.Rows.args_nil ?_
  obtain ⟨o, es, ep, t, ho, hex, hd, _, _, _, hf, hn⟩ := hS
  have I2 : Inv X pins σ H1 { s1 with heap := g, toks := tk } := I1.kept fun b o e => hk b o (Heap.lt_size e) e
  have := hcn.1
  refine call_len_set ho hex hd hf (by rw [hn] <;> omega) ⟨.int (c : Nat), H1, I2.tok _, ⟨_, by rw [hn]⟩, k c hcn⟩
end
/-- xs[i], for xs[i] op= e -/
theorem get_list {X : Cx} : PGet X (rIxL X.K) := by
  intro pins s σ H o i ov iv Q I ro ri h
  obtain ⟨p, xs, k, z, rfl, rfl, hq, he, q⟩ := h
  cases ro
  obtain ⟨t, rfl⟩ := ri
  obtain ⟨its, r, pl, hz⟩ := I.list hq
  obtain ⟨j, h1, h2, h3, h4, h5⟩ := atI_get he
  obtain ⟨u, eu, ru⟩ := r.get h2
  have hl := r.length
  have hn := line63
  have fin : EP X pins σ Q u s := ⟨z, H, I, ru, q⟩
  by_cases h0 : 0 ≤ k
  · have hj : k.toNat = j := by
      rw [seqIndex_of h0 h5] at h1
      exact Option.some.inj h1
    exact wpAny_getItem_list pl.isList h0 (by omega) (by rw [hj]; simpa using eu) fin
  · have hj : (k + (its.toArray.size : Int)).toNat = j := by
      rw [seqIndex_neg (by omega) h4] at h1
      rw [List.size_toArray, ← hl]
      exact Option.some.inj h1
    exact wpAny_getItem_list_neg pl.isList (by omega) (by rw [List.size_toArray] <;> omega) (by omega) (by rw [hj]; simpa using eu) fin
end Sl

/-! xs.extend(t), t a tuple; comprehensions of two clauses by walks. -/
namespace Et
open PySem PySem.Spec PyProof.Rows L2
theorem ext_meets (l : Addr) (us : Array Value) (n : Nat) (b : Addr) (vs : Array Value) (m : Nat) (dd : Option Addr) (sl : Array (Option Value)) (h0 : ¬(!us.isEmpty && Builtin.List.listTooLong (us.size + vs.size)) = true) (h1 : us.size ≤ sizeLine) (h2 : us.size + vs.size ≤ sizeLine + 1) :
    Meets (Builtin.«list.extend» ⟨[.ref l, .ref b], []⟩) (fun _ R s => s.heap.get? l = some { cls := .type "list", dict := none, data := .seq us n, slots := #[] } ∧ s.heap.get? b = some { cls := .type "tuple", dict := dd, data := .seq vs m, slots := sl } ∧ R (.ok (.ret Value.none)) { s with heap := s.heap.update l (Obj.mapSeq fun x => x ++ vs), toks := s.toks }) :=
  .of_wp fun prog w A R s h => by
    obtain ⟨hp, g, d, tk, os⟩ := s
    obtain ⟨hl, hb, h⟩ := h
    have f1 := AutoSeq1.idx_int
    have f2 := AutoSeq1.sub_tuple_tuple
    have f3 := AutoSeq1.sub_list_list
    have f4 := AutoSeq1.sub_tuple_list
    have f5 := AutoSeq1.sub_list_tuple
    have hz' : (us ++ vs).size ≤ sizeLine + 1 := by
      rw [Array.size_append]
      exact h2
    wp_walk using (wpAny_updateSeq hl rfl (hz := h1) (_hz' := hz')), AutoSeq1.wpAny_loadPart' hl, AutoSeq1.wpAny_loadPart' hb
    exact ⟨_, rfl, h⟩
section
variable {X : Cx}
def rExtT (K : PySem.W.Frag) : V → List V → Hp → VK → Prop := fun x vs H Q => ∃ l b xs zs, x = .ref l ∧ vs = [.ref b] ∧ H l = some (.lst xs) ∧ SqT K H b zs ∧ xs.length + zs.length ≤ sizeLine ∧ Q .non (upd H l (.lst (xs ++ zs)))
theorem mt_extT : MtM X "list.extend" (rExtT X.K) := by
  intro pins s σ H x vs v us Q I rx rv h
  obtain ⟨l, b, xs, zs, rfl, rfl, hH, hB, hz, q⟩ := h
  cases rx
  obtain ⟨u, rfl, ru⟩ := rv.one
  cases ru
  obtain ⟨z, its, n, r, hl, e⟩ := I.lstM hH
  obtain ⟨its2, r2, p2, _⟩ := I.tuple hB
  obtain ⟨⟨c2, d2, a2, s2⟩, e2, k1, m, k2⟩ := p2
  simp only at k1 k2
  subst k1 k2
  have hl2 := r2.length
  have hsz : its.toArray.size + its2.toArray.size ≤ sizeLine := by
    rw [List.size_toArray, List.size_toArray]
    omega
  have hlong : ¬ (!its.toArray.isEmpty && Builtin.List.listTooLong (its.toArray.size + its2.toArray.size)) = true := by
    rw [notLongL hsz, Bool.and_false]
    exact Bool.false_ne_true
  refine call_meets F.slot_list_extend ⟨_, e, rfl⟩ F.entry_list_extend (F.args_list_extend_2 _ _) (ext_meets l its.toArray n b its2.toArray m d2 s2 hlong (by rw [List.size_toArray]; omega) (by omega)) ⟨e, e2, ?_⟩
  refine ⟨.non, _, I.lset (its' := its ++ its2) hH e (by simp) (r.append r2) ?_, rfl, q⟩
  rw [List.length_append]
  omega
end
/-- the outer clause of a comprehension of two -/
theorem out_it {J : It} {n : Nat} {G : Hp → Prop} {Y : Nat → Hp → V → Hp → Prop} (w : Walk J n G Y) {g : TG} {tt : TT} {B : (Hp → Prop) → L2.St → Hp → Prop} {vs : List Nat} {σ : L2.St} {H1 : Hp} {D : Addr} {Qd : Hp → Prop} (Pv : Nat → Hp → Prop) (h0 : Pv 0 (upd H1 D (.lst []))) (hG : ∀ i H, i ≤ n → Pv i H → G H)
    (hs : ∀ i x H H', i < n → Pv i H → Y i H x H' → g x (wipe σ vs) H' fun σ2 H2 => wipe σ2 vs = wipe σ vs ∧ tt σ2 H2 fun b H3 => if b = true then B (Pv (i + 1)) σ2 H3 else Pv (i + 1) H3) (hd : ∀ H, Pv n H → Qd H) :
    ∃ W : Nat → Nat → Hp → Prop, (∃ m, W 0 m (upd H1 D (.lst []))) ∧ ∀ i m H, W i m H →
      (J.stop i H ∧ Qd H) ∨ (J.go i H ∧ ∃ Nx : Hp → Prop, (∀ H', Nx H' → ∃ m', m' < m ∧ W (i + 1) m' H') ∧ ∀ x H', J.yld i H x H' → g x (wipe σ vs) H' fun σ2 H2 => wipe σ2 vs = wipe σ vs ∧ tt σ2 H2 fun b H3 => if b = true then B Nx σ2 H3 else Nx H3) := by
  refine ⟨fun i m H => m = n - i ∧ i ≤ n ∧ Pv i H, ⟨n, by simp, Nat.zero_le _, h0⟩, ?_⟩
  rintro i m H ⟨rfl, hi, p⟩
  have q := hG i H hi p
  by_cases lt : i < n
  · exact .inr ⟨w.goes i H lt q, Pv (i + 1), fun H' p' => ⟨n - (i + 1), by omega, rfl, lt, p'⟩, fun x H' y => hs i x H H' lt p (w.yields i H x H' lt q y)⟩
  · have e : i = n := by omega
    subst e
    exact .inl ⟨w.stops H q, hd H p⟩
/-- the inner clause -/
theorem in_it {J : It} {n : Nat} {G : Hp → Prop} {Y : Nat → Hp → V → Hp → Prop} (w : Walk J n G Y) {g : TG} {tt : TT} {te : TE} {vs : List Nat} {σ : L2.St} {H1 : Hp} {D : Addr} {Qd : Hp → Prop} (Pv : Nat → Hp → Prop) (h0 : Pv 0 H1) (hG : ∀ i H, i ≤ n → Pv i H → G H)
    (hs : ∀ i x H H', i < n → Pv i H → Y i H x H' → g x (wipe σ vs) H' fun σ2 H2 => wipe σ2 vs = wipe σ vs ∧ tt σ2 H2 fun b H3 =>
      if b = true then te σ2 H3 fun y H4 => ∃ acc, H4 D = some (.lst acc) ∧ acc.length < sizeLine ∧ Pv (i + 1) (upd H4 D (.lst (acc ++ [y]))) else Pv (i + 1) H3) (hd : ∀ H, Pv n H → Qd H) :
    ∃ W : Nat → Nat → Hp → Prop, (∃ m, W 0 m H1) ∧ ∀ i m H, W i m H →
      (J.stop i H ∧ Qd H) ∨ (J.go i H ∧ ∃ Nx : Hp → Prop, (∀ H', Nx H' → ∃ m', m' < m ∧ W (i + 1) m' H') ∧ ∀ x H', J.yld i H x H' → g x (wipe σ vs) H' fun σ2 H2 => wipe σ2 vs = wipe σ vs ∧ tt σ2 H2 fun b H3 =>
        if b = true then te σ2 H3 fun y H4 => ∃ acc, H4 D = some (.lst acc) ∧ acc.length < sizeLine ∧ Nx (upd H4 D (.lst (acc ++ [y]))) else Nx H3) := by
  refine ⟨fun i m H => m = n - i ∧ i ≤ n ∧ Pv i H, ⟨n, by simp, Nat.zero_le _, h0⟩, ?_⟩
  rintro i m H ⟨rfl, hi, p⟩
  have q := hG i H hi p
  by_cases lt : i < n
  · refine .inr ⟨w.goes i H lt q, Pv (i + 1), fun H' p' => ⟨n - (i + 1), by omega, rfl, lt, p'⟩, fun x H' y => hs i x H H' lt p (w.yields i H x H' lt q y)⟩
  · have e : i = n := by omega
    subst e
    exact .inl ⟨w.stops H q, hd H p⟩
end Et

/-! Data of ints, texts and tuples of such; what keeps them. -/
namespace Dv
open PySem L2 Wm
mutual
inductive Dt (K : PySem.W.Frag) (H : Hp) : V → PyData → Prop
  | int (i : Int) : Dt K H (.int i) (.int i)
  | str (x : Str) : Dt K H (.str x) (.str x)
  | tup {a : Addr} {xs : List V} {ds : List PyData} : SqT K H a xs → Dts K H xs ds → Dt K H (.ref a) (.tuple ds)
inductive Dts (K : PySem.W.Frag) (H : Hp) : List V → List PyData → Prop
  | nil : Dts K H [] []
  | cons {v : V} {vs : List V} {d : PyData} {ds : List PyData} : Dt K H v d → Dts K H vs ds → Dts K H (v :: vs) (d :: ds)
end
/-- tuples stand -/
def Kt (K : PySem.W.Frag) (H H' : Hp) : Prop := ∀ a xs, SqT K H a xs → SqT K H' a xs
section
variable {K : PySem.W.Frag} {H H' H2 : Hp}
theorem Kt.refl : Kt K H H := fun _ _ h => h
theorem Kt.trans (a : Kt K H H') (b : Kt K H' H2) : Kt K H H2 := fun p xs h => b p xs (a p xs h)
theorem Kt.same (s : Same H H') : Kt K H H' := fun _ _ h => sameT s h
/-- a store at what is no tuple -/
theorem Kt.set {p : Addr} {o u : HO} (h : H p = some u) (n1 : ∀ xs, u ≠ .tup xs) (n2 : ∀ ob xs, u ≠ .frz ob (.tup xs)) : Kt K H (upd H p o) := fun a xs q => by
  rcases q with (q | ⟨ob, q⟩) | q
  · exact .inl (.inl (by rw [upd_ne (fun e => by subst e; rw [h] at q; exact n1 _ (Option.some.inj q))]; exact q))
  · exact .inl (.inr ⟨ob, by rw [upd_ne (fun e => by subst e; rw [h] at q; exact n2 _ _ (Option.some.inj q))]; exact q⟩)
  · exact .inr q
theorem Kt.lst {p : Addr} {o : HO} {xs : List V} (h : H p = some (.lst xs)) : Kt K H (upd H p o) := Kt.set h (fun _ q => by cases q) (fun _ _ q => by cases q)
theorem Kt.new {p : Addr} {o : HO} (h : H p = none) : Kt K H (upd H p o) := Kt.same (same_new h)
mutual
theorem Dt.keep (k : Kt K H H') : ∀ (d : PyData) (v : V), Dt K H v d → Dt K H' v d
  | .int _, _, h => by cases h; exact .int _
  | .str _, _, h => by cases h; exact .str _
  | .tuple ds, _, h => by
    cases h with
    | tup a b => exact .tup (k _ _ a) (Dts.keep k ds _ b)
  | .none, _, h => by cases h
  | .bool _, _, h => by cases h
  | .list _, _, h => by cases h
  | .dict _, _, h => by cases h
theorem Dts.keep (k : Kt K H H') : ∀ (ds : List PyData) (vs : List V), Dts K H vs ds → Dts K H' vs ds
  | [], _, h => by cases h; exact .nil
  | d :: ds, _, h => by
    cases h with
    | cons a b => exact .cons (Dt.keep k d _ a) (Dts.keep k ds _ b)
end
mutual
theorem Dt.dp : ∀ (d : PyData) (v : V), Dt K H v d → Dp K H v d
  | .int _, _, h => by cases h; exact .int _
  | .str _, _, h => by cases h; exact .str _
  | .tuple ds, _, h => by
    cases h with
    | tup a b => exact .tup a (Dts.dp ds _ b)
  | .none, _, h => by cases h
  | .bool _, _, h => by cases h
  | .list _, _, h => by cases h
  | .dict _, _, h => by cases h
theorem Dts.dp : ∀ (ds : List PyData) (vs : List V), Dts K H vs ds → DpAll K H vs ds
  | [], _, h => by cases h; exact .nil
  | d :: ds, _, h => by
    cases h with
    | cons a b => exact .cons (Dt.dp d _ a) (Dts.dp ds _ b)
end
theorem Dt.k {d : PyData} {v : V} (h : Dt K H v d) (k : Kt K H H') : Dt K H' v d := Dt.keep k _ _ h
theorem Dts.k {ds : List PyData} {vs : List V} (h : Dts K H vs ds) (k : Kt K H H') : Dts K H' vs ds := Dts.keep k _ _ h
theorem Dt.toDp {d : PyData} {v : V} (h : Dt K H v d) : Dp K H v d := Dt.dp _ _ h
theorem Dts.toDp {ds : List PyData} {vs : List V} (h : Dts K H vs ds) : DpAll K H vs ds := Dts.dp _ _ h
theorem Dt.inv {ds : List PyData} {v : V} (h : Dt K H v (.tuple ds)) : ∃ p xs, v = .ref p ∧ SqT K H p xs ∧ Dts K H xs ds := by
  cases h with
  | tup a b => exact ⟨_, _, rfl, a, b⟩
theorem Dt.str_inv {x : Str} {v : V} (h : Dt K H v (.str x)) : v = .str x := by cases h; rfl
theorem Dt.int_inv {i : Int} {v : V} (h : Dt K H v (.int i)) : v = .int i := by cases h; rfl
theorem Dts.len {ds : List PyData} {vs : List V} (h : Dts K H vs ds) : vs.length = ds.length := by
  induction ds generalizing vs with
  | nil => cases h; rfl
  | cons d ds ih =>
    cases h with
    | cons a b => rw [List.length_cons, List.length_cons, ih b]
theorem Dts.at {i : Nat} {ds : List PyData} {vs : List V} {v : V} (h : Dts K H vs ds) (g : vs[i]? = some v) : ∃ d, ds[i]? = some d ∧ Dt K H v d := by
  induction ds generalizing vs i with
  | nil =>
    cases h
    simp at g
  | cons d ds ih =>
    cases h with
    | cons a b =>
      cases i with
      | zero =>
        simp at g
        subst g
        exact ⟨d, rfl, a⟩
      | succ i => exact ih b (by simpa using g)
theorem Dts.get {i : Nat} {ds : List PyData} {vs : List V} {d : PyData} (h : Dts K H vs ds) (g : ds[i]? = some d) : ∃ v, vs[i]? = some v ∧ Dt K H v d := by
  have li := (List.getElem?_eq_some_iff.mp g).1
  obtain ⟨v, e⟩ : ∃ v, vs[i]? = some v := ⟨_, List.getElem?_eq_getElem (by rw [h.len]; exact li)⟩
  obtain ⟨d2, e2, a⟩ := h.at e
  rw [g] at e2
  cases e2
  exact ⟨v, e, a⟩
theorem Dts.app {ds es : List PyData} {vs ws : List V} (h : Dts K H vs ds) (g : Dts K H ws es) : Dts K H (vs ++ ws) (ds ++ es) := by
  induction ds generalizing vs with
  | nil => cases h; exact g
  | cons d ds ih =>
    cases h with
    | cons a b => exact .cons a (ih b)
theorem Dts.snoc {ds : List PyData} {d : PyData} {vs : List V} {v : V} (h : Dts K H vs ds) (g : Dt K H v d) : Dts K H (vs ++ [v]) (ds ++ [d]) := h.app (.cons g .nil)
theorem Dts.take {ds : List PyData} {vs : List V} (h : Dts K H vs ds) : ∀ n, Dts K H (vs.take n) (ds.take n) := by
  induction ds generalizing vs with
  | nil => cases h; intro n; simp; exact .nil
  | cons d ds ih =>
    cases h with
    | cons a b =>
      intro n
      cases n with
      | zero => exact .nil
      | succ n => exact .cons a (ih b n)
theorem Dts.drop {ds : List PyData} {vs : List V} (h : Dts K H vs ds) : ∀ n, Dts K H (vs.drop n) (ds.drop n) := by
  induction ds generalizing vs with
  | nil => cases h; intro n; simp; exact .nil
  | cons d ds ih =>
    cases h with
    | cons a b =>
      intro n
      cases n with
      | zero => exact .cons a b
      | succ n => exact ih b n
theorem dts_str : ∀ ss : List Str, Dts K H (ss.map V.str) (ss.map PyData.str)
  | [] => .nil
  | s :: ss => .cons (.str s) (dts_str ss)
theorem dts_str_inv {ss : List Str} {vs : List V} (h : Dts K H vs (ss.map PyData.str)) : vs = ss.map V.str := by
  induction ss generalizing vs with
  | nil => cases h; rfl
  | cons s ss ih =>
    cases h with
    | cons a b => rw [a.str_inv, ih b]; rfl
theorem dts_int : ∀ ns : List Int, Dts K H (ns.map V.int) (ns.map PyData.int)
  | [] => .nil
  | s :: ss => .cons (.int s) (dts_int ss)
theorem dts_int_inv {ns : List Int} {vs : List V} (h : Dts K H vs (ns.map PyData.int)) : vs = ns.map V.int := by
  induction ns generalizing vs with
  | nil => cases h; rfl
  | cons s ss ih =>
    cases h with
    | cons a b => rw [a.int_inv, ih b]; rfl
theorem dt_tup {p : Addr} {xs : List V} {ds : List PyData} (h : H p = some (.tup xs)) (g : Dts K H xs ds) : Dt K H (.ref p) (.tuple ds) := .tup (SqT.of h) g
end
/-- data that == may be asked of: texts in the line, not deep -/
def Fine (n : Nat) (d : PyData) : Prop := d.canLay0 = true ∧ d.depth ≤ n
theorem fine_int {n : Nat} (i : Int) : Fine n (.int i) := ⟨by simp [PyData.canLay0], by simp [PyData.depth]⟩
theorem fine_tup {n : Nat} {ds : List PyData} (h : ∀ d ∈ ds, Fine n d) : Fine (n + 1) (.tuple ds) := by
  have q : PyData.canLayAll0 ds = true ∧ PyData.depthAll ds ≤ n := by
    induction ds with
    | nil => simp [PyData.canLayAll0, PyData.depthAll]
    | cons d ds ih =>
      have h1 := h d (by simp)
      have h2 := ih fun y m => h y (List.mem_cons_of_mem _ m)
      simp only [PyData.canLayAll0, PyData.depthAll, h1.1, h2.1, Bool.and_self, true_and]
      have := h1.2
      have := h2.2
      omega
  exact ⟨by simp only [PyData.canLay0]; exact q.1, by simp only [PyData.depth]; have := q.2; omega⟩
theorem fine_str {n : Nat} {x : Str} (h : x.cps.all (· < 0x110000) = true) : Fine n (.str x) := ⟨by simp only [PyData.canLay0]; exact h, by simp [PyData.depth]⟩
theorem fine_num {n : Nat} {ds : List Nat} (h : ∀ d ∈ ds, d ≤ 9) : Fine n (.str (numS ds)) := by
  refine fine_str ?_
  rw [← Array.all_toList, List.all_eq_true]
  intro c m
  obtain ⟨d, md, rfl⟩ := List.mem_map.mp (show c ∈ codes ds from m)
  have := h d md
  exact decide_eq_true (by omega)
theorem Fine.shaped {n : Nat} {d : PyData} (h : Fine n d) (l : n ≤ 64) : SeqAt.shaped d = true := by
  have e : decide (d.depth ≤ 64) = true := decide_eq_true (Nat.le_trans h.2 l)
  show (d.canLay0 && _) = true
  rw [e, Bool.and_true]
  exact h.1
theorem Fine.refl {n : Nat} {d : PyData} (h : Fine n d) : PyData.eqv d d = true := SeqAt.eqv_refl d h.1
theorem Fine.mono {n m : Nat} {d : PyData} (h : Fine n d) (l : n ≤ m) : Fine m d := ⟨h.1, Nat.le_trans h.2 l⟩
end Dv

/-! Comprehensions whose items are told one by one. -/
namespace Lm
open PySem L2 Wm Dv
theorem list_is {α : Type} {ys zs : List α} (l : ys.length = zs.length) (h : ∀ (i : Nat) y, ys[i]? = some y → zs[i]? = some y) : ys = zs := by
  refine List.ext_getElem? fun i => ?_
  by_cases q : i < ys.length
  · rw [h i _ (List.getElem?_eq_getElem q), List.getElem?_eq_getElem q]
  · rw [List.getElem?_eq_none (by omega), List.getElem?_eq_none (by omega)]
theorem lc_map {K : PySem.W.Frag} {J : It} {n : Nat} {G : Hp → Prop} {xs : List V} (w : Walk J n G (YAt xs)) {g : TG} {te : TE} {vs : List Nat} {σ : L2.St} {H1 : Hp} {D : Addr} {Qd : Hp → Prop} (R : Nat → V → Hp → Prop)
    (mono : ∀ i y H H', R i y H → Kt K H H' → R i y H') (hD : H1 D = none) (hn : n ≤ 1000) (hG : ∀ H', Same H1 H' → G H')
    (hs : ∀ i x H', i < n → xs[i]? = some x → Same H1 H' → ∀ (Q : V → Hp → Prop) (Z : Hp → Prop), (∀ y H4, Same H' H4 → R i y H4 → Q y H4) → g x (wipe σ vs) H' fun σ2 H2 => wipe σ2 vs = wipe σ vs ∧ tYes σ2 H2 fun b H3 => if b = true then te σ2 H3 Q else Z H3)
    (hd : ∀ H ys, Same H1 H → H D = some (.lst ys) → ys.length = n → (∀ (i : Nat) y, ys[i]? = some y → R i y H) → Qd H) :
    ∃ W : Nat → Nat → Hp → Prop, (∃ m, W 0 m (upd H1 D (.lst []))) ∧ ∀ i m H, W i m H →
      (J.stop i H ∧ Qd H) ∨ (J.go i H ∧ ∃ Nx : Hp → Prop, (∀ H', Nx H' → ∃ m', m' < m ∧ W (i + 1) m' H') ∧ ∀ x H', J.yld i H x H' → g x (wipe σ vs) H' fun σ2 H2 => wipe σ2 vs = wipe σ vs ∧ tYes σ2 H2 fun b H3 =>
        if b = true then te σ2 H3 fun y H4 => ∃ acc, H4 D = some (.lst acc) ∧ acc.length < sizeLine ∧ Nx (upd H4 D (.lst (acc ++ [y]))) else Nx H3) := by
  refine lc_it (tt := tYes) w (fun i H => Same H1 H ∧ ∃ ys : List V, ys.length = i ∧ H D = some (.lst ys) ∧ ∀ j y, ys[j]? = some y → R j y H) ⟨same_new hD, [], rfl, upd_same, fun (j : Nat) (y : V) e => by simp at e⟩ (fun i H _ h => hG H h.1) (fun i x H H' hi hP hY => ?_) (fun H hP => ?_)
  · obtain ⟨sm, ys, el, hy, hR⟩ := hP
    obtain ⟨rfl, hx⟩ := hY
    refine hs i x H' hi hx sm _ _ (fun y H4 s4 r4 => ?_)
    · refine ⟨ys, s4 _ _ hy, by rw [el]; exact small1000 (by omega), same_mut (sm.trans s4) hD, ys ++ [y], by rw [List.length_append, el]; rfl, upd_same, fun j z hz => ?_⟩
      have k5 : Kt K H4 (upd H4 D (.lst (ys ++ [y]))) := Kt.lst (s4 _ _ hy)
      by_cases lj : j < ys.length
      · rw [List.getElem?_append_left lj] at hz
        exact mono _ _ _ _ (hR j z hz) ((Kt.same s4).trans k5)
      · rw [List.getElem?_append_right (by omega)] at hz
        have e0 : j - ys.length = 0 := by
          by_cases q : j - ys.length = 0
          · exact q
          · rw [List.getElem?_eq_none (by rw [List.length_singleton]; omega)] at hz
            cases hz
        rw [e0] at hz
        have ez : y = z := by simpa using hz
        have ej : j = i := by omega
        subst ez ej
        exact mono _ _ _ _ r4 k5
  · obtain ⟨sm, ys, el, hy, hR⟩ := hP
    exact hd H ys sm hy el hR
end Lm
namespace Kx
open PySem L2
def rLen (K : PySem.W.Frag) : List V → Hp → VK → Prop := fun xs H Q => ∃ p ys, xs = [.ref p] ∧ (SqL K H p ys ∨ SqT K H p ys) ∧ Q (.int (ys.length : Nat)) H
def rTup (K : PySem.W.Frag) : List V → Hp → VK → Prop := fun xs H Q => ∃ a ys, xs = [.ref a] ∧ SqT K H a ys ∧ Q (.ref a) H
def rTupOf (K : PySem.W.Frag) : List V → Hp → VK → Prop := fun xs H Q => ∃ p ys, xs = [.ref p] ∧ ((SqL K H p ys ∧ ∀ l, H l = none → Q (.ref l) (upd H l (.tup ys))) ∨ (SqT K H p ys ∧ Q (.ref p) H))
end Kx

namespace K18
open PySem L2
def top (i : Nat) : Stmt := PySem.Challenge.pw_wheelchorus_k18_parts_of_wire.main.body.getD i (.Pass ⟨0, 0, 0, 0⟩)
abbrev s_is_whole : Stmt := top 13
abbrev s_is_whole_within : Stmt := top 14
abbrev s_is_sequence : Stmt := top 15
abbrev s_is_number : Stmt := top 20
abbrev s_is_sort : Stmt := top 26
abbrev s_has_double : Stmt := top 27
abbrev s_are_loops : Stmt := top 29
abbrev s_check_boxes : Stmt := top 30
abbrev s_check_town : Stmt := top 28
abbrev s_init : Stmt := inClass (top 25) 2
abbrev s_wire : Stmt := inClass (top 25) 8
abbrev s_near_part : Stmt := top 2
abbrev s_far_part : Stmt := top 3
abbrev s_dumb_part : Stmt := top 4
abbrev s_loop_numbers : Stmt := top 5
abbrev s_wires : Stmt := top 6
abbrev s_dumb_numbers : Stmt := top 7
abbrev s_source : Stmt := top 32
abbrev s_draw : Stmt := top 33
abbrev s_number : Stmt := top 34
abbrev s_fresh : Stmt := top 35
abbrev s_loops : Stmt := top 36
abbrev s_numbers : Stmt := top 37
abbrev s_stretches : Stmt := top 38
abbrev s_side : Stmt := top 39
abbrev s_part : Stmt := top 40
abbrev s_loop : Stmt := top 41
abbrev s_tuples : Stmt := top 42
abbrev s_law : Stmt := top 43
abbrev nm_is_whole : List Str := ["thing"]
theorem sc_is_whole : FnScope nm_is_whole ["thing"] (defScope s_is_whole) :=
  ⟨rfl, rfl, rfl, by decide +kernel, rfl, by decide +kernel, by decide +kernel⟩
abbrev nm_is_whole_within : List Str := ["thing", "low", "high"]
theorem sc_is_whole_within : FnScope nm_is_whole_within ["thing", "low", "high"] (defScope s_is_whole_within) :=
  ⟨rfl, rfl, rfl, by decide +kernel, rfl, by decide +kernel, by decide +kernel⟩
abbrev nm_is_sequence : List Str := ["thing"]
theorem sc_is_sequence : FnScope nm_is_sequence ["thing"] (defScope s_is_sequence) :=
  ⟨rfl, rfl, rfl, by decide +kernel, rfl, by decide +kernel, by decide +kernel⟩
abbrev nm_is_number : List Str := ["thing", "letter"]
theorem sc_is_number : FnScope nm_is_number ["thing"] (defScope s_is_number) :=
  ⟨rfl, rfl, rfl, by decide +kernel, rfl, by decide +kernel, by decide +kernel⟩
abbrev nm_is_sort : List Str := ["thing"]
theorem sc_is_sort : FnScope nm_is_sort ["thing"] (defScope s_is_sort) :=
  ⟨rfl, rfl, rfl, by decide +kernel, rfl, by decide +kernel, by decide +kernel⟩
abbrev nm_has_double : List Str := ["boxes", "number", "_"]
theorem sc_has_double : FnScope nm_has_double ["boxes"] (defScope s_has_double) :=
  ⟨rfl, rfl, rfl, by decide +kernel, rfl, by decide +kernel, by decide +kernel⟩
abbrev nm_are_loops : List Str := ["thing", "loop"]
theorem sc_are_loops : FnScope nm_are_loops ["thing"] (defScope s_are_loops) :=
  ⟨rfl, rfl, rfl, by decide +kernel, rfl, by decide +kernel, by decide +kernel⟩
abbrev nm_check_boxes : List Str := ["boxes", "box", "number", "_", "sort"]
theorem sc_check_boxes : FnScope nm_check_boxes ["boxes"] (defScope s_check_boxes) :=
  ⟨rfl, rfl, rfl, by decide +kernel, rfl, by decide +kernel, by decide +kernel⟩
abbrev nm_check_town : List Str := ["loops", "rounds", "hear", "loop", "box"]
theorem sc_check_town : FnScope nm_check_town ["loops", "rounds", "hear"] (defScope s_check_town) :=
  ⟨rfl, rfl, rfl, by decide +kernel, rfl, by decide +kernel, by decide +kernel⟩
abbrev nm_init : List Str := ["self", "loops", "rounds", "hear", "loop", "box", "number", "_"]
theorem sc_init : FnScope nm_init ["self", "loops", "rounds", "hear"] (defScope s_init) :=
  ⟨rfl, rfl, rfl, by decide +kernel, rfl, by decide +kernel, by decide +kernel⟩
abbrev nm_wire : List Str := ["self", "loop", "boxes", "box"]
theorem sc_wire : FnScope nm_wire ["self", "loop"] (defScope s_wire) :=
  ⟨rfl, rfl, rfl, by decide +kernel, rfl, by decide +kernel, by decide +kernel⟩
abbrev nm_near_part : List Str := ["boxes", "stretches"]
theorem sc_near_part : FnScope nm_near_part ["boxes", "stretches"] (defScope s_near_part) :=
  ⟨rfl, rfl, rfl, by decide +kernel, rfl, by decide +kernel, by decide +kernel⟩
abbrev nm_far_part : List Str := ["boxes", "stretches"]
theorem sc_far_part : FnScope nm_far_part ["boxes", "stretches"] (defScope s_far_part) :=
  ⟨rfl, rfl, rfl, by decide +kernel, rfl, by decide +kernel, by decide +kernel⟩
abbrev nm_dumb_part : List Str := ["boxes", "stretches"]
theorem sc_dumb_part : FnScope nm_dumb_part ["boxes", "stretches"] (defScope s_dumb_part) :=
  ⟨rfl, rfl, rfl, by decide +kernel, rfl, by decide +kernel, by decide +kernel⟩
abbrev nm_loop_numbers : List Str := ["town", "loop", "number", "_"]
theorem sc_loop_numbers : FnScope nm_loop_numbers ["town", "loop"] (defScope s_loop_numbers) :=
  ⟨rfl, rfl, rfl, by decide +kernel, rfl, by decide +kernel, by decide +kernel⟩
abbrev nm_wires : List Str := ["town", "cuts", "joined", "parts", "loop", "stretches", "numbers", "part", "number"]
theorem sc_wires : FnScope nm_wires ["town", "cuts", "joined"] (defScope s_wires) :=
  ⟨rfl, rfl, rfl, by decide +kernel, rfl, by decide +kernel, by decide +kernel⟩
abbrev nm_dumb_numbers : List Str := ["town", "cuts", "numbers", "loop", "stretches"]
theorem sc_dumb_numbers : FnScope nm_dumb_numbers ["town", "cuts"] (defScope s_dumb_numbers) :=
  ⟨rfl, rfl, rfl, by decide +kernel, rfl, by decide +kernel, by decide +kernel⟩
abbrev nm_source : List Str := ["_law_script", "_law_cells", "_law_cell"]
theorem sc_source : FnScope nm_source ["_law_script"] (defScope s_source) :=
  ⟨rfl, rfl, rfl, by decide +kernel, rfl, by decide +kernel, by decide +kernel⟩
abbrev nm_draw : List Str := ["_law_source_here", "_law_many", "_law_cell"]
theorem sc_draw : FnScope nm_draw ["_law_source_here", "_law_many"] (defScope s_draw) :=
  ⟨rfl, rfl, rfl, by decide +kernel, rfl, by decide +kernel, by decide +kernel⟩
abbrev nm_number : List Str := ["_law_source_here", "_law_many", "_law_top", "_law_left", "_law_word", "_law_k", "_law_digit"]
theorem sc_number : FnScope nm_number ["_law_source_here"] (defScope s_number) :=
  ⟨rfl, rfl, rfl, by decide +kernel, rfl, by decide +kernel, by decide +kernel⟩
abbrev nm_fresh : List Str := ["_law_source_here", "_law_taken", "_law_number_here", "_law_pool", "_law_k", "_law_other"]
theorem sc_fresh : FnScope nm_fresh ["_law_source_here", "_law_taken"] (defScope s_fresh) :=
  ⟨rfl, rfl, rfl, by decide +kernel, rfl, by decide +kernel, by decide +kernel⟩
abbrev nm_loops : List Str := ["_law_source_here", "_law_shy", "_law_taken", "_law_loops_here", "_law_k", "_law_many", "_law_row", "_law_j", "_law_number_here"]
theorem sc_loops : FnScope nm_loops ["_law_source_here", "_law_shy"] (defScope s_loops) :=
  ⟨rfl, rfl, rfl, by decide +kernel, rfl, by decide +kernel, by decide +kernel⟩
abbrev nm_numbers : List Str := ["_law_loops_here", "_law_found", "_law_row", "_law_number_here", "_law_sort"]
theorem sc_numbers : FnScope nm_numbers ["_law_loops_here"] (defScope s_numbers) :=
  ⟨rfl, rfl, rfl, by decide +kernel, rfl, by decide +kernel, by decide +kernel⟩
abbrev nm_stretches : List Str := ["_law_source_here", "_law_many", "_law_kind", "_law_found", "_law_k"]
theorem sc_stretches : FnScope nm_stretches ["_law_source_here", "_law_many"] (defScope s_stretches) :=
  ⟨rfl, rfl, rfl, by decide +kernel, rfl, by decide +kernel, by decide +kernel⟩
abbrev nm_side : List Str := ["_law_place", "_law_stretches_here", "_law_side_here", "_law_ahead", "_law_k", "_law_behind"]
theorem sc_side : FnScope nm_side ["_law_place", "_law_stretches_here", "_law_side_here"] (defScope s_side) :=
  ⟨rfl, rfl, rfl, by decide +kernel, rfl, by decide +kernel, by decide +kernel⟩
abbrev nm_part : List Str := ["_law_items", "_law_stretches_here", "_law_side_here", "_law_place", "_law_item"]
theorem sc_part : FnScope nm_part ["_law_items", "_law_stretches_here", "_law_side_here"] (defScope s_part) :=
  ⟨rfl, rfl, rfl, by decide +kernel, rfl, by decide +kernel, by decide +kernel⟩
abbrev nm_loop : List Str := ["_law_items", "_law_stretches_here", "_law_side_here", "_law_told"]
theorem sc_loop : FnScope nm_loop ["_law_items", "_law_stretches_here"] (defScope s_loop) :=
  ⟨rfl, rfl, rfl, by decide +kernel, rfl, by decide +kernel, by decide +kernel⟩
abbrev nm_tuples : List Str := ["_law_told", "_law_part_here"]
theorem sc_tuples : FnScope nm_tuples ["_law_told"] (defScope s_tuples) :=
  ⟨rfl, rfl, rfl, by decide +kernel, rfl, by decide +kernel, by decide +kernel⟩
abbrev nm_law : List Str := ["_law_script", "_law_source_here", "_law_loops_here", "_law_town", "_law_cuts", "_law_row", "_law_due", "_law_dumb", "_law_stretches_here", "_law_numbers_here", "_law_number_here", "_law_sort", "_law_k", "_law_together", "_law_part_here", "_law_apart", "_law_joined", "_law_silent"]
theorem sc_law : FnScope nm_law ["_law_script"] (defScope s_law) :=
  ⟨rfl, rfl, rfl, by decide +kernel, rfl, by decide +kernel, by decide +kernel⟩
structure Txt (K : PySem.W.Frag) (mg : Str → Option Value) where
  C : Addr
  gC : mg "Town" = some (.ref C)
  clC : Cls K C
  mc : Value
  rd : ClX.CRead K C mc
  uP : Value
  uS : Value
  vP : ClX.CVal K C mc "PLAIN" (.str "plain") uP
  vS : ClX.CVal K C mc "SHY" (.str "shy") uS
  nL : NoAttr K C "loops"
  nR : NoAttr K C "rounds"
  nH : NoAttr K C "hear"
  nN : NoAttr K C "numbers"
  a_is_whole : Addr
  d_is_whole : FuncData
  F_is_whole : Fun K "is_whole" "is_whole" s_is_whole a_is_whole d_is_whole
  b_is_whole : Binds K d_is_whole ["thing"] []
  g_is_whole : mg "is_whole" = some (.ref a_is_whole)
  a_is_whole_within : Addr
  d_is_whole_within : FuncData
  F_is_whole_within : Fun K "is_whole_within" "is_whole_within" s_is_whole_within a_is_whole_within d_is_whole_within
  b_is_whole_within : Binds K d_is_whole_within ["thing", "low", "high"] []
  g_is_whole_within : mg "is_whole_within" = some (.ref a_is_whole_within)
  a_is_sequence : Addr
  d_is_sequence : FuncData
  F_is_sequence : Fun K "is_sequence" "is_sequence" s_is_sequence a_is_sequence d_is_sequence
  b_is_sequence : Binds K d_is_sequence ["thing"] []
  g_is_sequence : mg "is_sequence" = some (.ref a_is_sequence)
  a_is_number : Addr
  d_is_number : FuncData
  F_is_number : Fun K "is_number" "is_number" s_is_number a_is_number d_is_number
  b_is_number : Binds K d_is_number ["thing"] []
  g_is_number : mg "is_number" = some (.ref a_is_number)
  a_is_sort : Addr
  d_is_sort : FuncData
  F_is_sort : Fun K "is_sort" "is_sort" s_is_sort a_is_sort d_is_sort
  b_is_sort : Binds K d_is_sort ["thing"] []
  g_is_sort : mg "is_sort" = some (.ref a_is_sort)
  a_has_double : Addr
  d_has_double : FuncData
  F_has_double : Fun K "has_double" "has_double" s_has_double a_has_double d_has_double
  b_has_double : Binds K d_has_double ["boxes"] []
  g_has_double : mg "has_double" = some (.ref a_has_double)
  a_are_loops : Addr
  d_are_loops : FuncData
  F_are_loops : Fun K "are_loops" "are_loops" s_are_loops a_are_loops d_are_loops
  b_are_loops : Binds K d_are_loops ["thing"] []
  g_are_loops : mg "are_loops" = some (.ref a_are_loops)
  a_check_boxes : Addr
  d_check_boxes : FuncData
  F_check_boxes : Fun K "check_boxes" "check_boxes" s_check_boxes a_check_boxes d_check_boxes
  b_check_boxes : Binds K d_check_boxes ["boxes"] []
  g_check_boxes : mg "check_boxes" = some (.ref a_check_boxes)
  a_check_town : Addr
  d_check_town : FuncData
  F_check_town : Fun K "check_town" "check_town" s_check_town a_check_town d_check_town
  b_check_town : Binds K d_check_town ["loops", "rounds", "hear"] []
  g_check_town : mg "check_town" = some (.ref a_check_town)
  a_init : Addr
  d_init : FuncData
  F_init : FunD K "__init__" "Town.__init__" (defArgs s_init) (defBody s_init) (defScope s_init) [] [("hear", V.int 1)] a_init d_init
  mk_init : Mk K C a_init
  a_wire : Addr
  d_wire : FuncData
  F_wire : FunD K "wire" "Town.wire" (defArgs s_wire) (defBody s_wire) (defScope s_wire) [V.non] [] a_wire d_wire
  b_wire : Binds K d_wire ["self", "loop"] []
  m_wire : Meth K C "wire" a_wire
  a_near_part : Addr
  d_near_part : FuncData
  F_near_part : Fun K "near_part" "near_part" s_near_part a_near_part d_near_part
  b_near_part : Binds K d_near_part ["boxes", "stretches"] []
  g_near_part : mg "near_part" = some (.ref a_near_part)
  a_far_part : Addr
  d_far_part : FuncData
  F_far_part : Fun K "far_part" "far_part" s_far_part a_far_part d_far_part
  b_far_part : Binds K d_far_part ["boxes", "stretches"] []
  g_far_part : mg "far_part" = some (.ref a_far_part)
  a_dumb_part : Addr
  d_dumb_part : FuncData
  F_dumb_part : Fun K "dumb_part" "dumb_part" s_dumb_part a_dumb_part d_dumb_part
  b_dumb_part : Binds K d_dumb_part ["boxes", "stretches"] []
  g_dumb_part : mg "dumb_part" = some (.ref a_dumb_part)
  a_loop_numbers : Addr
  d_loop_numbers : FuncData
  F_loop_numbers : Fun K "loop_numbers" "loop_numbers" s_loop_numbers a_loop_numbers d_loop_numbers
  b_loop_numbers : Binds K d_loop_numbers ["town", "loop"] []
  g_loop_numbers : mg "loop_numbers" = some (.ref a_loop_numbers)
  a_wires : Addr
  d_wires : FuncData
  F_wires : Fun K "wires" "wires" s_wires a_wires d_wires
  b_wires : Binds K d_wires ["town", "cuts", "joined"] []
  g_wires : mg "wires" = some (.ref a_wires)
  a_dumb_numbers : Addr
  d_dumb_numbers : FuncData
  F_dumb_numbers : Fun K "dumb_numbers" "dumb_numbers" s_dumb_numbers a_dumb_numbers d_dumb_numbers
  b_dumb_numbers : Binds K d_dumb_numbers ["town", "cuts"] []
  g_dumb_numbers : mg "dumb_numbers" = some (.ref a_dumb_numbers)
  a_source : Addr
  d_source : FuncData
  F_source : Fun K "_law_source" "_law_source" s_source a_source d_source
  b_source : Binds K d_source ["_law_script"] []
  g_source : mg "_law_source" = some (.ref a_source)
  a_draw : Addr
  d_draw : FuncData
  F_draw : Fun K "_law_draw" "_law_draw" s_draw a_draw d_draw
  b_draw : Binds K d_draw ["_law_source_here", "_law_many"] []
  g_draw : mg "_law_draw" = some (.ref a_draw)
  a_number : Addr
  d_number : FuncData
  F_number : Fun K "_law_number" "_law_number" s_number a_number d_number
  b_number : Binds K d_number ["_law_source_here"] []
  g_number : mg "_law_number" = some (.ref a_number)
  a_fresh : Addr
  d_fresh : FuncData
  F_fresh : Fun K "_law_fresh" "_law_fresh" s_fresh a_fresh d_fresh
  b_fresh : Binds K d_fresh ["_law_source_here", "_law_taken"] []
  g_fresh : mg "_law_fresh" = some (.ref a_fresh)
  a_loops : Addr
  d_loops : FuncData
  F_loops : Fun K "_law_loops" "_law_loops" s_loops a_loops d_loops
  b_loops : Binds K d_loops ["_law_source_here", "_law_shy"] []
  g_loops : mg "_law_loops" = some (.ref a_loops)
  a_numbers : Addr
  d_numbers : FuncData
  F_numbers : Fun K "_law_numbers" "_law_numbers" s_numbers a_numbers d_numbers
  b_numbers : Binds K d_numbers ["_law_loops_here"] []
  g_numbers : mg "_law_numbers" = some (.ref a_numbers)
  a_stretches : Addr
  d_stretches : FuncData
  F_stretches : Fun K "_law_stretches" "_law_stretches" s_stretches a_stretches d_stretches
  b_stretches : Binds K d_stretches ["_law_source_here", "_law_many"] []
  g_stretches : mg "_law_stretches" = some (.ref a_stretches)
  a_side : Addr
  d_side : FuncData
  F_side : Fun K "_law_side" "_law_side" s_side a_side d_side
  b_side : Binds K d_side ["_law_place", "_law_stretches_here", "_law_side_here"] []
  g_side : mg "_law_side" = some (.ref a_side)
  a_part : Addr
  d_part : FuncData
  F_part : Fun K "_law_part" "_law_part" s_part a_part d_part
  b_part : Binds K d_part ["_law_items", "_law_stretches_here", "_law_side_here"] []
  g_part : mg "_law_part" = some (.ref a_part)
  a_loop : Addr
  d_loop : FuncData
  F_loop : Fun K "_law_loop" "_law_loop" s_loop a_loop d_loop
  b_loop : Binds K d_loop ["_law_items", "_law_stretches_here"] []
  g_loop : mg "_law_loop" = some (.ref a_loop)
  a_tuples : Addr
  d_tuples : FuncData
  F_tuples : Fun K "_law_tuples" "_law_tuples" s_tuples a_tuples d_tuples
  b_tuples : Binds K d_tuples ["_law_told"] []
  g_tuples : mg "_law_tuples" = some (.ref a_tuples)
  a_law : Addr
  d_law : FuncData
  F_law : Fun K "law" "law" s_law a_law d_law
  b_law : Binds K d_law ["_law_script"] []
  g_law : mg "law" = some (.ref a_law)
  t_DIGITS : Tok
  c_DIGITS : mg "DIGITS" = some (.str "123456789" t_DIGITS)
  t_MOST_DIGITS : Tok
  c_MOST_DIGITS : mg "MOST_DIGITS" = some (.int 4 t_MOST_DIGITS)
  t_GREATEST_SUM : Tok
  c_GREATEST_SUM : mg "GREATEST_SUM" = some (.int 24 t_GREATEST_SUM)
  t_MOST_LOOPS : Tok
  c_MOST_LOOPS : mg "MOST_LOOPS" = some (.int 3 t_MOST_LOOPS)
  t_MOST_BOXES : Tok
  c_MOST_BOXES : mg "MOST_BOXES" = some (.int 10 t_MOST_BOXES)
  t_MOST_ROUNDS : Tok
  c_MOST_ROUNDS : mg "MOST_ROUNDS" = some (.int 8 t_MOST_ROUNDS)
  z_abs : mg "abs" = none
  z_all : mg "all" = none
  z_bool : mg "bool" = none
  z_enumerate : mg "enumerate" = none
  z_int : mg "int" = none
  z_isinstance : mg "isinstance" = none
  z_len : mg "len" = none
  z_list : mg "list" = none
  z_min : mg "min" = none
  z_range : mg "range" = none
  z_set : mg "set" = none
  z_sorted : mg "sorted" = none
  z_str : mg "str" = none
  z_sum : mg "sum" = none
  z_tuple : mg "tuple" = none
  z_zip : mg "zip" = none
  mv : List Value
  kb : KBn K d_init ["self", "loops", "rounds", "hear"] 2 ["rounds"] (fun us ws => us ++ ws ++ mv) (fun vs zs => vs ++ zs ++ [V.int 1])
end K18

/-! The promises. -/
namespace K18
open PySem L2 Wm Dv
abbrev Box := List Nat × Bool
def sortS (b : Bool) : Str := if b then "shy" else "plain"
def boxD (b : Box) : PyData := .tuple [.str (numS b.1), .str (sortS b.2)]
def loopD (l : List Box) : PyData := .tuple (l.map boxD)
def townD (ls : List (List Box)) : PyData := .tuple (ls.map loopD)
def numD (b : Box) : PyData := .str (numS b.1)
/-- boxes with numbers -/
def Bs (bs : List Box) : Prop := ∀ b ∈ bs, Num b.1
structure Good (ls : List (List Box)) : Prop where
  l1 : 1 ≤ ls.length
  l2 : ls.length ≤ 3
  b1 : ∀ l ∈ ls, 1 ≤ l.length
  b2 : ∀ l ∈ ls, l.length ≤ 10
  num : Bs ls.flatten
  nd : (ls.flatten.map fun b => numS b.1).Nodup
/-- the cells: two lists of whole numbers, a seed, a count of draws -/
def Src (H : Hp) (s a b : Addr) (n : Nat) : Prop :=
  ∃ (x m : Int) (ns ms : List Int), H s = some (.lst [.ref a, .ref b, .int x, .int m]) ∧ H a = some (.lst (ns.map V.int)) ∧ H b = some (.lst (ms.map V.int)) ∧ a ≠ b ∧ a ≠ s ∧ b ≠ s ∧ 0 ≤ m ∧ m ≤ (n : Int)
structure But2 (s a : Addr) (H H' : Hp) : Prop where
  keep : ∀ p o, p ≠ s → p ≠ a → H p = some o → H' p = some o
def TownAt (K : PySem.W.Frag) (C : Addr) (H : Hp) (p : Addr) (ls : List (List Box)) : Prop :=
  ∃ dx fs y, H p = some (.ins C dx fs) ∧ fs.lookup ("loops" : Str) = some y ∧ fs.lookup ("wire" : Str) = none ∧ Dt K H y (townD ls)
/-- ascending places -/
def cutD (ks : List Nat) : PyData := .tuple (ks.map fun (k : Nat) => PyData.int (k : Int))
def cutsD (cs : List (List Nat)) : PyData := .tuple (cs.map cutD)
def nearL {α : Type} (ds : List α) (ks : List Nat) : List α := match ks with
  | [] => ds
  | k :: _ => ds.take k
def farL {α : Type} (ds : List α) (ks : List Nat) : List α := match ks.getLast? with
  | none => ds
  | some k => ds.drop k
def dumbL {α : Type} (ds : List α) (ks : List Nat) : List α := match ks.head?, ks.getLast? with
  | some j, some k => (ds.take k).drop j
  | _, _ => []
/-- cuts that fit -/
structure Cut (n : Nat) (ks : List Nat) : Prop where
  le : ∀ k ∈ ks, k ≤ n
  asc : ks.Pairwise (· < ·)
def sp_is_whole (K : PySem.W.Frag) : Sp := fun vs H Q _ => ∃ i : Int, vs = [.int i] ∧ Q (.bl true) H
def sp_is_whole_within (K : PySem.W.Frag) : Sp := fun vs H Q _ => ∃ i lo hi : Int, vs = [.int i, .int lo, .int hi] ∧ lo ≤ i ∧ i ≤ hi ∧ Q (.bl true) H
def sp_is_sequence (K : PySem.W.Frag) : Sp := fun vs H Q _ => ∃ p xs, vs = [.ref p] ∧ SqT K H p xs ∧ ∀ H', Same H H' → Q (.bl true) H'
def sp_is_number (K : PySem.W.Frag) : Sp := fun vs H Q _ => ∃ (t : Str), t.length ≤ 100000 ∧ vs = [.str t] ∧ ∀ H' b, Same H H' → (b = true ↔ IsNum t) → Q (.bl b) H'
def sp_is_sort (K : PySem.W.Frag) : Sp := fun vs H Q _ => ∃ b : Bool, vs = [.str (sortS b)] ∧ ∀ H', Same H H' → Q (.bl true) H'
def sp_has_double (K : PySem.W.Frag) : Sp := fun vs H Q _ => ∃ (p : Addr) (xs : List V) (bs : List Box), vs = [.ref p] ∧ SqL K H p xs ∧ Dts K H xs (bs.map boxD) ∧ bs.length ≤ 30 ∧ (bs.map fun b => numS b.1).Nodup ∧ ∀ H', Same H H' → Q (.bl false) H'
def sp_are_loops (K : PySem.W.Frag) : Sp := fun vs H Q _ => ∃ (x : V) (ls : List (List Box)), vs = [x] ∧ Dt K H x (townD ls) ∧ Good ls ∧ ∀ H', Same H H' → Q (.bl true) H'
def sp_check_boxes (K : PySem.W.Frag) : Sp := fun vs H Q _ => ∃ (p : Addr) (xs : List V) (bs : List Box), vs = [.ref p] ∧ SqL K H p xs ∧ Dts K H xs (bs.map boxD) ∧ bs.length ≤ 30 ∧ Bs bs ∧ (bs.map fun b => numS b.1).Nodup ∧ ∀ H', Same H H' → Q .non H'
def sp_check_town (K : PySem.W.Frag) : Sp := fun vs H Q _ => ∃ (x : V) (ls : List (List Box)) (r h : Int), vs = [x, .int r, .int h] ∧ Dt K H x (townD ls) ∧ Good ls ∧ 1 ≤ r ∧ r ≤ 8 ∧ 1 ≤ h ∧ h ≤ 2 ∧ h ≤ r ∧ ∀ H', Same H H' → Q .non H'
def sp_init (K : PySem.W.Frag) (C : Addr) : Sp := fun vs H Q _ => ∃ (p dx : Addr) (x : V) (ls : List (List Box)) (r h : Int), vs = [.ref p, x, .int r, .int h] ∧ H p = some (.ins C dx []) ∧ Dt K H x (townD ls) ∧ Good ls ∧ 1 ≤ r ∧ r ≤ 8 ∧ 1 ≤ h ∧ h ≤ 2 ∧ h ≤ r ∧
  ∀ H', (∀ q o, q ≠ p → H q = some o → H' q = some o) → TownAt K C H' p ls → Q .non H'
def sp_wire (K : PySem.W.Frag) (C : Addr) : Sp := fun vs H Q _ => ∃ (p : Addr) (i : Nat) (ls : List (List Box)) (l : List Box), vs = [.ref p, .int i] ∧ TownAt K C H p ls ∧ ls[i]? = some l ∧ ls.length ≤ 3 ∧ ∀ H' y, Same H H' → Dt K H' y (loopD l) → Q y H'
def sp_near_part (K : PySem.W.Frag) : Sp := fun vs H Q _ => ∃ (x y : V) (ds : List PyData) (ks : List Nat), vs = [x, y] ∧ Dt K H x (.tuple ds) ∧ Dt K H y (cutD ks) ∧ Cut ds.length ks ∧ ds.length ≤ 100 ∧ ∀ H' z, Same H H' → Dt K H' z (.tuple (nearL ds ks)) → Q z H'
def sp_far_part (K : PySem.W.Frag) : Sp := fun vs H Q _ => ∃ (x y : V) (ds : List PyData) (ks : List Nat), vs = [x, y] ∧ Dt K H x (.tuple ds) ∧ Dt K H y (cutD ks) ∧ Cut ds.length ks ∧ ds.length ≤ 100 ∧ ∀ H' z, Same H H' → Dt K H' z (.tuple (farL ds ks)) → Q z H'
def sp_dumb_part (K : PySem.W.Frag) : Sp := fun vs H Q _ => ∃ (x y : V) (ds : List PyData) (ks : List Nat), vs = [x, y] ∧ Dt K H x (.tuple ds) ∧ Dt K H y (cutD ks) ∧ Cut ds.length ks ∧ ds.length ≤ 100 ∧ ∀ H' z, Same H H' → Dt K H' z (.tuple (dumbL ds ks)) → Q z H'
def sp_loop_numbers (K : PySem.W.Frag) (C : Addr) : Sp := fun vs H Q _ => ∃ (p : Addr) (i : Nat) (ls : List (List Box)) (l : List Box), vs = [.ref p, .int i] ∧ TownAt K C H p ls ∧ ls[i]? = some l ∧ ls.length ≤ 3 ∧ l.length ≤ 10 ∧ ∀ H' y, Same H H' → Dt K H' y (.tuple (l.map numD)) → Q y H'
/-- the parts of the wire -/
def partsL {α : Type} : List (List α) → List (List Nat) → List (List α)
  | l :: ls, [] :: cs => l :: partsL ls cs
  | l :: ls, (k :: ks) :: cs => nearL l (k :: ks) :: farL l (k :: ks) :: partsL ls cs
  | _, _ => []
def dumbsL {α : Type} : List (List α) → List (List Nat) → List α
  | l :: ls, c :: cs => dumbL l c ++ dumbsL ls cs
  | _, _ => []
/-- cuts of each loop -/
def Cuts (ls : List (List Box)) (cs : List (List Nat)) : Prop := cs.length = ls.length ∧ ∀ (i : Nat) l c, ls[i]? = some l → cs[i]? = some c → Cut l.length c
def numsD (ls : List (List Box)) : List (List PyData) := ls.map fun l => l.map numD
def sp_wires (K : PySem.W.Frag) (C : Addr) : Sp := fun vs H Q _ => ∃ (p : Addr) (y : V) (j : Bool) (ls : List (List Box)) (cs : List (List Nat)), vs = [.ref p, y, .bl j] ∧ TownAt K C H p ls ∧ Good ls ∧ Dt K H y (cutsD cs) ∧ Cuts ls cs ∧
  ∀ H' z, Same H H' → (j = false → Dt K H' z (.tuple ((partsL (numsD ls) cs).map PyData.tuple))) → (j = true → Dt K H' z (.tuple [.tuple (partsL (numsD ls) cs).flatten])) → Q z H'
def sp_dumb_numbers (K : PySem.W.Frag) (C : Addr) : Sp := fun vs H Q _ => ∃ (p : Addr) (y : V) (ls : List (List Box)) (cs : List (List Nat)), vs = [.ref p, y] ∧ TownAt K C H p ls ∧ Good ls ∧ Dt K H y (cutsD cs) ∧ Cuts ls cs ∧ ∀ H' z, Same H H' → Dt K H' z (.tuple (dumbsL (numsD ls) cs)) → Q z H'
def sp_source (K : PySem.W.Frag) : Sp := fun vs H Q _ => ∃ (a : Addr) (ns : List Int), vs = [.ref a] ∧ SqL K H a (ns.map V.int) ∧ ns.length ≤ 63 ∧ ∀ H' s a b, Same H H' → Src H' s a b 0 → H s = none → H a = none → Q (.ref s) H'
def sp_draw (K : PySem.W.Frag) : Sp := fun vs H Q _ => ∃ (s a b : Addr) (n : Nat) (lim : Int), vs = [.ref s, .int lim] ∧ 0 < lim ∧ lim < 1073741824 ∧ Src H s a b n ∧ n ≤ 1000000 ∧
  ∀ H' d, 0 ≤ d → d < lim → Src H' s a b (n + 1) → But2 s a H H' → Q (.int d) H'
def sp_number (K : PySem.W.Frag) : Sp := fun vs H Q _ => ∃ (s a b : Addr) (n : Nat), vs = [.ref s] ∧ Src H s a b n ∧ n ≤ 900000 ∧ ∀ H' (ds : List Nat), Num ds → Src H' s a b (n + 6) → But2 s a H H' → Q (.str (numS ds)) H'
def sp_fresh (K : PySem.W.Frag) : Sp := fun vs H Q _ => ∃ (s a b t : Addr) (n : Nat) (ts : List Str), vs = [.ref s, .ref t] ∧ Src H s a b n ∧ n ≤ 800000 ∧ H t = some (.lst (ts.map V.str)) ∧ t ≠ s ∧ t ≠ a ∧ ts.length ≤ 40 ∧
  ∀ H' (ds : List Nat), Num ds → numS ds ∉ ts → Src H' s a b (n + 6) → But2 s a H H' → Q (.str (numS ds)) H'
def sp_loops (K : PySem.W.Frag) : Sp := fun vs H Q _ => ∃ (s a b : Addr) (n : Nat), vs = [.ref s, .bl false] ∧ Src H s a b n ∧ n ≤ 700000 ∧ ∀ H' y (ls : List (List Box)), Good ls → Dt K H' y (townD ls) → Src H' s a b (n + 300) → But2 s a H H' → Q y H'
def sp_numbers (K : PySem.W.Frag) : Sp := fun vs H Q _ => ∃ (x : V) (ls : List (List Box)), vs = [x] ∧ Dt K H x (townD ls) ∧ Good ls ∧ ∀ H' p, Same H H' → H p = none → H' p = some (.lst (ls.flatten.map fun b => V.str (numS b.1))) → Q (.ref p) H'
def sp_stretches (K : PySem.W.Frag) : Sp := fun vs H Q _ => ∃ (s a b : Addr) (n m : Nat), vs = [.ref s, .int m] ∧ Src H s a b n ∧ n ≤ 800000 ∧ m ≤ 10 ∧ ∀ H' y (ks : List Nat), Cut m ks → Dt K H' y (cutD ks) → Src H' s a b (n + 20) → But2 s a H H' → Q y H'
inductive Side
  | near
  | far
  | dumb
def Side.s : Side → Str
  | .near => "near"
  | .far => "far"
  | .dumb => "dumb"
/-- whether the box at place i lies on this side -/
def on (ks : List Nat) : Side → Nat → Bool
  | .near, i => (ks.filter fun k => decide (k ≤ i)).isEmpty
  | .far, i => (ks.filter fun k => decide (i < k)).isEmpty
  | .dumb, i => !(ks.filter fun k => decide (k ≤ i)).isEmpty && !(ks.filter fun k => decide (i < k)).isEmpty
def side {α : Type} (ds : List α) (ks : List Nat) : Side → List α
  | .near => nearL ds ks
  | .far => farL ds ks
  | .dumb => dumbL ds ks
def sp_side (K : PySem.W.Frag) : Sp := fun vs H Q _ => ∃ (i : Nat) (y : V) (ks : List Nat) (c : Side), vs = [.int i, y, .str c.s] ∧ Dt K H y (cutD ks) ∧ ks.length ≤ 200 ∧ ∀ H', Same H H' → Q (.bl (on ks c i)) H'
def sp_part (K : PySem.W.Frag) : Sp := fun vs H Q _ => ∃ (x y : V) (ds : List PyData) (ks : List Nat) (c : Side), vs = [x, y, .str c.s] ∧ Dt K H x (.tuple ds) ∧ Dt K H y (cutD ks) ∧ Cut ds.length ks ∧ ds.length ≤ 100 ∧ ∀ H' z, Same H H' → Dt K H' z (.tuple (side ds ks c)) → Q z H'
def sp_loop (K : PySem.W.Frag) : Sp := fun vs H Q _ => ∃ (x y : V) (ds : List PyData) (ks : List Nat), vs = [x, y] ∧ Dt K H x (.tuple ds) ∧ Dt K H y (cutD ks) ∧ Cut ds.length ks ∧ ds.length ≤ 100 ∧ (∀ d ∈ ds, Fine 5 d) ∧ ∀ H', Same H H' → Q (.bl true) H'
def sp_tuples (K : PySem.W.Frag) : Sp := fun vs H Q _ => ∃ (x : V) (dss : List (List PyData)), vs = [x] ∧ Dt K H x (.tuple (dss.map PyData.tuple)) ∧ dss.length ≤ 100 ∧ ∀ H', Same H H' → Q (.bl true) H'
def sp_law (K : PySem.W.Frag) : Sp := fun vs H Q _ => ∃ (a : Addr) (ns : List Int), vs = [.ref a] ∧ SqL K H a (ns.map V.int) ∧ ns.length ≤ 63 ∧ ∀ H', Q (.bl true) H'
end K18

namespace K18
open PySem L2 Wm TL Dv
section
variable {P : Program} {w : World} {K : PySem.W.Frag} {mg : Str → Option Value} {base : Heap}
theorem tyT {H : Hp} {p : Addr} {xs : List V} (h : SqT K H p xs) : TyX K H (.ref p) (.type "tuple") := by
  rcases h with (h | ⟨o, h⟩) | ⟨o, its, n, e, c, _⟩
  · exact .base (.tup h)
  · exact .fTuple h
  · exact .kTuple e c
theorem box_inv {H : Hp} {x : V} {b : Box} (h : Dt K H x (boxD b)) : ∃ p, x = .ref p ∧ SqT K H p [.str (numS b.1), .str (sortS b.2)] := by
  obtain ⟨p, xs, rfl, hS, hd⟩ := h.inv
  cases hd with
  | cons a r =>
    cases r with
    | cons b2 r =>
      cases r
      rw [a.str_inv, b2.str_inv] at hS
      exact ⟨p, rfl, hS⟩
theorem ok_is_whole (T : Txt K mg) : FnOk P w K mg base CX0 1 T.a_is_whole T.d_is_whole ["thing"] (sp_is_whole K) := by
  refine T.F_is_whole.ok sc_is_whole (fun vs H Q E h => ?_) (fun cdv A outer s H vs Q E hr h => ?_)
  · obtain ⟨i, rfl, _⟩ := h
    rfl
  · obtain ⟨i, rfl, k⟩ := h
    refine ⟨_, (pss_one (ps_ret (pe_and (pe_callB call_isi (by rfl) T.z_isinstance (by decide +kernel) (pa_cons (pv 0) (pa_cons (pe_bltn (v := V.ty "int") (by rfl) T.z_int (by decide +kernel) rfl) pa_nil))) (pe_one (pe_not (pe_callB call_isi (by rfl) T.z_isinstance (by decide +kernel) (pa_cons (pv 0) (pa_cons (pe_bltn (v := V.ty "bool") (by rfl) T.z_bool (by decide +kernel) rfl) pa_nil)))))))), ?_⟩
    refine ⟨_, rfl, _, _, _, _, true, rfl, .ty "int", .base (.int _), kit_ty (by decide +kernel), true, rfl, iteT ?_⟩
    exact ⟨_, rfl, _, _, _, _, false, rfl, .ty "bool", .base (.int _), kit_ty (by decide +kernel), false, rfl, k⟩
theorem ok_is_whole_within (T : Txt K mg) : FnOk P w K mg base CX0 2 T.a_is_whole_within T.d_is_whole_within ["thing", "low", "high"] (sp_is_whole_within K) := by
  refine T.F_is_whole_within.ok sc_is_whole_within (fun vs H Q E h => ?_) (fun cdv A outer s H vs Q E hr h => ?_)
  · obtain ⟨i, lo, hi, rfl, _⟩ := h
    rfl
  · obtain ⟨i, lo, hi, rfl, h1, h2, k⟩ := h
    refine ⟨_, (pss_one (ps_ret (pe_and (pe_call (ok_is_whole T) (hr.mono (by decide)) (by rfl) T.g_is_whole T.F_is_whole.kp T.b_is_whole .nil pass0 (pa_cons (pv 0) pa_nil)) (pe_one (pe_chain op_le op_le (pv 1) (pv 0) (pv 2)))))), ?_⟩
    refine ⟨_, rfl, i, rfl, true, rfl, iteT ?_⟩
    refine ⟨_, rfl, _, rfl, _, _, rfl, rfl, _, rfl, ?_⟩
    rw [decide_eq_true h1]
    refine iteT ⟨_, rfl, _, _, rfl, rfl, ?_⟩
    show Q (V.bl (decide (i ≤ hi))) H
    rw [decide_eq_true h2]
    exact k
theorem ok_is_sequence (T : Txt K mg) : FnOk P w K mg base CX0 1 T.a_is_sequence T.d_is_sequence ["thing"] (sp_is_sequence K) := by
  refine T.F_is_sequence.ok sc_is_sequence (fun vs H Q E h => ?_) (fun cdv A outer s H vs Q E hr h => ?_)
  · obtain ⟨p, xs, rfl, _⟩ := h
    rfl
  · obtain ⟨p, xs, rfl, hS, k⟩ := h
    refine ⟨_, (pss_one (ps_ret (pe_callB call_isiT (by rfl) T.z_isinstance (by decide +kernel) (pa_cons (pv 0) (pa_cons (pe_tup (pa_cons (pe_bltn (v := V.ty "list") (by rfl) T.z_list (by decide +kernel) rfl) (pa_cons (pe_bltn (v := V.ty "tuple") (by rfl) T.z_tuple (by decide +kernel) rfl) pa_nil))) pa_nil))))), ?_⟩
    refine ⟨_, rfl, by show 2 ≤ sizeLine; decide, fun t ht => ?_⟩
    have s1 : Same H (upd H t (.tup [.ty "list", .ty "tuple"])) := same_new ht
    refine ⟨_, t, _, _, _, true, rfl, upd_same, .cons (.ty "list") (.cons (.ty "tuple") .nil), tyT (sameT s1 hS), kitAny_cons (b := false) (kit_ty (by decide +kernel)) (fun _ => kitAny_cons (b := true) (kit_ty (by decide +kernel)) (fun z => by cases z) (fun _ => rfl)) (fun z => by cases z), ?_⟩
    exact k _ s1
theorem ok_is_sort (T : Txt K mg) : FnOk P w K mg base CX0 1 T.a_is_sort T.d_is_sort ["thing"] (sp_is_sort K) := by
  refine T.F_is_sort.ok sc_is_sort (fun vs H Q E h => ?_) (fun cdv A outer s H vs Q E hr h => ?_)
  · obtain ⟨b, rfl, _⟩ := h
    rfl
  · obtain ⟨b, rfl, k⟩ := h
    refine ⟨_, (pss_one (ps_ret (pe_cmpR op_in_seq (pv 0) (pe_tup (pa_cons (ClX.pe_cval (pe_glob (v := V.ref T.C) rfl T.gC rfl)) (pa_cons (ClX.pe_cval (pe_glob (v := V.ref T.C) rfl T.gC rfl)) pa_nil))) rfl))), ?_⟩
    refine ⟨_, rfl, T.C, T.mc, _, _, rfl, T.rd, T.vP, T.C, T.mc, _, _, rfl, T.rd, T.vS, by show 2 ≤ sizeLine; decide, fun t ht => ?_⟩
    refine ⟨t, _, rfl, .inr (SqT.of upd_same), rfl, rfl, ?_⟩
    have e : inV (.str (sortS b)) [V.str "plain", V.str "shy"] = true := by cases b <;> decide +kernel
    show Q (V.bl (if false = true then _ else inV (.str (sortS b)) [V.str "plain", V.str "shy"])) _
    rw [if_neg (by decide), e]
    exact k _ (same_new ht)
end
end K18

namespace K18
open PySem L2 Wm TL Dv
section
variable {P : Program} {w : World} {K : PySem.W.Frag} {mg : Str → Option Value} {base : Heap}
theorem small_len {n : Nat} (h : n ≤ 100000) : n ≤ sizeLine := by
  have : (100000 : Nat) ≤ sizeLine := by decide
  omega
theorem sum_cast : ∀ ds : List Nat, (ds.map fun (d : Nat) => (d : Int)).sum = ((ds.sum : Nat) : Int)
  | [] => rfl
  | d :: ds => by
    rw [List.map_cons, List.sum_cons, List.sum_cons, sum_cast ds]
    omega
def letters (t : Str) : List Bool := (tl t).map fun c => decide (c ∈ ("123456789" : Str).cps.toList)
theorem letters_all {t : Str} : (letters t).all id = true ↔ ∀ c ∈ tl t, c ∈ ("123456789" : Str).cps.toList := by
  unfold letters
  rw [List.all_map, List.all_eq_true]
  constructor
  · intro h c m
    exact of_decide_eq_true (h c m)
  · intro h c m
    exact decide_eq_true (h c m)
theorem cps_at {t : Str} {i c : Nat} (h : t.cps[i]? = some c) : (tl t)[i]? = some c := by
  rw [← h]
  exact Array.getElem?_toList ..
theorem ok_is_number (T : Txt K mg) : FnOk P w K mg base CX0 1 T.a_is_number T.d_is_number ["thing"] (sp_is_number K) := by
  refine T.F_is_number.ok sc_is_number (fun vs H Q E h => ?_) (fun cdv A outer s H vs Q E hr h => ?_)
  · obtain ⟨t, _, rfl, _⟩ := h
    rfl
  · obtain ⟨t, hz, rfl, k⟩ := h
    have hl : t.length = (tl t).length := len_tl t
    have numlen : IsNum t → 1 ≤ t.length ∧ t.length ≤ 4 := fun ⟨ds, N, e⟩ => by
      rw [e, numS_len]
      exact ⟨N.pos, N.len⟩
    refine ⟨_, (pss_cons (ps_if (PW.pt (pw_or (pt_not (pt_val (pe_callB call_isi (by rfl) T.z_isinstance (by decide +kernel) (pa_cons (pv 0) (pa_cons (pe_bltn (v := V.ty "str") (by rfl) T.z_str (by decide +kernel) rfl) pa_nil))))) (pw_or1 (pt_not (pt_chain op_le op_le pe_int (pe_callB call_len_str (by rfl) T.z_len PySem.boot_len (pa_cons (pv 0) pa_nil)) (pe_glob (v := V.int 4) rfl T.c_MOST_DIGITS ⟨_, rfl⟩))))))
        (pss_one (ps_ret pe_bl))
        pss_nil)
      (pss_cons (ps_if (pt_not (pt_val (pe_callB (cr_all rfl) (by rfl) T.z_all (by decide +kernel) (pa_cons (pe_lc (own := [("letter", 1)]) (g := gName 1) (tt := tYes) rfl sc_is_number.nd (pi_str (pv 0)) (blkOk_by (own := [("letter", 1)]) (N := nm_is_number) (sc := (defScope s_is_number)) (by decide +kernel)) (fun _ _ _ _ _ => pg_name (i := 1) sc_is_number.nd rfl (Or.inl rfl)) (fun _ _ _ _ _ => pts_nil) (fun _ _ _ _ _ => (pe_cmpR op_in_sign (pv 1) (pe_glob (v := V.str "123456789") rfl T.c_DIGITS ⟨_, rfl⟩) rfl))) pa_nil))))
        (pss_one (ps_ret pe_bl))
        pss_nil)
      (pss_one (ps_ret (pe_cmpR op_le (pe_callB (cr_sum rfl) (by rfl) T.z_sum (by decide +kernel) (pa_cons (pe_lc (own := [("letter", 1)]) (g := gName 1) (tt := tYes) rfl sc_is_number.nd (pi_str (pv 0)) (blkOk_by (own := [("letter", 1)]) (N := nm_is_number) (sc := (defScope s_is_number)) (by decide +kernel)) (fun _ _ _ _ _ => pg_name (i := 1) sc_is_number.nd rfl (Or.inl rfl)) (fun _ _ _ _ _ => pts_nil) (fun _ _ _ _ _ => (pe_callTy call_int_str (by rfl) T.z_int (by decide +kernel) (pa_cons (pv 1) pa_nil)))) pa_nil)) (pe_glob (v := V.int 24) rfl T.c_GREATEST_SUM ⟨_, rfl⟩) (nomark _)))))), ?_⟩
    refine ⟨_, rfl, _, _, _, _, true, rfl, .ty "str", .base (.str _), kit_ty (by decide +kernel), true, rfl, ?_⟩
    refine iteF ?_
    refine ⟨_, rfl, _, rfl, small_len hz, _, _, rfl, rfl, _, rfl, ?_⟩
    refine ite2 (fun c1 => ?_) (fun c1 => ?_)
    case refine_2 =>
      have c1' : ¬ (1 : Int) ≤ (t.length : Nat) := fun z => c1 (decide_eq_true z)
      refine ⟨false, rfl, iteT ?_⟩
      exact k _ _ (Same.refl _) ⟨fun z => (by cases z), fun z => absurd (numlen z).1 (by omega)⟩
    have c1' : (1 : Int) ≤ (t.length : Nat) := of_decide_eq_true c1
    refine ⟨_, _, rfl, rfl, _, rfl, ?_⟩
    by_cases c2 : ((t.length : Nat) : Int) ≤ 4
    case neg =>
      rw [decide_eq_false c2]
      refine iteT ?_
      exact k _ _ (Same.refl _) ⟨fun z => (by cases z), fun z => absurd (numlen z).2 (by omega)⟩
    rw [decide_eq_true c2]
    refine iteF ?_
    refine ⟨_, rfl, _, rfl, fun D hD => ?_⟩
    have hsz : t.cps.size = (tl t).length := hl
    refine lc_it walk_str (fun i H' => Same H H' ∧ H' D = some (.lst (((letters t).take i).map V.bl))) ⟨same_new hD, upd_same⟩ (fun _ _ _ _ => trivial) (fun i x H1 H' hi hP hY => ?_) (fun H1 hP => ?_)
    · obtain ⟨sm, hL⟩ := hP
      obtain ⟨rfl, c, hc, rfl⟩ := hY
      have hc2 : (letters t)[i]? = some (decide (c ∈ ("123456789" : Str).cps.toList)) := by
        unfold letters
        rw [List.getElem?_map, cps_at hc]
        rfl
      refine ⟨rfl, yesT ?_⟩
      refine ⟨_, rfl, _, _, rfl, rfl, _, hL, by rw [List.length_map, List.length_take]; exact small1000 (by omega), ?_⟩
      refine ⟨same_mut sm hD, ?_⟩
      rw [upd_same, take_succ_map _ hc2]
    · obtain ⟨sm, hL⟩ := hP
      have ell : (letters t).length = t.cps.size := by unfold letters; rw [List.length_map, hsz]
      rw [← ell, List.take_length] at hL
      refine ⟨D, letters t, rfl, SqL.of hL, _, rfl, ?_⟩
      by_cases c3 : (letters t).all id = true
      case neg =>
        rw [Bool.not_eq_true] at c3
        rw [c3]
        refine iteT ?_
        refine k _ _ sm ⟨fun z => (by cases z), fun ⟨ds, N, e⟩ => ?_⟩
        have q := letters_all.mpr (by rw [e]; exact num_codes N.dig : ∀ c ∈ tl t, c ∈ ("123456789" : Str).cps.toList)
        rw [c3] at q
        cases q
      rw [c3]
      refine iteF ?_
      obtain ⟨ds, dig, et⟩ := dig_text t (letters_all.mp c3)
      subst et
      rw [numS_len] at c1' c2
      refine ⟨_, rfl, _, rfl, fun D2 hD2 => ?_⟩
      refine lc_it walk_str (fun i H' => Same H H' ∧ H' D2 = some (.lst ((ds.take i).map fun (d : Nat) => V.int (d : Int)))) ⟨sm.trans (same_new hD2), upd_same⟩ (fun _ _ _ _ => trivial) (fun i x H2 H' hi hP hY => ?_) (fun H2 hP => ?_)
      · obtain ⟨sm2, hl2⟩ := hP
        obtain ⟨rfl, c, hc, rfl⟩ := hY
        rw [numS_size] at hi
        rw [numS_at ds i hi] at hc
        have hc' := (Option.some.inj hc).symm
        subst hc'
        refine ⟨rfl, yesT ?_⟩
        refine ⟨_, rfl, _, _, rfl, dig_int (dig _ (List.getElem_mem hi)), (by show 1 ≤ 640; decide), _, hl2, by rw [List.length_map, List.length_take]; exact small1000 (by omega), ?_⟩
        refine ⟨same_mut sm2 (sm.free hD2), ?_⟩
        rw [upd_same, take_succ_map _ (List.getElem?_eq_getElem hi)]
      · obtain ⟨sm2, hl2⟩ := hP
        rw [numS_size, List.take_length] at hl2
        refine ⟨D2, ds.map fun (d : Nat) => (d : Int), rfl, SqL.of (by rw [hl2, List.map_map]; rfl), _, _, rfl, rfl, ?_⟩
        rw [sum_cast]
        refine k _ _ sm2 ?_
        rw [isnum_dig]
        constructor
        · intro z
          have z' : ((ds.sum : Nat) : Int) ≤ 24 := of_decide_eq_true z
          exact ⟨by omega, by omega, dig, by omega⟩
        · intro N
          exact decide_eq_true (show ((ds.sum : Nat) : Int) ≤ 24 by have := N.sum; omega)
end
end K18

namespace K18
open PySem L2 Wm TL Dv
section
variable {P : Program} {w : World} {K : PySem.W.Frag} {mg : Str → Option Value} {base : Heap}
theorem cnt_nodup {xs : List Str} {c : Nat} (h : Sl.Cnt xs xs.length c) (nd : xs.Nodup) : c = xs.length := h.2.mpr (by rw [List.take_length]; exact nd)
theorem boxes_at {H : Hp} {xs : List V} {bs : List Box} {i : Nat} {x : V} (h : Dts K H xs (bs.map boxD)) (hx : xs[i]? = some x) : ∃ b, bs[i]? = some b ∧ Dt K H x (boxD b) := by
  obtain ⟨d, hd, a⟩ := h.at hx
  rw [List.getElem?_map] at hd
  obtain ⟨b, hb, rfl⟩ := Option.map_eq_some_iff.mp hd
  exact ⟨b, hb, a⟩
theorem boxes_len {H : Hp} {xs : List V} {bs : List Box} (h : Dts K H xs (bs.map boxD)) : xs.length = bs.length := by rw [h.len, List.length_map]
theorem ok_has_double (T : Txt K mg) : FnOk P w K mg base CX0 1 T.a_has_double T.d_has_double ["boxes"] (sp_has_double K) := by
  refine T.F_has_double.ok sc_has_double (fun vs H Q E h => ?_) (fun cdv A outer s H vs Q E hr h => ?_)
  · obtain ⟨p, xs, bs, rfl, _⟩ := h
    rfl
  · obtain ⟨p, xs, bs, rfl, hS, hd, hl, nd, k⟩ := h
    have el := boxes_len hd
    refine ⟨_, (pss_one (ps_ret (pe_cmpR op_lt (Sl.pe_len rfl (by rfl) T.z_len (by rfl) T.z_set (pe_lc (own := [("number", 1), ("_", 2)]) (g := gTup K 2 (gCons (gName 1) (gCons (gName 2) (gNil)))) (tt := tYes) rfl sc_has_double.nd (pi_list (pv 0)) (blkOk_by (own := [("number", 1), ("_", 2)]) (N := nm_has_double) (sc := (defScope s_has_double)) (by decide +kernel)) (fun _ _ _ _ _ => (pg_tup rfl (pgs_cons (pg_name (i := 1) sc_has_double.nd rfl (Or.inl rfl)) (pgs_cons (pg_name (i := 2) sc_has_double.nd rfl (Or.inl rfl)) pgs_nil)))) (fun _ _ _ _ _ => pts_nil) (fun _ _ _ _ _ => (pv 1)))) (pe_callB call_len_seq (by rfl) T.z_len PySem.boot_len (pa_cons (pv 0) pa_nil)) (nomark _)))), ?_⟩
    refine ⟨_, rfl, p, rfl, ⟨_, hS⟩, fun D hD => ?_⟩
    refine Lm.lc_map (K := K) walk_list (fun i y _ => (bs.map fun b => V.str (numS b.1))[i]? = some y) (fun _ _ _ _ h _ => h) hD (by omega) (fun H' s => Hf.keepL s hS) (fun i x H' hi hx sm Q2 Z q => ?_) (fun H2 ys s2 hy ly hR => ?_)
    · obtain ⟨b, hb, a⟩ := boxes_at hd hx
      obtain ⟨q1, rfl, hq⟩ := box_inv (a.k (Kt.same sm))
      refine ⟨q1, _, rfl, hq, rfl, _, _, rfl, _, _, rfl, rfl, rfl, yesT ?_⟩
      refine ⟨_, rfl, q _ _ (Same.refl _) ?_⟩
      rw [List.getElem?_map, hb]
      rfl
    · have ey : ys = (bs.map fun b => numS b.1).map V.str := by
        rw [List.map_map]
        exact Lm.list_is (by rw [ly, List.length_map, el]) hR
      rw [ey] at hy
      refine ⟨D, _, rfl, SqL.of hy, by rw [List.length_map]; omega, fun c hc => ?_⟩
      have ec := cnt_nodup hc nd
      rw [List.length_map] at ec
      refine ⟨_, rfl, p, _, rfl, .inl (Hf.keepL s2 hS), _, _, rfl, rfl, ?_⟩
      have e : decide (((c : Nat) : Int) < ((xs.length : Nat) : Int)) = false := decide_eq_false (by omega)
      show Q (V.bl (decide (((c : Nat) : Int) < ((xs.length : Nat) : Int)))) _
      rw [e]
      exact k _ s2
theorem ok_are_loops (T : Txt K mg) : FnOk P w K mg base CX0 2 T.a_are_loops T.d_are_loops ["thing"] (sp_are_loops K) := by
  refine T.F_are_loops.ok sc_are_loops (fun vs H Q E h => ?_) (fun cdv A outer s H vs Q E hr h => ?_)
  · obtain ⟨x, ls, rfl, _⟩ := h
    rfl
  · obtain ⟨x, ls, rfl, hx, G, k⟩ := h
    have g1 := G.l1
    have g2 := G.l2
    obtain ⟨p, xs, rfl, hS, hd⟩ := hx.inv
    have el : xs.length = ls.length := by rw [hd.len, List.length_map]
    refine ⟨_, (pss_cons (ps_if (PW.pt (pw_or (pt_not (pt_val (pe_call (ok_is_sequence T) (hr.mono (by decide)) (by rfl) T.g_is_sequence T.F_is_sequence.kp T.b_is_sequence .nil pass0 (pa_cons (pv 0) pa_nil)))) (pw_or1 (pt_not (pt_chain op_le op_le pe_int (pe_callB call_len_seq (by rfl) T.z_len PySem.boot_len (pa_cons (pv 0) pa_nil)) (pe_glob (v := V.int 3) rfl T.c_MOST_LOOPS ⟨_, rfl⟩))))))
        (pss_one (ps_ret pe_bl))
        pss_nil)
      (pss_one (ps_ret (pe_callB (cr_all rfl) (by rfl) T.z_all (by decide +kernel) (pa_cons (pe_lc (own := [("loop", 1)]) (g := gName 1) (tt := tYes) rfl sc_are_loops.nd (pi_tup (pv 0)) (blkOk_by (own := [("loop", 1)]) (N := nm_are_loops) (sc := (defScope s_are_loops)) (by decide +kernel)) (fun _ _ _ _ _ => pg_name (i := 1) sc_are_loops.nd rfl (Or.inl rfl)) (fun _ _ _ _ _ => pts_nil) (fun _ _ _ _ _ => (pe_and (pe_call (ok_is_sequence T) (hr.mono (by decide)) (by rfl) T.g_is_sequence T.F_is_sequence.kp T.b_is_sequence .nil pass0 (pa_cons (pv 1) pa_nil)) (pe_one (pe_chain op_le op_le pe_int (pe_callB (show CallR _ _ (Kx.rLen K) from call_len_seq) (by rfl) T.z_len PySem.boot_len (pa_cons (pv 1) pa_nil)) (pe_glob (v := V.int 10) rfl T.c_MOST_BOXES ⟨_, rfl⟩)))))) pa_nil))))), ?_⟩
    refine ⟨_, rfl, p, xs, rfl, hS, fun H1 s1 => ⟨true, rfl, iteF ?_⟩⟩
    refine ⟨_, rfl, p, _, rfl, .inr (sameT s1 hS), _, _, rfl, rfl, _, rfl, ?_⟩
    rw [decide_eq_true (show (1 : Int) ≤ ((xs.length : Nat) : Int) by omega)]
    refine iteT ⟨_, _, rfl, rfl, _, rfl, ?_⟩
    rw [decide_eq_true (show ((xs.length : Nat) : Int) ≤ 3 by omega)]
    refine iteF ?_
    refine ⟨_, rfl, p, rfl, ⟨_, sameT s1 hS⟩, fun D hD => ?_⟩
    refine Lm.lc_map (K := K) walk_tup (fun i y _ => y = .bl true) (fun _ _ _ _ h _ => h) hD (by omega) (fun H' s => sameT (s1.trans s) hS) (fun i x H' hi hx sm Q2 Z q => ?_) (fun H2 ys s2 hy ly hR => ?_)
    · obtain ⟨d, hd2, a⟩ := hd.at hx
      rw [List.getElem?_map] at hd2
      obtain ⟨l, hl, rfl⟩ := Option.map_eq_some_iff.mp hd2
      obtain ⟨q1, zs, rfl, hq, hz⟩ := (a.k (Kt.same (s1.trans sm))).inv
      have lz : zs.length = l.length := by rw [hz.len, List.length_map]
      have b1 := G.b1 l (List.mem_of_getElem? hl)
      have b2 := G.b2 l (List.mem_of_getElem? hl)
      refine ⟨rfl, yesT ?_⟩
      refine ⟨_, rfl, q1, zs, rfl, hq, fun H5 s5 => ⟨true, rfl, iteT ?_⟩⟩
      refine ⟨_, rfl, q1, _, rfl, .inr (sameT s5 hq), _, _, rfl, rfl, _, rfl, ?_⟩
      rw [decide_eq_true (show (1 : Int) ≤ ((zs.length : Nat) : Int) by omega)]
      refine iteT ⟨_, _, rfl, rfl, q _ _ s5 ?_⟩
      show V.bl (decide (((zs.length : Nat) : Int) ≤ 10)) = V.bl true
      rw [decide_eq_true (by omega)]
    · refine ⟨D, ys.map fun _ => true, rfl, SqL.of (by rw [hy, List.map_map, show ys = ys.map (V.bl ∘ fun _ => true) from Lm.list_is (by rw [List.length_map]) fun i y e => by rw [List.getElem?_map, e, hR i y e]; rfl]; simp), ?_⟩
      have e : (ys.map fun _ => true).all id = true := by simp
      rw [e]
      exact k _ (s1.trans s2)
end
end K18

namespace K18
open PySem L2 Wm TL Dv
section
variable {P : Program} {w : World} {K : PySem.W.Frag} {mg : Str → Option Value} {base : Heap}
theorem dts_of {H : Hp} {ys : List V} {ds : List PyData} (l : ys.length = ds.length) (h : ∀ (i : Nat) y, ys[i]? = some y → ∃ d, ds[i]? = some d ∧ Dt K H y d) : Dts K H ys ds := by
  induction ds generalizing ys with
  | nil =>
    rw [List.eq_nil_of_length_eq_zero l]
    exact .nil
  | cons d ds ih =>
    cases ys with
    | nil => cases l
    | cons y ys =>
      refine .cons ?_ (ih (by simpa using l) fun i z hz => ?_)
      · obtain ⟨e, he, a⟩ := h 0 y rfl
        cases he
        exact a
      · obtain ⟨e, he, a⟩ := h (i + 1) z (by simpa using hz)
        exact ⟨e, by simpa using he, a⟩
theorem flat_le {α : Type} : ∀ (ls : List (List α)) (i : Nat), (∀ l ∈ ls, l.length ≤ 10) → (ls.take i).flatten.length ≤ 10 * i
  | [], i, _ => by simp
  | l :: ls, 0, _ => by simp
  | l :: ls, i + 1, h => by
    have ih := flat_le ls i fun m q => h m (List.mem_cons_of_mem _ q)
    have hl := h l (by simp)
    rw [List.take_succ_cons, List.flatten_cons, List.length_append]
    omega
theorem flat_succ {α : Type} {ls : List (List α)} {l : List α} {i : Nat} (h : ls[i]? = some l) : (ls.take (i + 1)).flatten = (ls.take i).flatten ++ l := by
  rw [List.take_add_one, h, List.flatten_append]
  simp
theorem Good.flat {ls : List (List Box)} (G : Good ls) : ls.flatten.length ≤ 30 := by
  have h := flat_le ls ls.length G.b2
  rw [List.take_length] at h
  have := G.l2
  omega
theorem all_true {H : Hp} {D : Addr} {ys : List V} (hy : H D = some (.lst ys)) (hR : ∀ (i : Nat) y, ys[i]? = some y → y = V.bl true) : SqL K H D ((ys.map fun _ => true).map V.bl) := by
  refine SqL.of ?_
  rw [hy, List.map_map, show ys = ys.map (V.bl ∘ fun _ => true) from Lm.list_is (by rw [List.length_map]) fun i y e => by rw [List.getElem?_map, e, hR i y e]; rfl]
  simp
theorem all_id (ys : List V) : (ys.map fun _ => true).all id = true := by simp
theorem ok_check_boxes (T : Txt K mg) : FnOk P w K mg base CX0 2 T.a_check_boxes T.d_check_boxes ["boxes"] (sp_check_boxes K) := by
  refine T.F_check_boxes.ok sc_check_boxes (fun vs H Q E h => ?_) (fun cdv A outer s H vs Q E hr h => ?_)
  · obtain ⟨p, xs, bs, rfl, _⟩ := h
    rfl
  · obtain ⟨p, xs, bs, rfl, hS, hd, hl, hN, nd, k⟩ := h
    have el := boxes_len hd
    refine ⟨_, (pss_cons (ps_if (pt_not (pt_val (pe_callB (cr_all rfl) (by rfl) T.z_all (by decide +kernel) (pa_cons (pe_lc (own := [("box", 1)]) (g := gName 1) (tt := tYes) rfl sc_check_boxes.nd (pi_list (pv 0)) (blkOk_by (own := [("box", 1)]) (N := nm_check_boxes) (sc := (defScope s_check_boxes)) (by decide +kernel)) (fun _ _ _ _ _ => pg_name (i := 1) sc_check_boxes.nd rfl (Or.inl rfl)) (fun _ _ _ _ _ => pts_nil) (fun _ _ _ _ _ => (pe_and (pe_call (ok_is_sequence T) (hr.mono (by decide)) (by rfl) T.g_is_sequence T.F_is_sequence.kp T.b_is_sequence .nil pass0 (pa_cons (pv 1) pa_nil)) (pe_one (pe_cmpR op_eq (pe_callB (show CallR _ _ (Kx.rLen K) from call_len_seq) (by rfl) T.z_len PySem.boot_len (pa_cons (pv 1) pa_nil)) pe_int (nomark _)))))) pa_nil))))
        (pss_one ps_never)
        pss_nil)
      (pss_cons (ps_if (pt_not (pt_val (pe_callB (cr_all rfl) (by rfl) T.z_all (by decide +kernel) (pa_cons (pe_lc (own := [("number", 2), ("_", 3)]) (g := gTup K 2 (gCons (gName 2) (gCons (gName 3) (gNil)))) (tt := tYes) rfl sc_check_boxes.nd (pi_list (pv 0)) (blkOk_by (own := [("number", 2), ("_", 3)]) (N := nm_check_boxes) (sc := (defScope s_check_boxes)) (by decide +kernel)) (fun _ _ _ _ _ => (pg_tup rfl (pgs_cons (pg_name (i := 2) sc_check_boxes.nd rfl (Or.inl rfl)) (pgs_cons (pg_name (i := 3) sc_check_boxes.nd rfl (Or.inl rfl)) pgs_nil)))) (fun _ _ _ _ _ => pts_nil) (fun _ _ _ _ _ => (pe_call (ok_is_number T) (hr.mono (by decide)) (by rfl) T.g_is_number T.F_is_number.kp T.b_is_number .nil pass0 (pa_cons (pv 2) pa_nil)))) pa_nil))))
        (pss_one ps_never)
        pss_nil)
      (pss_cons (ps_if (pt_not (pt_val (pe_callB (cr_all rfl) (by rfl) T.z_all (by decide +kernel) (pa_cons (pe_lc (own := [("_", 3), ("sort", 4)]) (g := gTup K 2 (gCons (gName 3) (gCons (gName 4) (gNil)))) (tt := tYes) rfl sc_check_boxes.nd (pi_list (pv 0)) (blkOk_by (own := [("_", 3), ("sort", 4)]) (N := nm_check_boxes) (sc := (defScope s_check_boxes)) (by decide +kernel)) (fun _ _ _ _ _ => (pg_tup rfl (pgs_cons (pg_name (i := 3) sc_check_boxes.nd rfl (Or.inl rfl)) (pgs_cons (pg_name (i := 4) sc_check_boxes.nd rfl (Or.inl rfl)) pgs_nil)))) (fun _ _ _ _ _ => pts_nil) (fun _ _ _ _ _ => (pe_call (ok_is_sort T) (hr.mono (by decide)) (by rfl) T.g_is_sort T.F_is_sort.kp T.b_is_sort .nil pass0 (pa_cons (pv 4) pa_nil)))) pa_nil))))
        (pss_one ps_never)
        pss_nil)
      (pss_one (ps_if (pt_val (pe_call (ok_has_double T) (hr.mono (by decide)) (by rfl) T.g_has_double T.F_has_double.kp T.b_has_double .nil pass0 (pa_cons (pv 0) pa_nil)))
        (pss_one ps_never)
        pss_nil))))), ?_⟩
    refine ⟨_, rfl, p, rfl, ⟨_, hS⟩, fun D hD => ?_⟩
    refine Lm.lc_map (K := K) walk_list (fun i y _ => y = .bl true) (fun _ _ _ _ h _ => h) hD (by omega) (fun H' s => Hf.keepL s hS) (fun i x H' hi hx sm Q2 Z q => ?_) (fun H2 ys s2 hy ly hR => ?_)
    · obtain ⟨b, hb, a⟩ := boxes_at hd hx
      obtain ⟨q1, rfl, hq⟩ := box_inv (a.k (Kt.same sm))
      refine ⟨rfl, yesT ?_⟩
      refine ⟨_, rfl, q1, _, rfl, hq, fun H5 s5 => ⟨true, rfl, iteT ?_⟩⟩
      exact ⟨_, rfl, q1, _, rfl, .inr (sameT s5 hq), rfl, q _ _ s5 (congrArg V.bl (decide_eq_true rfl))⟩
    refine ⟨D, _, rfl, all_true hy hR, _, rfl, ?_⟩
    rw [all_id]
    refine iteF ?_
    refine ⟨_, rfl, p, rfl, ⟨_, Hf.keepL s2 hS⟩, fun D3 hD3 => ?_⟩
    refine Lm.lc_map (K := K) walk_list (fun i y _ => y = .bl true) (fun _ _ _ _ h _ => h) hD3 (by omega) (fun H' s => Hf.keepL (s2.trans s) hS) (fun i x H' hi hx sm Q2 Z q => ?_) (fun H3 ys3 s3 hy3 ly3 hR3 => ?_)
    · obtain ⟨b, hb, a⟩ := boxes_at hd hx
      obtain ⟨q1, rfl, hq⟩ := box_inv (a.k (Kt.same (s2.trans sm)))
      have N := hN b (List.mem_of_getElem? hb)
      have := N.len
      refine ⟨q1, _, rfl, hq, rfl, _, _, rfl, _, _, rfl, rfl, rfl, yesT ?_⟩
      refine ⟨_, rfl, numS b.1, by rw [numS_len]; omega, rfl, fun H5 b5 s5 h5 => q _ _ s5 ?_⟩
      rw [h5.mpr ⟨b.1, N, rfl⟩]
    refine ⟨D3, _, rfl, all_true hy3 hR3, _, rfl, ?_⟩
    rw [all_id]
    refine iteF ?_
    have s23 := s2.trans s3
    refine ⟨_, rfl, p, rfl, ⟨_, Hf.keepL s23 hS⟩, fun D4 hD4 => ?_⟩
    refine Lm.lc_map (K := K) walk_list (fun i y _ => y = .bl true) (fun _ _ _ _ h _ => h) hD4 (by omega) (fun H' s => Hf.keepL (s23.trans s) hS) (fun i x H' hi hx sm Q2 Z q => ?_) (fun H4 ys4 s4 hy4 ly4 hR4 => ?_)
    · obtain ⟨b, hb, a⟩ := boxes_at hd hx
      obtain ⟨q1, rfl, hq⟩ := box_inv (a.k (Kt.same (s23.trans sm)))
      refine ⟨q1, _, rfl, hq, rfl, _, _, rfl, _, _, rfl, rfl, rfl, yesT ?_⟩
      exact ⟨_, rfl, b.2, rfl, fun H5 s5 => q _ _ s5 rfl⟩
    refine ⟨D4, _, rfl, all_true hy4 hR4, _, rfl, ?_⟩
    rw [all_id]
    refine iteF ?_
    have s24 := s23.trans s4
    refine ⟨_, rfl, p, xs, bs, rfl, Hf.keepL s24 hS, hd.k (Kt.same s24), hl, nd, fun H5 s5 => ⟨false, rfl, iteF ?_⟩⟩
    exact k _ (s24.trans s5)
theorem ok_check_town (T : Txt K mg) : FnOk P w K mg base CX0 3 T.a_check_town T.d_check_town ["loops", "rounds", "hear"] (sp_check_town K) := by
  refine T.F_check_town.ok sc_check_town (fun vs H Q E h => ?_) (fun cdv A outer s H vs Q E hr h => ?_)
  · obtain ⟨x, ls, r, h, rfl, _⟩ := h
    rfl
  · obtain ⟨x, ls, r, h, rfl, hx, G, r1, r8, h1, h2, hr', k⟩ := h
    have g2 := G.l2
    refine ⟨_, (pss_cons (ps_if (pt_not (pt_val (pe_call (ok_are_loops T) (hr.mono (by decide)) (by rfl) T.g_are_loops T.F_are_loops.kp T.b_are_loops .nil pass0 (pa_cons (pv 0) pa_nil))))
        (pss_one ps_never)
        pss_nil)
      (pss_cons (ps_expr (pe_call (ok_check_boxes T) (hr.mono (by decide)) (by rfl) T.g_check_boxes T.F_check_boxes.kp T.b_check_boxes .nil pass0 (pa_cons (pe_lc2 (own := [("loop", 3), ("box", 4)]) (g := gName 3) (tt := tYes) (g1 := gName 4) (tt1 := tYes) (vs1 := [4]) rfl sc_check_town.nd (pi_tup (pv 0)) (blkOk_by (own := [("loop", 3), ("box", 4)]) (N := nm_check_town) (sc := (defScope s_check_town)) (by decide +kernel)) (by decide) (fun _ _ _ _ _ => pg_name (i := 3) sc_check_town.nd rfl (Or.inl rfl)) (fun _ _ _ _ _ => pts_nil) (fun _ _ _ _ _ => (show PI _ _ _ (iTup K (tVar 3)) from (pi_tup (pv 3)))) (fun _ _ _ _ _ => pg_name (i := 4) sc_check_town.nd rfl (Or.inl rfl)) (fun _ _ _ _ _ => pts_nil) (fun _ _ _ _ _ => (pv 4))) pa_nil)))
      (pss_cons (ps_if (pt_not (pt_val (pe_call (ok_is_whole_within T) (hr.mono (by decide)) (by rfl) T.g_is_whole_within T.F_is_whole_within.kp T.b_is_whole_within .nil pass0 (pa_cons (pv 1) (pa_cons pe_int (pa_cons (pe_glob (v := V.int 8) rfl T.c_MOST_ROUNDS ⟨_, rfl⟩) pa_nil))))))
        (pss_one ps_never)
        pss_nil)
      (pss_one (ps_if (PW.pt (pw_or (pt_not (pt_val (pe_call (ok_is_whole_within T) (hr.mono (by decide)) (by rfl) T.g_is_whole_within T.F_is_whole_within.kp T.b_is_whole_within .nil pass0 (pa_cons (pv 2) (pa_cons pe_int (pa_cons pe_int pa_nil)))))) (pw_or1 (pt_cmpR op_gt (pv 2) (pv 1) (nomark _)))))
        (pss_one ps_never)
        pss_nil))))), ?_⟩
    refine ⟨_, rfl, x, ls, rfl, hx, G, fun H1 s1 => ⟨true, rfl, iteF ?_⟩⟩
    obtain ⟨p, xs, rfl, hS, hd⟩ := (hx.k (Kt.same s1)).inv
    have el : xs.length = ls.length := by rw [hd.len, List.length_map]
    refine ⟨_, rfl, p, rfl, ⟨_, hS⟩, fun D hD => ?_⟩
    refine Et.out_it walk_tup (fun i H' => Same H1 H' ∧ ∃ ys, H' D = some (.lst ys) ∧ Dts K H' ys ((ls.take i).flatten.map boxD)) ⟨same_new hD, [], upd_same, by simp; exact .nil⟩ (fun i H' _ h => sameT h.1 hS) (fun i x H2 H' hi hP hY => ?_) (fun H2 hP => ?_)
    · obtain ⟨sm, ys, hy, hys⟩ := hP
      obtain ⟨rfl, hx2⟩ := hY
      obtain ⟨d, hd2, a⟩ := hd.at hx2
      rw [List.getElem?_map] at hd2
      obtain ⟨l, hl, rfl⟩ := Option.map_eq_some_iff.mp hd2
      obtain ⟨q1, zs, rfl, hq, hz⟩ := (a.k (Kt.same sm)).inv
      have lz := boxes_len hz
      have b2 := G.b2 l (List.mem_of_getElem? hl)
      have fl := flat_le ls i G.b2
      refine ⟨rfl, yesT ?_⟩
      refine ⟨_, rfl, q1, rfl, ⟨_, hq⟩, ?_⟩
      refine Et.in_it walk_tup (fun j H3 => Same H1 H3 ∧ ∃ ys, H3 D = some (.lst ys) ∧ Dts K H3 ys (((ls.take i).flatten ++ l.take j).map boxD) ∧ Kt K H' H3) ⟨sm, ys, hy, by simpa using hys, Kt.refl⟩ (fun j H3 _ h => let ⟨_, _, _, _, t⟩ := h; t _ _ hq) (fun j x H3 H4 hj hP hY => ?_) (fun H3 hP => ?_)
      · obtain ⟨sm3, ys3, hy3, hys3, kt⟩ := hP
        obtain ⟨rfl, hx3⟩ := hY
        obtain ⟨b, hb, a3⟩ := boxes_at hz hx3
        have l3 := boxes_len hys3
        rw [List.length_append, List.length_take] at l3
        have k5 : Kt K H4 (upd H4 D (.lst (ys3 ++ [x]))) := Kt.lst hy3
        refine ⟨rfl, yesT ?_⟩
        refine ⟨_, rfl, ys3, hy3, small1000 (by omega), same_mut sm3 hD, ys3 ++ [x], upd_same, ?_, kt.trans k5⟩
        rw [List.take_add_one, hb, ← List.append_assoc, List.map_append]
        exact (hys3.k k5).snoc ((a3.k kt).k k5)
      · obtain ⟨sm3, ys3, hy3, hys3, kt⟩ := hP
        refine ⟨sm3, ys3, hy3, ?_⟩
        rw [lz, List.take_length] at hys3
        rw [flat_succ hl]
        exact hys3
    obtain ⟨sm, ys, hy, hys⟩ := hP
    rw [el, List.take_length] at hys
    refine ⟨D, ys, ls.flatten, rfl, SqL.of hy, hys, G.flat, G.num, G.nd, fun H5 s5 => ?_⟩
    refine ⟨_, rfl, r, 1, 8, rfl, r1, r8, true, rfl, iteF ?_⟩
    refine ⟨_, rfl, h, 1, 2, rfl, h1, h2, true, rfl, iteF ?_⟩
    refine ⟨_, rfl, _, rfl, _, _, rfl, rfl, _, rfl, ?_⟩
    rw [decide_eq_false (show ¬ h > r by omega)]
    refine iteF ?_
    exact k _ ((s1.trans sm).trans s5)
end
end K18

namespace K18
open PySem L2 Wm TL Dv
section
variable {P : Program} {w : World} {K : PySem.W.Frag} {mg : Str → Option Value} {base : Heap}
theorem putF_len (f : Str) (v : V) : ∀ fs : List (Str × V), (putF f v fs).length ≤ fs.length + 1
  | [] => by simp [putF]
  | (g, x) :: r => by
    have ih := putF_len f v r
    unfold putF
    split
    · simp
    · simp only [List.length_cons]
      omega
/-- what stands at another place than p -/
def Off (p : Addr) (H H' : Hp) : Prop := ∀ q o, q ≠ p → H q = some o → H' q = some o
theorem Off.trans {p : Addr} {H H1 H2 : Hp} (a : Off p H H1) (b : Off p H1 H2) : Off p H H2 := fun q o n h => b q o n (a q o n h)
theorem Off.of {p : Addr} {H H' : Hp} (s : Same H H') : Off p H H' := fun q o _ h => s q o h
theorem Off.set {p : Addr} {H : Hp} {o : HO} : Off p H (upd H p o) := fun q u n h => by
  rw [upd_ne n]
  exact h
theorem kt_ins {H : Hp} {p C dx : Addr} {fs : List (Str × V)} {o : HO} (h : H p = some (.ins C dx fs)) : Kt K H (upd H p o) := Kt.set h (fun _ q => by cases q) (fun _ _ q => by cases q)
theorem ok_init (T : Txt K mg) : FnOk P w K mg base CX0 4 T.a_init T.d_init ["self", "loops", "rounds", "hear"] (sp_init K T.C) := by
  refine T.F_init.ok sc_init (fun vs H Q E h => ?_) (fun cdv A outer s H vs Q E hr h => ?_)
  · obtain ⟨p, dx, x, ls, r, h, rfl, _⟩ := h
    rfl
  · obtain ⟨p, dx, x, ls, r, h, rfl, hp, hx, G, r1, r8, h1, h2, hr', k⟩ := h
    have g2 := G.l2
    refine ⟨_, (pss_cons (ps_expr (pe_call (ok_check_town T) (hr.mono (by decide)) (by rfl) T.g_check_town T.F_check_town.kp T.b_check_town .nil pass0 (pa_cons (pv 1) (pa_cons (pv 2) (pa_cons (pv 3) pa_nil)))))
      (pss_cons (ps_fld (pv 0) (pe_callTy call_tuple_of (by rfl) T.z_tuple (by decide +kernel) (pa_cons (pe_lc (own := [("loop", 4)]) (g := gName 4) (tt := tYes) rfl sc_init.nd (pi_tup (pv 1)) (blkOk_by (own := [("loop", 4)]) (N := nm_init) (sc := (defScope s_init)) (by decide +kernel)) (fun _ _ _ _ _ => pg_name (i := 4) sc_init.nd rfl (Or.inl rfl)) (fun _ _ _ _ _ => pts_nil) (fun _ _ _ _ _ => (pe_callTy (show CallR _ _ (Kx.rTupOf K) from call_tuple_of) (by rfl) T.z_tuple (by decide +kernel) (pa_cons (pe_lc (own := [("box", 5)]) (g := gName 5) (tt := tYes) rfl sc_init.nd (show PI _ _ _ (iTup K (tVar 4)) from (pi_tup (pv 4))) (blkOk_by (own := [("box", 5)]) (N := nm_init) (sc := ({ kind := .function, names := [(".0", .local), ("loop", .local), ("tuple", .globalImplicit)], isGenerator := false, isCoroutine := false } : Scope)) (by decide +kernel)) (fun _ _ _ _ _ => pg_name (i := 5) sc_init.nd rfl (Or.inl rfl)) (fun _ _ _ _ _ => pts_nil) (fun _ _ _ _ _ => (pe_callTy (show CallR _ _ (Kx.rTup K) from call_tupleT) (by rfl) T.z_tuple (by decide +kernel) (pa_cons (pv 5) pa_nil)))) pa_nil)))) pa_nil)) rfl)
      (pss_cons (ps_fld (pv 0) (pv 2) rfl)
      (pss_cons (ps_fld (pv 0) (pv 3) rfl)
      (pss_one (ps_fld (pv 0) (pe_callTy call_tuple_of (by rfl) T.z_tuple (by decide +kernel) (pa_cons (pe_lc2 (own := [("loop", 4), ("number", 6), ("_", 7)]) (g := gName 4) (tt := tYes) (g1 := gTup K 2 (gCons (gName 6) (gCons (gName 7) (gNil)))) (tt1 := tYes) (vs1 := [6, 7]) rfl sc_init.nd (pi_tup (pe_fld (pv 0) rfl)) (blkOk_by (own := [("loop", 4), ("number", 6), ("_", 7)]) (N := nm_init) (sc := (defScope s_init)) (by decide +kernel)) (by decide) (fun _ _ _ _ _ => pg_name (i := 4) sc_init.nd rfl (Or.inl rfl)) (fun _ _ _ _ _ => pts_nil) (fun _ _ _ _ _ => (show PI _ _ _ (iTup K (tVar 4)) from (pi_tup (pv 4)))) (fun _ _ _ _ _ => (pg_tup rfl (pgs_cons (pg_name (i := 6) sc_init.nd rfl (Or.inl rfl)) (pgs_cons (pg_name (i := 7) sc_init.nd rfl (Or.inl rfl)) pgs_nil)))) (fun _ _ _ _ _ => pts_nil) (fun _ _ _ _ _ => (pv 6))) pa_nil)) rfl)))))), ?_⟩
    refine ⟨_, rfl, _, rfl, _, rfl, x, ls, r, h, rfl, hx, G, r1, r8, h1, h2, hr', fun H1 s1 => ?_⟩
    obtain ⟨a, xs, rfl, hS, hd⟩ := (hx.k (Kt.same s1)).inv
    have el : xs.length = ls.length := by rw [hd.len, List.length_map]
    refine ⟨_, rfl, a, rfl, ⟨_, hS⟩, fun D hD => ?_⟩
    refine Lm.lc_map (K := K) walk_tup (fun i y H' => ∃ d, (ls.map loopD)[i]? = some d ∧ Dt K H' y d) (fun _ _ _ _ ⟨d, e, t⟩ kt => ⟨d, e, t.k kt⟩) hD (by omega) (fun H' s => sameT s hS) (fun i x H' hi hx2 sm Q2 Z q => ?_) (fun H2 ys s2 hy ly hR => ?_)
    · obtain ⟨d, hd2, t⟩ := hd.at hx2
      have hd3 := hd2
      rw [List.getElem?_map] at hd3
      obtain ⟨l, hl, rfl⟩ := Option.map_eq_some_iff.mp hd3
      obtain ⟨q1, zs, rfl, hq, hz⟩ := (t.k (Kt.same sm)).inv
      have lz := boxes_len hz
      have b2 := G.b2 l (List.mem_of_getElem? hl)
      refine ⟨rfl, yesT ?_⟩
      refine ⟨_, rfl, q1, rfl, ⟨_, hq⟩, fun D2 hD2 => ?_⟩
      refine Lm.lc_map (K := K) walk_tup (fun i y H' => ∃ d, (l.map boxD)[i]? = some d ∧ Dt K H' y d) (fun _ _ _ _ ⟨d, e, t⟩ kt => ⟨d, e, t.k kt⟩) hD2 (by omega) (fun H' s => sameT s hq) (fun j x H3 hj hx3 sm3 Q3 Z3 q3 => ?_) (fun H3 zs3 s3 hy3 ly3 hR3 => ?_)
      · obtain ⟨b, hb, t3⟩ := boxes_at hz hx3
        have t4 := t3.k (Kt.same sm3)
        obtain ⟨q2, rfl, hq2⟩ := box_inv t4
        refine ⟨rfl, yesT ?_⟩
        exact ⟨_, rfl, q2, _, rfl, hq2, q3 _ _ (Same.refl _) ⟨boxD b, by rw [List.getElem?_map, hb]; rfl, t4⟩⟩
      · refine ⟨D2, zs3, rfl, .inl ⟨SqL.of hy3, fun l2 hl2 => ?_⟩⟩
        have kt := Kt.new (K := K) (o := .tup zs3) hl2
        refine q _ _ (s3.trans (same_new hl2)) ⟨_, hd2, dt_tup upd_same ?_⟩
        exact (dts_of (by rw [ly3, lz, List.length_map]) hR3).k kt
    have hds := dts_of (by rw [ly, el, List.length_map]) hR
    refine ⟨D, ys, rfl, .inl ⟨SqL.of hy, fun lp hlp => ?_⟩⟩
    have s3 : Same H (upd H2 lp (.tup ys)) := (s1.trans s2).trans (same_new hlp)
    have hloops : Dt K (upd H2 lp (.tup ys)) (.ref lp) (townD ls) := dt_tup upd_same (hds.k (Kt.new hlp))
    generalize upd H2 lp (.tup ys) = H3 at *
    have hp3 := s3 _ _ hp
    refine ⟨_, rfl, p, T.C, dx, _, rfl, hp3, T.clC, T.nL, by show 0 < 1000; decide, ?_⟩
    have hp4 : upd H3 p (.ins T.C dx (putF "loops" (.ref lp) [])) p = some (.ins T.C dx (putF "loops" (.ref lp) [])) := upd_same
    have lf1 := putF_len "loops" (.ref lp) []
    refine ⟨_, rfl, _, rfl, p, T.C, dx, _, rfl, hp4, T.clC, T.nR, by simp only [List.length_nil] at lf1; omega, ?_⟩
    have lf2 := putF_len "rounds" (.int r) (putF "loops" (.ref lp) [])
    refine ⟨_, rfl, _, rfl, p, T.C, dx, _, rfl, upd_same, T.clC, T.nH, by simp only [List.length_nil] at lf1; omega, ?_⟩
    have lf3 := putF_len "hear" (.int h) (putF "rounds" (.int r) (putF "loops" (.ref lp) []))
    have k4 : Kt K H3 (upd H3 p (.ins T.C dx (putF "loops" (.ref lp) []))) := kt_ins hp3
    have k5 := k4.trans (kt_ins (o := .ins T.C dx (putF "rounds" (.int r) (putF "loops" (.ref lp) []))) hp4)
    have k6 := k5.trans (kt_ins (o := .ins T.C dx (putF "hear" (.int h) (putF "rounds" (.int r) (putF "loops" (.ref lp) [])))) upd_same)
    have o6 : Off p H (upd (upd (upd H3 p (.ins T.C dx (putF "loops" (.ref lp) []))) p (.ins T.C dx (putF "rounds" (.int r) (putF "loops" (.ref lp) [])))) p (.ins T.C dx (putF "hear" (.int h) (putF "rounds" (.int r) (putF "loops" (.ref lp) []))))) := (((Off.of s3).trans Off.set).trans Off.set).trans Off.set
    have hp6 : upd (upd (upd H3 p (.ins T.C dx (putF "loops" (.ref lp) []))) p (.ins T.C dx (putF "rounds" (.int r) (putF "loops" (.ref lp) [])))) p (.ins T.C dx (putF "hear" (.int h) (putF "rounds" (.int r) (putF "loops" (.ref lp) [])))) p = some (.ins T.C dx (putF "hear" (.int h) (putF "rounds" (.int r) (putF "loops" (.ref lp) [])))) := upd_same
    have hl6 := hloops.k k6
    have e1 : ¬ ("loops" : Str) = "rounds" := by decide +kernel
    have e2 : ¬ ("loops" : Str) = "hear" := by decide +kernel
    have e3 : ¬ ("loops" : Str) = "numbers" := by decide +kernel
    have w0 : ¬ ("wire" : Str) = "loops" := by decide +kernel
    have w1 : ¬ ("wire" : Str) = "rounds" := by decide +kernel
    have w2 : ¬ ("wire" : Str) = "hear" := by decide +kernel
    have w3 : ¬ ("wire" : Str) = "numbers" := by decide +kernel
    have lk : (putF "hear" (.int h) (putF "rounds" (.int r) (putF "loops" (.ref lp) []))).lookup ("loops" : Str) = some (.ref lp) := by
      rw [lookup_putF, if_neg e2, lookup_putF, if_neg e1, lookup_putF, if_pos rfl]
    have lw : (putF "hear" (.int h) (putF "rounds" (.int r) (putF "loops" (.ref lp) []))).lookup ("wire" : Str) = none := by
      rw [lookup_putF, if_neg w2, lookup_putF, if_neg w1, lookup_putF, if_neg w0]
      rfl
    have lf : (putF "hear" (.int h) (putF "rounds" (.int r) (putF "loops" (.ref lp) []))).length ≤ 3 := by simp only [List.length_nil] at lf1; omega
    generalize (putF "hear" (.int h) (putF "rounds" (.int r) (putF "loops" (.ref lp) []))) = fs at *
    generalize upd (upd (upd H3 p (.ins T.C dx (putF "loops" (.ref lp) []))) p (.ins T.C dx (putF "rounds" (.int r) (putF "loops" (.ref lp) [])))) p (.ins T.C dx fs) = H6 at *
    obtain ⟨a6, xs6, e6, hS6, hd6⟩ := hl6.inv
    cases e6
    have el6 : xs6.length = ls.length := by rw [hd6.len, List.length_map]
    refine ⟨_, rfl, p, T.C, dx, _, _, rfl, hp6, T.clC, T.nL, lk, lp, rfl, ⟨_, hS6⟩, fun D7 hD7 => ?_⟩
    refine Et.out_it walk_tup (fun i H' => Same H6 H' ∧ ∃ ys, H' D7 = some (.lst ys) ∧ ys.length = (ls.take i).flatten.length) ⟨same_new hD7, [], upd_same, by simp⟩ (fun i H' _ h => sameT h.1 hS6) (fun i x H7 H' hi hP hY => ?_) (fun H7 hP => ?_)
    · obtain ⟨sm, ys, hy, hys⟩ := hP
      obtain ⟨rfl, hx2⟩ := hY
      obtain ⟨d, hd2, t⟩ := hd6.at hx2
      rw [List.getElem?_map] at hd2
      obtain ⟨l, hl, rfl⟩ := Option.map_eq_some_iff.mp hd2
      obtain ⟨q1, zs, rfl, hq, hz⟩ := (t.k (Kt.same sm)).inv
      have lz := boxes_len hz
      have b2 := G.b2 l (List.mem_of_getElem? hl)
      have fl := flat_le ls i G.b2
      refine ⟨rfl, yesT ?_⟩
      refine ⟨_, rfl, q1, rfl, ⟨_, hq⟩, ?_⟩
      refine Et.in_it walk_tup (fun j H3 => Same H6 H3 ∧ ∃ ys, H3 D7 = some (.lst ys) ∧ ys.length = ((ls.take i).flatten ++ l.take j).length ∧ Kt K H' H3) ⟨sm, ys, hy, by simpa using hys, Kt.refl⟩ (fun j H3 _ h => let ⟨_, _, _, _, t⟩ := h; t _ _ hq) (fun j x H3 H4 hj hP hY => ?_) (fun H3 hP => ?_)
      · obtain ⟨sm3, ys3, hy3, hys3, kt⟩ := hP
        obtain ⟨rfl, hx3⟩ := hY
        obtain ⟨b, hb, a3⟩ := boxes_at hz hx3
        obtain ⟨q2, rfl, hq2⟩ := box_inv (a3.k kt)
        rw [List.length_append, List.length_take] at hys3
        have k5 : Kt K H4 (upd H4 D7 (.lst (ys3 ++ [.str (numS b.1)]))) := Kt.lst hy3
        refine ⟨q2, _, rfl, hq2, rfl, _, _, rfl, _, _, rfl, rfl, rfl, yesT ?_⟩
        refine ⟨_, rfl, ys3, hy3, small1000 (by omega), same_mut sm3 hD7, ys3 ++ [.str (numS b.1)], upd_same, ?_, kt.trans k5⟩
        have hj2 : j < l.length := by omega
        rw [List.length_append, List.length_append, List.length_take, List.length_singleton]
        omega
      · obtain ⟨sm3, ys3, hy3, hys3, kt⟩ := hP
        refine ⟨sm3, ys3, hy3, ?_⟩
        rw [lz, List.take_length] at hys3
        rw [flat_succ hl]
        exact hys3
    obtain ⟨sm7, ys7, hy7, hys7⟩ := hP
    refine ⟨D7, ys7, rfl, .inl ⟨SqL.of hy7, fun l8 hl8 => ?_⟩⟩
    have s8 : Same H6 (upd H7 l8 (.tup ys7)) := sm7.trans (same_new hl8)
    refine ⟨_, rfl, p, T.C, dx, _, rfl, s8 _ _ hp6, T.clC, T.nN, by omega, ?_⟩
    refine k _ ((o6.trans (Off.of s8)).trans Off.set) ⟨dx, _, .ref lp, upd_same, ?_, ?_, (hl6.k (Kt.same s8)).k (kt_ins (s8 _ _ hp6))⟩
    · rw [lookup_putF, if_neg e3]
      exact lk
    · rw [lookup_putF, if_neg w3]
      exact lw
theorem ok_wire (T : Txt K mg) : FnOk P w K mg base CX0 3 T.a_wire T.d_wire ["self", "loop"] (sp_wire K T.C) := by
  refine T.F_wire.ok sc_wire (fun vs H Q E h => ?_) (fun cdv A outer s H vs Q E hr h => ?_)
  · obtain ⟨p, i, ls, l, rfl, _⟩ := h
    rfl
  · obtain ⟨p, i, ls, l, rfl, ⟨dx, fs, y, hp, lk, lw, hy⟩, hl, hn, k⟩ := h
    obtain ⟨a, xs, rfl, hS, hd⟩ := hy.inv
    have el : xs.length = ls.length := by rw [hd.len, List.length_map]
    have li := (List.getElem?_eq_some_iff.mp hl).1
    obtain ⟨v, hv, tv⟩ := hd.get (by rw [List.getElem?_map, hl]; rfl : (ls.map loopD)[i]? = some (loopD l))
    refine ⟨_, (pss_cons (ps_if (pt_cmpR op_isN (pv 1) pe_non (nomark _))
        (pss_one ps_never)
        pss_nil)
      (pss_cons (ps_if (pt_not (pt_val (pe_call (ok_is_whole_within T) (hr.mono (by decide)) (by rfl) T.g_is_whole_within T.F_is_whole_within.kp T.b_is_whole_within .nil pass0 (pa_cons (pv 1) (pa_cons pe_int (pa_cons (pe_op op_sub (pe_callB call_len_seq (by rfl) T.z_len PySem.boot_len (pa_cons (pe_fld (pv 0) rfl) pa_nil)) pe_int) pa_nil))))))
        (pss_one ps_never)
        pss_nil)
      (pss_one (ps_ret (pe_ix ix_tup (pe_fld (pv 0) rfl) (pv 1) (fun _ _ => rfl)))))), ?_⟩
    refine ⟨_, rfl, rfl, _, rfl, ?_⟩
    rw [decide_eq_false (show ¬ V.int (i : Nat) = V.non by intro z; cases z)]
    refine iteF ?_
    refine ⟨_, rfl, _, rfl, p, T.C, dx, _, _, rfl, hp, T.clC, T.nL, lk, a, _, rfl, .inr hS, _, _, rfl, rfl, i, 0, _, rfl, by omega, by omega, true, rfl, iteF ?_⟩
    exact ⟨_, rfl, p, T.C, dx, _, _, rfl, hp, T.clC, T.nL, lk, _, rfl, a, _, _, _, rfl, rfl, hS, atI_nat hv, k _ _ (Same.refl _) tv⟩
end
end K18

namespace K18
open PySem L2 Wm TL Dv
section
variable {P : Program} {w : World} {K : PySem.W.Frag} {mg : Str → Option Value} {base : Heap}
theorem cut_take (xs : List V) (k : Nat) : cutV xs none (some (k : Int)) = xs.take k := by
  unfold cutV
  rw [HT.sIx_none, HT.sIx_nat, List.drop_zero, Nat.sub_zero, List.take_eq_take_iff]
  omega
theorem cut_drop (xs : List V) (k : Nat) : cutV xs (some (k : Int)) none = xs.drop k := by
  unfold cutV
  rw [HT.sIx_none, HT.sIx_nat]
  by_cases h : k ≤ xs.length
  · rw [Nat.min_eq_left h]
    exact List.take_of_length_le (by rw [List.length_drop]; omega)
  · rw [Nat.min_eq_right (show xs.length ≤ k by omega), List.drop_of_length_le (Nat.le_refl _), List.drop_of_length_le (by omega)]
    simp
theorem cut_mid (xs : List V) (j k : Nat) : cutV xs (some (j : Int)) (some (k : Int)) = (xs.take k).drop j := by
  unfold cutV
  rw [HT.sIx_nat, HT.sIx_nat, List.drop_take]
  by_cases h : j ≤ xs.length
  · rw [Nat.min_eq_left h, List.take_eq_take_iff, List.length_drop]
    omega
  · rw [Nat.min_eq_right (show xs.length ≤ j by omega), List.drop_of_length_le (Nat.le_refl _), List.drop_of_length_le (show xs.length ≤ j by omega)]
    simp
def cutV' (ks : List Nat) : List V := ks.map fun (k : Nat) => V.int (k : Int)
theorem cut_inv {H : Hp} {y : V} {ks : List Nat} (h : Dt K H y (cutD ks)) : ∃ q, y = .ref q ∧ SqT K H q (cutV' ks) := by
  obtain ⟨q, xs, rfl, hS, hd⟩ := h.inv
  have e : (ks.map fun (k : Nat) => PyData.int (k : Int)) = (ks.map fun (k : Nat) => (k : Int)).map PyData.int := by rw [List.map_map]; rfl
  rw [e] at hd
  rw [dts_int_inv hd, List.map_map] at hS
  exact ⟨q, rfl, hS⟩
theorem at_end (ks : List Nat) (k : Nat) : atI (cutV' (ks ++ [k])) (-1) = some (.int (k : Int)) := by
  have e : cutV' (ks ++ [k]) = cutV' ks ++ [.int (k : Int)] := by unfold cutV'; rw [List.map_append]; rfl
  rw [e]
  exact atI_last _ _
theorem whole_take {n k : Nat} (h : HT.sIx n n (some (k : Int)) = n) : n ≤ k := by
  rw [HT.sIx_nat] at h
  omega
theorem cut_len (ks : List Nat) : (cutV' ks).length = ks.length := by unfold cutV'; rw [List.length_map]
theorem far_end {α : Type} (ds : List α) (ks : List Nat) (k : Nat) : farL ds (ks ++ [k]) = ds.drop k := by
  unfold farL
  rw [List.getLast?_concat]
theorem ks_cases (ks : List Nat) : ks = [] ∨ ∃ js k, ks = js ++ [k] := by
  rcases List.eq_nil_or_concat ks with h | ⟨js, k, h⟩
  · exact .inl h
  · exact .inr ⟨js, k, by rw [h, List.concat_eq_append]⟩
theorem ok_near_part (T : Txt K mg) : FnOk P w K mg base CX0 1 T.a_near_part T.d_near_part ["boxes", "stretches"] (sp_near_part K) := by
  refine T.F_near_part.ok sc_near_part (fun vs H Q E h => ?_) (fun cdv A outer s H vs Q E hr h => ?_)
  · obtain ⟨x, y, ds, ks, rfl, _⟩ := h
    rfl
  · obtain ⟨x, y, ds, ks, rfl, hx, hy, hc, hl, k⟩ := h
    obtain ⟨p, xs, rfl, hS, hd⟩ := id hx.inv
    obtain ⟨q, rfl, hq⟩ := cut_inv hy
    have el := hd.len
    refine ⟨_, (pss_one (ps_ret (pe_ifExp (pt_cmpR op_gt (pe_callB call_len_seq (by rfl) T.z_len PySem.boot_len (pa_cons (pv 1) pa_nil)) pe_int (nomark _)) (pe_callTy call_tupleT (by rfl) T.z_tuple (by decide +kernel) (pa_cons (pe_slice sl_tupA (pv 0) po_none (po_some (pe_ix ix_tup (pv 1) pe_int (fun _ _ => rfl)))) pa_nil)) (pe_callTy call_tupleT (by rfl) T.z_tuple (by decide +kernel) (pa_cons (pv 0) pa_nil))))), ?_⟩
    refine ⟨_, rfl, q, _, rfl, .inr hq, _, _, rfl, rfl, _, rfl, ?_⟩
    rw [cut_len]
    cases ks with
    | nil =>
      rw [decide_eq_false (by decide)]
      exact iteF ⟨_, rfl, p, xs, rfl, hS, k _ _ (Same.refl _) hx⟩
    | cons c r =>
      rw [decide_eq_true (by show (0 : Int) < (((c :: r).length : Nat) : Int); rw [List.length_cons]; omega)]
      refine iteT ⟨_, rfl, _, rfl, q, _, 0, _, rfl, rfl, hq, atI_nat (j := 0) rfl, c, rfl, p, xs, rfl, hS, fun hw => ?_, fun _ p2 hp2 => ?_⟩
      · refine ⟨p, xs, rfl, hS, k _ _ (Same.refl _) ?_⟩
        show Dt K H (.ref p) (.tuple (ds.take c))
        rw [List.take_of_length_le (by have := whole_take hw.2; omega)]
        exact hx
      · rw [cut_take]
        refine ⟨p2, _, rfl, SqT.of upd_same, k _ _ (same_new hp2) (dt_tup upd_same ?_)⟩
        exact (hd.take c).k (Kt.new hp2)
theorem ok_far_part (T : Txt K mg) : FnOk P w K mg base CX0 1 T.a_far_part T.d_far_part ["boxes", "stretches"] (sp_far_part K) := by
  refine T.F_far_part.ok sc_far_part (fun vs H Q E h => ?_) (fun cdv A outer s H vs Q E hr h => ?_)
  · obtain ⟨x, y, ds, ks, rfl, _⟩ := h
    rfl
  · obtain ⟨x, y, ds, ks, rfl, hx, hy, hc, hl, k⟩ := h
    obtain ⟨p, xs, rfl, hS, hd⟩ := id hx.inv
    obtain ⟨q, rfl, hq⟩ := cut_inv hy
    have el := hd.len
    refine ⟨_, (pss_one (ps_ret (pe_ifExp (pt_cmpR op_gt (pe_callB call_len_seq (by rfl) T.z_len PySem.boot_len (pa_cons (pv 1) pa_nil)) pe_int (nomark _)) (pe_callTy call_tupleT (by rfl) T.z_tuple (by decide +kernel) (pa_cons (pe_slice sl_tupA (pv 0) (po_some (pe_ix ix_tup (pv 1) (pe_un un_neg pe_int) (fun _ _ => rfl))) po_none) pa_nil)) (pe_callTy call_tupleT (by rfl) T.z_tuple (by decide +kernel) (pa_cons (pv 0) pa_nil))))), ?_⟩
    refine ⟨_, rfl, q, _, rfl, .inr hq, _, _, rfl, rfl, _, rfl, ?_⟩
    rw [cut_len]
    rcases ks_cases ks with rfl | ⟨js, c, rfl⟩
    · rw [decide_eq_false (by decide)]
      exact iteF ⟨_, rfl, p, xs, rfl, hS, k _ _ (Same.refl _) hx⟩
    · rw [decide_eq_true (by show (0 : Int) < (((js ++ [c]).length : Nat) : Int); rw [List.length_append, List.length_singleton]; omega)]
      rw [far_end] at k
      refine iteT ⟨_, rfl, _, rfl, 1, rfl, q, _, -1, _, rfl, rfl, hq, at_end js c, c, rfl, p, xs, rfl, hS, fun hw => ?_, fun _ p2 hp2 => ?_⟩
      · refine ⟨p, xs, rfl, hS, k _ _ (Same.refl _) ?_⟩
        have h0 := hw.1
        rw [HT.sIx_nat] at h0
        by_cases z : c = 0
        · rw [z, List.drop_zero]
          exact hx
        · have e0 : xs.length = 0 := by omega
          rw [List.drop_of_length_le (by omega)]
          have e1 : ds = [] := List.eq_nil_of_length_eq_zero (by omega)
          rw [e1] at hx
          exact hx
      · rw [cut_drop]
        refine ⟨p2, _, rfl, SqT.of upd_same, k _ _ (same_new hp2) (dt_tup upd_same ?_)⟩
        exact (hd.drop c).k (Kt.new hp2)
theorem dumb_end {α : Type} (ds : List α) (j : Nat) (r : List Nat) (js : List Nat) (c : Nat) (e : j :: r = js ++ [c]) : dumbL ds (j :: r) = (ds.take c).drop j := by
  unfold dumbL
  rw [show (j :: r).getLast? = some c by rw [e, List.getLast?_concat]]
  rfl
theorem ok_dumb_part (T : Txt K mg) : FnOk P w K mg base CX0 1 T.a_dumb_part T.d_dumb_part ["boxes", "stretches"] (sp_dumb_part K) := by
  refine T.F_dumb_part.ok sc_dumb_part (fun vs H Q E h => ?_) (fun cdv A outer s H vs Q E hr h => ?_)
  · obtain ⟨x, y, ds, ks, rfl, _⟩ := h
    rfl
  · obtain ⟨x, y, ds, ks, rfl, hx, hy, hc, hl, k⟩ := h
    obtain ⟨p, xs, rfl, hS, hd⟩ := id hx.inv
    obtain ⟨q, rfl, hq⟩ := cut_inv hy
    have el := hd.len
    refine ⟨_, (pss_one (ps_ret (pe_ifExp (pt_cmpR op_gt (pe_callB call_len_seq (by rfl) T.z_len PySem.boot_len (pa_cons (pv 1) pa_nil)) pe_int (nomark _)) (pe_callTy call_tupleT (by rfl) T.z_tuple (by decide +kernel) (pa_cons (pe_slice sl_tupA (pv 0) (po_some (pe_ix ix_tup (pv 1) pe_int (fun _ _ => rfl))) (po_some (pe_ix ix_tup (pv 1) (pe_un un_neg pe_int) (fun _ _ => rfl)))) pa_nil)) (pe_tup pa_nil)))), ?_⟩
    refine ⟨_, rfl, q, _, rfl, .inr hq, _, _, rfl, rfl, _, rfl, ?_⟩
    rw [cut_len]
    cases ks with
    | nil =>
      rw [decide_eq_false (by decide)]
      exact iteF ⟨Nat.zero_le _, fun t ht => k _ _ (same_new ht) (dt_tup upd_same .nil)⟩
    | cons j r =>
      rw [decide_eq_true (by show (0 : Int) < (((j :: r).length : Nat) : Int); rw [List.length_cons]; omega)]
      rcases ks_cases (j :: r) with e | ⟨js, c, e⟩
      · cases e
      rw [dumb_end ds j r js c e] at k
      have hat : atI (cutV' (j :: r)) (-1) = some (.int (c : Int)) := by rw [e]; exact at_end js c
      refine iteT ⟨_, rfl, _, rfl, q, _, 0, _, rfl, rfl, hq, atI_nat (j := 0) rfl, j, rfl, _, rfl, 1, rfl, q, _, -1, _, rfl, rfl, hq, hat, c, rfl, p, xs, rfl, hS, fun hw => ?_, fun _ p2 hp2 => ?_⟩
      · refine ⟨p, xs, rfl, hS, k _ _ (Same.refl _) ?_⟩
        have h0 := hw.1
        rw [HT.sIx_nat] at h0
        rw [List.take_of_length_le (by have := whole_take hw.2; omega)]
        by_cases z : j = 0
        · rw [z, List.drop_zero]
          exact hx
        · have e0 : xs.length = 0 := by omega
          rw [List.drop_of_length_le (by omega)]
          have e1 : ds = [] := List.eq_nil_of_length_eq_zero (by omega)
          rw [e1] at hx
          exact hx
      · rw [cut_mid]
        refine ⟨p2, _, rfl, SqT.of upd_same, k _ _ (same_new hp2) (dt_tup upd_same ?_)⟩
        exact ((hd.take c).drop j).k (Kt.new hp2)
theorem ok_loop_numbers (T : Txt K mg) : FnOk P w K mg base CX0 4 T.a_loop_numbers T.d_loop_numbers ["town", "loop"] (sp_loop_numbers K T.C) := by
  refine T.F_loop_numbers.ok sc_loop_numbers (fun vs H Q E h => ?_) (fun cdv A outer s H vs Q E hr h => ?_)
  · obtain ⟨p, i, ls, l, rfl, _⟩ := h
    rfl
  · obtain ⟨p, i, ls, l, rfl, hT, hl, hn, hn2, k⟩ := h
    obtain ⟨dx, fs, y0, hp, lk, lw, hy0⟩ := id hT
    refine ⟨_, (pss_one (ps_ret (pe_callTy call_tuple_of (by rfl) T.z_tuple (by decide +kernel) (pa_cons (pe_lc (own := [("number", 2), ("_", 3)]) (g := gTup K 2 (gCons (gName 2) (gCons (gName 3) (gNil)))) (tt := tYes) rfl sc_loop_numbers.nd (pi_tup (pe_meth (pv 0) T.clC T.m_wire (ok_wire T) (hr.mono (by decide)) T.b_wire .nil pass0 (pa_cons (pv 1) pa_nil))) (blkOk_by (own := [("number", 2), ("_", 3)]) (N := nm_loop_numbers) (sc := (defScope s_loop_numbers)) (by decide +kernel)) (fun _ _ _ _ _ => (pg_tup rfl (pgs_cons (pg_name (i := 2) sc_loop_numbers.nd rfl (Or.inl rfl)) (pgs_cons (pg_name (i := 3) sc_loop_numbers.nd rfl (Or.inl rfl)) pgs_nil)))) (fun _ _ _ _ _ => pts_nil) (fun _ _ _ _ _ => (pv 2))) pa_nil)))), ?_⟩
    refine ⟨_, rfl, p, dx, fs, rfl, hp, lw, _, rfl, p, i, ls, l, rfl, hT, hl, hn, fun H1 y s1 ty => ?_⟩
    obtain ⟨a, xs, rfl, hS, hd⟩ := ty.inv
    have el := boxes_len hd
    refine ⟨a, rfl, ⟨_, hS⟩, fun D hD => ?_⟩
    refine Lm.lc_map (K := K) walk_tup (fun i y _ => (l.map fun b => V.str (numS b.1))[i]? = some y) (fun _ _ _ _ h _ => h) hD (by omega) (fun H' s => sameT s hS) (fun j x H' hj hx sm Q2 Z q => ?_) (fun H2 ys s2 hy ly hR => ?_)
    · obtain ⟨b, hb, t⟩ := boxes_at hd hx
      obtain ⟨q1, rfl, hq⟩ := box_inv (t.k (Kt.same sm))
      refine ⟨q1, _, rfl, hq, rfl, _, _, rfl, _, _, rfl, rfl, rfl, yesT ?_⟩
      refine ⟨_, rfl, q _ _ (Same.refl _) ?_⟩
      rw [List.getElem?_map, hb]
      rfl
    · have ey : ys = (l.map fun b => numS b.1).map V.str := by
        rw [List.map_map]
        exact Lm.list_is (by rw [ly, List.length_map, el]) hR
      refine ⟨D, ys, rfl, .inl ⟨SqL.of hy, fun lp hlp => ?_⟩⟩
      refine k _ _ ((s1.trans s2).trans (same_new hlp)) (dt_tup upd_same ?_)
      rw [ey, show l.map numD = (l.map fun b => numS b.1).map PyData.str by rw [List.map_map]; rfl]
      exact dts_str _
end
end K18

namespace K18
open PySem L2 Wm TL Dv
section
variable {P : Program} {w : World} {K : PySem.W.Frag} {mg : Str → Option Value} {base : Heap}
theorem nums_str (l : List Box) : l.map numD = (l.map fun b => numS b.1).map PyData.str := by rw [List.map_map]; rfl
theorem near_nil {α : Type} (ds : List α) : nearL ds [] = ds := rfl
/-- one loop more -/
theorem parts_snoc {α : Type} : ∀ (ls : List (List α)) (cs : List (List Nat)) (l : List α) (c : List Nat), cs.length = ls.length → partsL (ls ++ [l]) (cs ++ [c]) = partsL ls cs ++ partsL [l] [c]
  | [], [], l, c, _ => rfl
  | [], _ :: _, _, _, h => by cases h
  | _ :: _, [], _, _, h => by cases h
  | x :: ls, [] :: cs, l, c, h => by
    show x :: partsL (ls ++ [l]) (cs ++ [c]) = (x :: partsL ls cs) ++ _
    rw [parts_snoc ls cs l c (by simpa using h)]
    rfl
  | x :: ls, (k :: ks) :: cs, l, c, h => by
    show nearL x (k :: ks) :: farL x (k :: ks) :: partsL (ls ++ [l]) (cs ++ [c]) = (nearL x (k :: ks) :: farL x (k :: ks) :: partsL ls cs) ++ _
    rw [parts_snoc ls cs l c (by simpa using h)]
    rfl
theorem dumbs_snoc {α : Type} : ∀ (ls : List (List α)) (cs : List (List Nat)) (l : List α) (c : List Nat), cs.length = ls.length → dumbsL (ls ++ [l]) (cs ++ [c]) = dumbsL ls cs ++ dumbL l c
  | [], [], l, c, _ => by show dumbL l c ++ [] = [] ++ dumbL l c; simp
  | [], _ :: _, _, _, h => by cases h
  | _ :: _, [], _, _, h => by cases h
  | x :: ls, d :: cs, l, c, h => by
    show dumbL x d ++ dumbsL (ls ++ [l]) (cs ++ [c]) = (dumbL x d ++ dumbsL ls cs) ++ _
    rw [dumbs_snoc ls cs l c (by simpa using h), List.append_assoc]
theorem near_len {α : Type} (ds : List α) (ks : List Nat) : (nearL ds ks).length ≤ ds.length := by
  cases ks with
  | nil => exact Nat.le_refl _
  | cons k r => show (ds.take k).length ≤ _; rw [List.length_take]; omega
theorem far_len {α : Type} (ds : List α) (ks : List Nat) : (farL ds ks).length ≤ ds.length := by
  unfold farL
  cases ks.getLast? with
  | none => exact Nat.le_refl _
  | some k => show (ds.drop k).length ≤ _; rw [List.length_drop]; omega
theorem dumb_len {α : Type} (ds : List α) (ks : List Nat) : (dumbL ds ks).length ≤ ds.length := by
  unfold dumbL
  cases ks.head? with
  | none => exact Nat.zero_le _
  | some j =>
    cases ks.getLast? with
    | none => exact Nat.zero_le _
    | some k => show ((ds.take k).drop j).length ≤ _; rw [List.length_drop, List.length_take]; omega
theorem parts_len {α : Type} : ∀ (ls : List (List α)) (cs : List (List Nat)), (partsL ls cs).length ≤ 2 * ls.length
  | [], [] => Nat.le_refl _
  | [], _ :: _ => Nat.le_refl _
  | _ :: _, [] => Nat.zero_le _
  | x :: ls, [] :: cs => by
    have ih := parts_len ls cs
    show (partsL ls cs).length + 1 ≤ 2 * (ls.length + 1)
    omega
  | x :: ls, (k :: ks) :: cs => by
    have ih := parts_len ls cs
    show (partsL ls cs).length + 1 + 1 ≤ 2 * (ls.length + 1)
    omega
theorem parts_flat {α : Type} : ∀ (ls : List (List α)) (cs : List (List Nat)), (∀ l ∈ ls, l.length ≤ 10) → (partsL ls cs).flatten.length ≤ 20 * ls.length
  | [], [], _ => Nat.le_refl _
  | [], _ :: _, _ => Nat.le_refl _
  | _ :: _, [], _ => Nat.zero_le _
  | x :: ls, [] :: cs, h => by
    have ih := parts_flat ls cs fun m q => h m (List.mem_cons_of_mem _ q)
    have hx := h x (by simp)
    show (x :: partsL ls cs).flatten.length ≤ 20 * (ls.length + 1)
    rw [List.flatten_cons, List.length_append]
    omega
  | x :: ls, (k :: ks) :: cs, h => by
    have ih := parts_flat ls cs fun m q => h m (List.mem_cons_of_mem _ q)
    have hx := h x (by simp)
    have h1 := near_len x (k :: ks)
    have h2 := far_len x (k :: ks)
    show (nearL x (k :: ks) :: farL x (k :: ks) :: partsL ls cs).flatten.length ≤ 20 * (ls.length + 1)
    rw [List.flatten_cons, List.flatten_cons, List.length_append, List.length_append]
    omega
theorem dumbs_flat {α : Type} : ∀ (ls : List (List α)) (cs : List (List Nat)), (∀ l ∈ ls, l.length ≤ 10) → (dumbsL ls cs).length ≤ 10 * ls.length
  | [], [], _ => Nat.le_refl _
  | [], _ :: _, _ => Nat.le_refl _
  | _ :: _, [], _ => Nat.zero_le _
  | x :: ls, c :: cs, h => by
    have ih := dumbs_flat ls cs fun m q => h m (List.mem_cons_of_mem _ q)
    have hx := h x (by simp)
    have h1 := dumb_len x c
    show (dumbL x c ++ dumbsL ls cs).length ≤ 10 * (ls.length + 1)
    rw [List.length_append]
    omega
theorem flat_take_le {α : Type} (xs : List (List α)) (i : Nat) : (xs.take i).flatten.length ≤ xs.flatten.length := by
  have e : xs.flatten = (xs.take i).flatten ++ (xs.drop i).flatten := by rw [← List.flatten_append, List.take_append_drop]
  rw [e, List.length_append]
  omega
theorem TownAt.keep {C : Addr} {H H' : Hp} {p : Addr} {ls : List (List Box)} (h : TownAt K C H p ls) (s : Same H H') : TownAt K C H' p ls := by
  obtain ⟨dx, fs, y, hp, lk, lw, hy⟩ := h
  exact ⟨dx, fs, y, s _ _ hp, lk, lw, hy.k (Kt.same s)⟩
theorem cuts_at {H : Hp} {xs : List V} {cs : List (List Nat)} {i : Nat} {x : V} (h : Dts K H xs (cs.map cutD)) (hx : xs[i]? = some x) : ∃ c, cs[i]? = some c ∧ Dt K H x (cutD c) := by
  obtain ⟨d, hd, a⟩ := h.at hx
  rw [List.getElem?_map] at hd
  obtain ⟨c, hc, rfl⟩ := Option.map_eq_some_iff.mp hd
  exact ⟨c, hc, a⟩
theorem nums_take {ls : List (List Box)} {l : List Box} {i : Nat} (h : ls[i]? = some l) : (numsD ls).take (i + 1) = (numsD ls).take i ++ [l.map numD] := by
  unfold numsD
  rw [List.take_add_one, List.getElem?_map, h]
  rfl
theorem cs_take {cs : List (List Nat)} {c : List Nat} {i : Nat} (h : cs[i]? = some c) : cs.take (i + 1) = cs.take i ++ [c] := by
  rw [List.take_add_one, h]
  rfl
theorem nums_le {ls : List (List Box)} (G : Good ls) : ∀ l ∈ numsD ls, l.length ≤ 10 := fun m q => by
  obtain ⟨l, hl, rfl⟩ := List.mem_map.mp q
  rw [List.length_map]
  exact G.b2 l hl
theorem ok_wires (T : Txt K mg) : FnOk P w K mg base CX0 5 T.a_wires T.d_wires ["town", "cuts", "joined"] (sp_wires K T.C) := by
  refine T.F_wires.ok sc_wires (fun vs H Q E h => ?_) (fun cdv A outer s H vs Q E hr h => ?_)
  · obtain ⟨p, y, j, ls, cs, rfl, _⟩ := h
    rfl
  · obtain ⟨p, y, j, ls, cs, rfl, hT, G, hy, ⟨hcl, hcut⟩, k⟩ := h
    have g2 := G.l2
    obtain ⟨q, xs, rfl, hS, hd⟩ := hy.inv
    have el : xs.length = cs.length := by rw [hd.len, List.length_map]
    refine ⟨_, (pss_cons (ps_set (i := 3) sc_wires.nd rfl (Or.inl rfl) (pe_lst pa_nil))
      (pss_cons (ps_for PassesOwn.never rfl (Es.pi_ent (by rfl) T.z_enumerate (pa_cons (pv 1) pa_nil)) (pg_tup rfl (pgs_cons (pg_name (i := 4) sc_wires.nd rfl (Or.inl rfl)) (pgs_cons (pg_name (i := 5) sc_wires.nd rfl (Or.inl rfl)) pgs_nil)))
        (pss_cons (ps_set (i := 6) sc_wires.nd rfl (Or.inl rfl) (pe_call (ok_loop_numbers T) (hr.mono (by decide)) (by rfl) T.g_loop_numbers T.F_loop_numbers.kp T.b_loop_numbers .nil pass0 (pa_cons (pv 0) (pa_cons (pv 4) pa_nil))))
        (pss_cons (ps_expr (pe_bm PySem.F.plainAttrs_list PySem.F.slot_list_append PySem.F.type_list_append mt_append (pv 3) (pa_cons (pe_call (ok_near_part T) (hr.mono (by decide)) (by rfl) T.g_near_part T.F_near_part.kp T.b_near_part .nil pass0 (pa_cons (pv 6) (pa_cons (pv 5) pa_nil))) pa_nil)))
        (pss_one (ps_if (pt_cmpR op_gt (pe_callB call_len_seq (by rfl) T.z_len PySem.boot_len (pa_cons (pv 5) pa_nil)) pe_int (nomark _))
          (pss_one (ps_expr (pe_bm PySem.F.plainAttrs_list PySem.F.slot_list_append PySem.F.type_list_append mt_append (pv 3) (pa_cons (pe_call (ok_far_part T) (hr.mono (by decide)) (by rfl) T.g_far_part T.F_far_part.kp T.b_far_part .nil pass0 (pa_cons (pv 6) (pa_cons (pv 5) pa_nil))) pa_nil))))
          pss_nil)))))
      (pss_cons (ps_if (pt_val (pv 2))
        (pss_one (ps_ret (pe_tup (pa_cons (pe_callTy call_tuple_of (by rfl) T.z_tuple (by decide +kernel) (pa_cons (pe_lc2 (own := [("part", 7), ("number", 8)]) (g := gName 7) (tt := tYes) (g1 := gName 8) (tt1 := tYes) (vs1 := [8]) rfl sc_wires.nd (pi_list (pv 3)) (blkOk_by (own := [("part", 7), ("number", 8)]) (N := nm_wires) (sc := (defScope s_wires)) (by decide +kernel)) (by decide) (fun _ _ _ _ _ => pg_name (i := 7) sc_wires.nd rfl (Or.inl rfl)) (fun _ _ _ _ _ => pts_nil) (fun _ _ _ _ _ => (show PI _ _ _ (iTup K (tVar 7)) from (pi_tup (pv 7)))) (fun _ _ _ _ _ => pg_name (i := 8) sc_wires.nd rfl (Or.inl rfl)) (fun _ _ _ _ _ => pts_nil) (fun _ _ _ _ _ => (pv 8))) pa_nil)) pa_nil))))
        pss_nil)
      (pss_one (ps_ret (pe_callTy call_tuple_of (by rfl) T.z_tuple (by decide +kernel) (pa_cons (pv 3) pa_nil))))))), ?_⟩
    refine ⟨Nat.zero_le _, fun r hr0 => ?_⟩
    refine ⟨_, rfl, q, xs, rfl, sameT (same_new hr0) hS, ?_⟩
    refine for_it Es.walk_ent (fun i σ H' => ∃ u v t, σ = [some (.ref p), some (.ref q), some (.bl j), some (.ref r), u, v, t, none, none] ∧ Same H H' ∧ ∃ ys, H' r = some (.lst ys) ∧ Dts K H' ys ((partsL ((numsD ls).take i) (cs.take i)).map PyData.tuple))
      ⟨none, none, none, rfl, same_new hr0, [], upd_same, by simp [partsL]; exact .nil⟩ (fun i σ H' _ h => let ⟨_, _, _, _, s, _⟩ := h; sameT s hS) (fun i x σ H1 H' hi hP hY => ?_) (fun σ H1 hP => ?_)
    · obtain ⟨u, v, t, rfl, sm, ys, hys, hd1⟩ := hP
      obtain ⟨tp, x1, x2, rfl, ht, rfl, e1, e2⟩ := hY
      cases e1
      obtain ⟨c, hc, tc⟩ := cuts_at hd e2
      have hi2 : i < ls.length := by
        have := (List.getElem?_eq_some_iff.mp hc).1
        omega
      have hl : ls[i]? = some ls[i] := List.getElem?_eq_getElem hi2
      have hcu := hcut i _ c hl hc
      have b2 := G.b2 _ (List.getElem_mem hi2)
      generalize ls[i] = l at hl hcu b2
      have sB : Same H (upd H1 tp (.tup [.int (i : Nat), x2])) := sm.trans (same_new ht)
      have hysB := at_old (u := .tup [.int (i : Nat), x2]) hys ht
      have hdB := hd1.k (Kt.new (K := K) (o := .tup [.int (i : Nat), x2]) ht)
      refine ⟨tp, _, rfl, SqT.of upd_same, rfl, _, _, rfl, _, _, rfl, rfl, ?_⟩
      generalize upd H1 tp (.tup [.int (i : Nat), x2]) = H2 at *
      refine ⟨_, rfl, _, rfl, p, i, ls, l, rfl, hT.keep sB, hl, g2, b2, fun H3 z s3 tz => ?_⟩
      have hx2 := (tc.k (Kt.same (sB.trans s3)))
      refine ⟨_, rfl, .inl ⟨rfl, _, SqL.of (s3 _ _ hysB)⟩, _, rfl, _, rfl, z, x2, _, c, rfl, tz, hx2, by rw [List.length_map]; exact hcu, by rw [List.length_map]; omega, fun H4 z4 s4 t4 => ?_⟩
      have hys4 := s4 _ _ (s3 _ _ hysB)
      have hd4 := hdB.k (Kt.same (s3.trans s4))
      have l4 := hd4.len
      rw [List.length_map] at l4
      have lp := parts_len ((numsD ls).take i) (cs.take i)
      have ln : ((numsD ls).take i).length ≤ 3 := by unfold numsD; rw [List.length_take, List.length_map]; omega
      refine ⟨r, ys, z4, rfl, rfl, hys4, small1000 (by omega), ?_⟩
      have k5 : Kt K H4 (upd H4 r (.lst (ys ++ [z4]))) := Kt.lst hys4
      have s5 : Same H (upd H4 r (.lst (ys ++ [z4]))) := same_mut ((sB.trans s3).trans s4) hr0
      have hd5 := (hd4.snoc t4).k k5
      have hx5 := hx2.k ((Kt.same s4).trans k5)
      have tz5 := (tz.k (Kt.same s4)).k k5
      have hy5 : upd H4 r (.lst (ys ++ [z4])) r = some (.lst (ys ++ [z4])) := upd_same
      generalize upd H4 r (.lst (ys ++ [z4])) = H5 at *
      obtain ⟨q5, e5, hq5⟩ := cut_inv hx5
      subst e5
      have stake : (cs.take i).length = ((numsD ls).take i).length := by unfold numsD; rw [List.length_take, List.length_take, List.length_map]; omega
      refine ⟨_, rfl, q5, _, rfl, .inr hq5, _, _, rfl, rfl, _, rfl, ?_⟩
      rw [cut_len]
      rw [nums_take hl, cs_take hc, parts_snoc _ _ _ _ stake, List.map_append]
      cases c with
      | nil =>
        rw [decide_eq_false (by decide)]
        exact iteF ⟨_, _, _, rfl, s5, _, hy5, hd5⟩
      | cons c0 cr =>
        rw [decide_eq_true (by show (0 : Int) < (((c0 :: cr).length : Nat) : Int); rw [List.length_cons]; omega)]
        refine iteT ?_
        refine ⟨_, rfl, .inl ⟨rfl, _, SqL.of hy5⟩, _, rfl, _, rfl, z, .ref q5, _, c0 :: cr, rfl, tz5, hx5, by rw [List.length_map]; exact hcu, by rw [List.length_map]; omega, fun H6 z6 s6 t6 => ?_⟩
        have hy6 := s6 _ _ hy5
        refine ⟨r, _, z6, rfl, rfl, hy6, small1000 (by rw [List.length_append, List.length_singleton]; omega), ?_⟩
        have k7 : Kt K H6 (upd H6 r (.lst (ys ++ [z4] ++ [z6]))) := Kt.lst hy6
        refine ⟨_, _, _, rfl, same_mut (s5.trans s6) hr0, _, upd_same, ?_⟩
        have hd7 := ((hd5.k (Kt.same s6)).snoc t6).k k7
        rw [List.append_assoc (List.map PyData.tuple (partsL ((numsD ls).take i) (cs.take i))) [PyData.tuple (nearL (l.map numD) (c0 :: cr))] [PyData.tuple (farL (l.map numD) (c0 :: cr))]] at hd7
        exact hd7
    · obtain ⟨u, v, t, rfl, sm, ys, hys, hd1⟩ := hP
      have e1 : (numsD ls).take xs.length = numsD ls := List.take_of_length_le (by unfold numsD; rw [List.length_map]; omega)
      have e2 : cs.take xs.length = cs := List.take_of_length_le (by omega)
      rw [e1, e2] at hd1
      have lp := parts_len (numsD ls) cs
      have lf := parts_flat (numsD ls) cs (nums_le G)
      have ln : (numsD ls).length ≤ 3 := by unfold numsD; rw [List.length_map]; omega
      generalize partsL (numsD ls) cs = ps at *
      refine ⟨_, rfl, j, rfl, ?_⟩
      cases j with
      | false =>
        refine iteF ⟨_, rfl, r, ys, rfl, .inl ⟨SqL.of hys, fun l hl => ?_⟩⟩
        exact k _ _ (sm.trans (same_new hl)) (fun _ => dt_tup upd_same (hd1.k (Kt.new hl))) (fun z => by cases z)
      | true =>
        have ly : ys.length = ps.length := by rw [hd1.len, List.length_map]
        refine iteT ⟨_, rfl, r, rfl, ⟨_, SqL.of hys⟩, fun D hD => ?_⟩
        refine Et.out_it walk_list (fun i H' => Same H1 H' ∧ ∃ zs, H' D = some (.lst zs) ∧ Dts K H' zs (ps.take i).flatten) ⟨same_new hD, [], upd_same, by simp; exact .nil⟩ (fun i H' _ h => SqL.of (h.1 _ _ hys)) (fun i x H7 H' hi hP hY => ?_) (fun H7 hP => ?_)
        · obtain ⟨sm7, zs, hz, hzs⟩ := hP
          obtain ⟨rfl, hx2⟩ := hY
          obtain ⟨d, hd2, a⟩ := hd1.at hx2
          rw [List.getElem?_map] at hd2
          obtain ⟨ds, hds, rfl⟩ := Option.map_eq_some_iff.mp hd2
          obtain ⟨q1, ws, rfl, hq, hws⟩ := (a.k (Kt.same sm7)).inv
          have lw := hws.len
          have bound : ∀ m, ((ps.take i).flatten ++ ds.take m).length ≤ 60 := fun m => by
            have h1 := flat_take_le ps (i + 1)
            rw [flat_succ hds, List.length_append] at h1
            rw [List.length_append, List.length_take]
            omega
          refine ⟨rfl, yesT ?_⟩
          refine ⟨_, rfl, q1, rfl, ⟨_, hq⟩, ?_⟩
          refine Et.in_it walk_tup (fun m H3 => Same H1 H3 ∧ ∃ zs, H3 D = some (.lst zs) ∧ Dts K H3 zs ((ps.take i).flatten ++ ds.take m) ∧ Kt K H' H3) ⟨sm7, zs, hz, by simpa using hzs, Kt.refl⟩ (fun m H3 _ h => let ⟨_, _, _, _, t⟩ := h; t _ _ hq) (fun m x H3 H4 hm hP hY => ?_) (fun H3 hP => ?_)
          · obtain ⟨sm3, zs3, hz3, hzs3, kt⟩ := hP
            obtain ⟨rfl, hx3⟩ := hY
            obtain ⟨d3, hd3, a3⟩ := hws.at hx3
            have l3 := hzs3.len
            have bd := bound m
            have k5 : Kt K H4 (upd H4 D (.lst (zs3 ++ [x]))) := Kt.lst hz3
            refine ⟨rfl, yesT ?_⟩
            refine ⟨_, rfl, zs3, hz3, small1000 (by omega), same_mut sm3 hD, zs3 ++ [x], upd_same, ?_, kt.trans k5⟩
            rw [List.take_add_one, hd3, ← List.append_assoc]
            exact (hzs3.k k5).snoc ((a3.k kt).k k5)
          · obtain ⟨sm3, zs3, hz3, hzs3, kt⟩ := hP
            refine ⟨sm3, zs3, hz3, ?_⟩
            rw [lw, List.take_length] at hzs3
            rw [flat_succ hds]
            exact hzs3
        obtain ⟨sm7, zs, hz, hzs⟩ := hP
        rw [ly, List.take_length] at hzs
        refine ⟨D, zs, rfl, .inl ⟨SqL.of hz, fun l hl => ?_⟩⟩
        refine ⟨by show 1 ≤ sizeLine; decide, fun t ht => ?_⟩
        have kl := Kt.new (K := K) (o := .tup zs) hl
        have tl : Dt K (upd H7 l (.tup zs)) (.ref l) (.tuple ps.flatten) := dt_tup upd_same (hzs.k kl)
        exact k _ _ (((sm.trans sm7).trans (same_new hl)).trans (same_new ht)) (fun z => by cases z) (fun _ => dt_tup upd_same (.cons (tl.k (Kt.new ht)) .nil))
theorem ok_dumb_numbers (T : Txt K mg) : FnOk P w K mg base CX0 5 T.a_dumb_numbers T.d_dumb_numbers ["town", "cuts"] (sp_dumb_numbers K T.C) := by
  refine T.F_dumb_numbers.ok sc_dumb_numbers (fun vs H Q E h => ?_) (fun cdv A outer s H vs Q E hr h => ?_)
  · obtain ⟨p, y, ls, cs, rfl, _⟩ := h
    rfl
  · obtain ⟨p, y, ls, cs, rfl, hT, G, hy, ⟨hcl, hcut⟩, k⟩ := h
    have g2 := G.l2
    obtain ⟨q, xs, rfl, hS, hd⟩ := hy.inv
    have el : xs.length = cs.length := by rw [hd.len, List.length_map]
    refine ⟨_, (pss_cons (ps_set (i := 2) sc_dumb_numbers.nd rfl (Or.inl rfl) (pe_lst pa_nil))
      (pss_cons (ps_for PassesOwn.never rfl (Es.pi_ent (by rfl) T.z_enumerate (pa_cons (pv 1) pa_nil)) (pg_tup rfl (pgs_cons (pg_name (i := 3) sc_dumb_numbers.nd rfl (Or.inl rfl)) (pgs_cons (pg_name (i := 4) sc_dumb_numbers.nd rfl (Or.inl rfl)) pgs_nil)))
        (pss_one (ps_expr (pe_bm PySem.F.plainAttrs_list PySem.F.slot_list_extend PySem.F.type_list_extend Et.mt_extT (pv 2) (pa_cons (pe_call (ok_dumb_part T) (hr.mono (by decide)) (by rfl) T.g_dumb_part T.F_dumb_part.kp T.b_dumb_part .nil pass0 (pa_cons (pe_call (ok_loop_numbers T) (hr.mono (by decide)) (by rfl) T.g_loop_numbers T.F_loop_numbers.kp T.b_loop_numbers .nil pass0 (pa_cons (pv 0) (pa_cons (pv 3) pa_nil))) (pa_cons (pv 4) pa_nil))) pa_nil)))))
      (pss_one (ps_ret (pe_callTy call_tuple_of (by rfl) T.z_tuple (by decide +kernel) (pa_cons (pv 2) pa_nil)))))), ?_⟩
    refine ⟨Nat.zero_le _, fun r hr0 => ?_⟩
    refine ⟨_, rfl, q, xs, rfl, sameT (same_new hr0) hS, ?_⟩
    refine for_it Es.walk_ent (fun i σ H' => ∃ u v, σ = [some (.ref p), some (.ref q), some (.ref r), u, v] ∧ Same H H' ∧ ∃ ys, H' r = some (.lst ys) ∧ Dts K H' ys (dumbsL ((numsD ls).take i) (cs.take i)))
      ⟨none, none, rfl, same_new hr0, [], upd_same, by simp [dumbsL]; exact .nil⟩ (fun i σ H' _ h => let ⟨_, _, _, s, _⟩ := h; sameT s hS) (fun i x σ H1 H' hi hP hY => ?_) (fun σ H1 hP => ?_)
    · obtain ⟨u, v, rfl, sm, ys, hys, hd1⟩ := hP
      obtain ⟨tp, x1, x2, rfl, ht, rfl, e1, e2⟩ := hY
      cases e1
      obtain ⟨c, hc, tc⟩ := cuts_at hd e2
      have hi2 : i < ls.length := by
        have := (List.getElem?_eq_some_iff.mp hc).1
        omega
      have hl : ls[i]? = some ls[i] := List.getElem?_eq_getElem hi2
      have hcu := hcut i _ c hl hc
      have b2 := G.b2 _ (List.getElem_mem hi2)
      generalize ls[i] = l at hl hcu b2
      have sB : Same H (upd H1 tp (.tup [.int (i : Nat), x2])) := sm.trans (same_new ht)
      have hysB := at_old (u := .tup [.int (i : Nat), x2]) hys ht
      have hdB := hd1.k (Kt.new (K := K) (o := .tup [.int (i : Nat), x2]) ht)
      refine ⟨tp, _, rfl, SqT.of upd_same, rfl, _, _, rfl, _, _, rfl, rfl, ?_⟩
      generalize upd H1 tp (.tup [.int (i : Nat), x2]) = H2 at *
      have stake : (cs.take i).length = ((numsD ls).take i).length := by unfold numsD; rw [List.length_take, List.length_take, List.length_map]; omega
      refine ⟨_, rfl, .inl ⟨rfl, _, SqL.of hysB⟩, _, rfl, _, rfl, p, i, ls, l, rfl, hT.keep sB, hl, g2, b2, fun H3 z s3 tz => ?_⟩
      have hx2 := (tc.k (Kt.same (sB.trans s3)))
      refine ⟨_, rfl, z, x2, _, c, rfl, tz, hx2, by rw [List.length_map]; exact hcu, by rw [List.length_map]; omega, fun H4 z4 s4 t4 => ?_⟩
      have hys4 := s4 _ _ (s3 _ _ hysB)
      have hd4 := hdB.k (Kt.same (s3.trans s4))
      have l4 := hd4.len
      obtain ⟨q4, ws, rfl, hq4, hws⟩ := t4.inv
      have lw := hws.len
      have ld := dumb_len (l.map numD) c
      rw [List.length_map] at ld
      have lf := dumbs_flat ((numsD ls).take i) (cs.take i) fun m hm => nums_le G m (List.mem_of_mem_take hm)
      have ln : ((numsD ls).take i).length ≤ 3 := by unfold numsD; rw [List.length_take, List.length_map]; omega
      refine ⟨r, q4, ys, ws, rfl, rfl, hys4, hq4, Nat.le_of_lt (small1000 (by omega)), ?_⟩
      have k5 : Kt K H4 (upd H4 r (.lst (ys ++ ws))) := Kt.lst hys4
      refine ⟨_, _, rfl, same_mut ((sB.trans s3).trans s4) hr0, _, upd_same, ?_⟩
      rw [nums_take hl, cs_take hc, dumbs_snoc _ _ _ _ stake]
      exact (hd4.app hws).k k5
    · obtain ⟨u, v, rfl, sm, ys, hys, hd1⟩ := hP
      have e1 : (numsD ls).take xs.length = numsD ls := List.take_of_length_le (by unfold numsD; rw [List.length_map]; omega)
      have e2 : cs.take xs.length = cs := List.take_of_length_le (by omega)
      rw [e1, e2] at hd1
      refine ⟨_, rfl, r, ys, rfl, .inl ⟨SqL.of hys, fun l hl => ?_⟩⟩
      exact k _ _ (sm.trans (same_new hl)) (dt_tup upd_same (hd1.k (Kt.new hl)))
end
end K18

namespace K18
open PySem L2 Wm TL Dv
section
variable {P : Program} {w : World} {K : PySem.W.Frag} {mg : Str → Option Value} {base : Heap}
theorem ixN_ofNat {n j : Nat} (hj : j < n) : ixN n (j : Int) = some j := by
  unfold ixN
  rw [if_pos (by omega), if_pos (by omega)]; simp
theorem eqv_nil : ∀ ds : List PyData, PyData.eqv (.list ds) (.list []) = decide (ds = [])
  | [] => by simp [PyData.eqv, PyData.eqvAll]
  | d :: ds => by simp [PyData.eqv, PyData.eqvAll]
theorem shaped_il (ns : List Int) : SeqAt.shaped (.list (ns.map PyData.int)) = true := PySem.W.ke_shaped_ints ns
theorem dp_ints {H : Hp} : ∀ ns : List Int, DpAll K H (ns.map V.int) (ns.map PyData.int)
  | [] => .nil
  | n :: ns => .cons (.int n) (dp_ints ns)
theorem But2.refl {s a : Addr} {H : Hp} : But2 s a H H := ⟨fun _ _ _ _ h => h⟩
theorem But2.trans {s a : Addr} {H H1 H2 : Hp} (x : But2 s a H H1) (y : But2 s a H1 H2) : But2 s a H H2 := ⟨fun p o n1 n2 h => y.keep p o n1 n2 (x.keep p o n1 n2 h)⟩
theorem But2.of {s a : Addr} {H H' : Hp} (e : Same H H') : But2 s a H H' := ⟨fun p o _ _ h => e p o h⟩
theorem But2.set1 {s a : Addr} {H : Hp} {o : HO} : But2 s a H (upd H s o) := ⟨fun p u n _ h => by rw [upd_ne n]; exact h⟩
theorem But2.set2 {s a : Addr} {H : Hp} {o : HO} : But2 s a H (upd H a o) := ⟨fun p u _ n h => by rw [upd_ne n]; exact h⟩
theorem fmod_in {x l : Int} (h : 0 < l) : 0 ≤ x.fmod l ∧ x.fmod l < l := by
  rw [Int.fmod_eq_emod_of_nonneg x (Int.le_of_lt h)]
  exact ⟨Int.emod_nonneg x (by omega), Int.emod_lt_of_pos x h⟩
theorem mapV_at {xs : List Int} {i : Nat} {v : V} (h : (xs.map V.int)[i]? = some v) : ∃ x, xs[i]? = some x ∧ v = .int x := by
  rw [List.getElem?_map] at h
  obtain ⟨x, hx, rfl⟩ := Option.map_eq_some_iff.mp h
  exact ⟨x, hx, rfl⟩
theorem ints_of {ys : List V} (h : ∀ (i : Nat) y, ys[i]? = some y → ∃ z : Int, y = .int z) : ∃ zs : List Int, ys = zs.map V.int := by
  induction ys with
  | nil => exact ⟨[], rfl⟩
  | cons y ys ih =>
    obtain ⟨zs, e⟩ := ih fun i z hz => h (i + 1) z (by simpa using hz)
    obtain ⟨z, e2⟩ := h 0 y rfl
    exact ⟨z :: zs, by rw [e, e2]; rfl⟩
theorem ok_source (T : Txt K mg) : FnOk P w K mg base CX0 1 T.a_source T.d_source ["_law_script"] (sp_source K) := by
  refine T.F_source.ok sc_source (fun vs H Q E h => ?_) (fun cdv A outer s H vs Q E hr h => ?_)
  · obtain ⟨a, ns, rfl, _⟩ := h
    rfl
  · obtain ⟨a, ns, rfl, hS, hlen, k⟩ := h
    refine ⟨_, (pss_cons (ps_setLc (i := 1) (own := [("_law_cell", 2)]) (g := gName 2) (tt := tYes) rfl sc_source.nd rfl rfl (sw_true rfl rfl rfl (by decide +kernel)) (pi_list (pe_slice sl_list (pv 0) po_none (po_some pe_int))) (blkOk_by (own := [("_law_cell", 2)]) (N := nm_source) (sc := (defScope s_source)) (by decide +kernel)) (fun _ _ _ _ _ => pg_name (i := 2) sc_source.nd rfl (Or.inl rfl)) (fun _ _ _ _ _ => pts_nil) (fun _ _ _ _ _ => (pe_op op_add (pe_op op_mul pe_int (pe_callB call_abs (by rfl) T.z_abs (by decide +kernel) (pa_cons (pe_callTy call_int1 (by rfl) T.z_int (by decide +kernel) (pa_cons (pv 2) pa_nil)) pa_nil))) (pe_callTy call_int1 (by rfl) T.z_int (by decide +kernel) (pa_cons (pe_cmpR op_lt (pe_callTy call_int1 (by rfl) T.z_int (by decide +kernel) (pa_cons (pv 2) pa_nil)) pe_int (nomark _)) pa_nil)))))
      (pss_one (ps_ret (pe_lst (pa_cons (pe_lc (own := [("_law_cell", 2)]) (g := gName 2) rfl sc_source.nd (pi_list (pv 1)) (blkOk_by (own := [("_law_cell", 2)]) (N := nm_source) (sc := (defScope s_source)) (by decide +kernel)) (fun _ _ _ _ _ => pg_name (i := 2) sc_source.nd rfl (Or.inl rfl)) (fun _ _ _ _ _ => (pts_one (pt_cmpR op_ge (pv 2) (pe_op op_pow pe_int pe_int) (nomark _)))) (fun _ _ _ _ _ => (pv 2))) (pa_cons (pe_lc (own := [("_law_cell", 2)]) (g := gName 2) rfl sc_source.nd (pi_list (pv 1)) (blkOk_by (own := [("_law_cell", 2)]) (N := nm_source) (sc := (defScope s_source)) (by decide +kernel)) (fun _ _ _ _ _ => pg_name (i := 2) sc_source.nd rfl (Or.inl rfl)) (fun _ _ _ _ _ => (pts_one (pt_cmpR op_lt (pv 2) (pe_op op_pow pe_int pe_int) (nomark _)))) (fun _ _ _ _ _ => (pv 2))) (pa_cons pe_int (pa_cons pe_int pa_nil)))))))), ?_⟩
    refine ⟨.ref a, rfl, 63, rfl, a, _, rfl, hS, fun p hp => ?_⟩
    have lc : (cutV (ns.map V.int) none (some 63)).length ≤ 63 := Nat.le_trans (cutV_length _ _ _) (by rw [List.length_map]; exact hlen)
    have ic : ∀ (i : Nat) v, (cutV (ns.map V.int) none (some 63))[i]? = some v → ∃ z : Int, v = .int z := fun i v hv => by
      have m := List.mem_of_mem_drop (List.mem_of_mem_take (List.mem_of_getElem? hv))
      obtain ⟨z, _, e⟩ := List.mem_map.mp m
      exact ⟨z, e.symm⟩
    generalize cutV (ns.map V.int) none (some 63) = cs at lc ic
    have hcs : upd H p (.lst cs) p = some (.lst cs) := upd_same
    refine ⟨p, rfl, ⟨_, SqL.of hcs⟩, fun D hD => ?_⟩
    refine Lm.lc_map (K := K) walk_list (fun _ y _ => ∃ z : Int, y = .int z) (fun _ _ _ _ h _ => h) hD (by omega) (fun H' s => SqL.of (s _ _ hcs)) (fun i x H' hi hx sm Q2 Z q => ?_) (fun H2 ys s2 hy ly hR => ?_)
    · obtain ⟨z, rfl⟩ := ic i x hx
      refine ⟨rfl, yesT ?_⟩
      exact ⟨_, rfl, .inl ⟨_, rfl, _, rfl, _, _, rfl, rfl, .inl ⟨by decide, by decide⟩, _, rfl, .inl ⟨_, rfl, _, _, rfl, rfl, .inr ⟨_, rfl, _, _, rfl, rfl, q _ _ (Same.refl _) ⟨_, rfl⟩⟩⟩⟩⟩
    obtain ⟨zs, rfl⟩ := ints_of hR
    rw [List.length_map] at ly
    have lz : zs.length ≤ 63 := by omega
    have s02 : Same H H2 := (same_new hp).trans s2
    refine ⟨_, rfl, D, rfl, ⟨_, SqL.of hy⟩, fun A1 hA1 => ?_⟩
    refine lc_list (xs := zs.map V.int) (fun i H' => Same H2 H' ∧ ∃ qs : List Int, qs.length ≤ i ∧ H' A1 = some (.lst (qs.map V.int))) ⟨same_new hA1, [], Nat.le_refl _, upd_same⟩ (fun i H3 _ hP => SqL.of (hP.1 _ _ hy)) (fun i x H3 hx hP => ?_) (fun H3 hP => ?_)
    · obtain ⟨sm, qs, eq, hq⟩ := hP
      obtain ⟨z, hz, rfl⟩ := mapV_at hx
      have hi := (List.getElem?_eq_some_iff.mp hz).1
      refine ⟨rfl, ?_⟩
      refine ⟨_, rfl, _, _, rfl, rfl, ⟨by decide, by decide, by decide⟩, _, _, rfl, rfl, _, rfl, ite2 (fun c => ?_) (fun c => ?_)⟩
      · exact ⟨_, rfl, _, hq, by rw [List.length_map]; exact small1000 (by omega), same_mut sm hA1, qs ++ [z], by rw [List.length_append, List.length_singleton]; omega, by rw [upd_same, List.map_append]; rfl⟩
      · exact ⟨sm, qs, by omega, hq⟩
    obtain ⟨s3, q1, _, h1⟩ := hP
    refine ⟨_, rfl, D, rfl, ⟨_, SqL.of (s3 _ _ hy)⟩, fun A2 hA2 => ?_⟩
    refine lc_list (xs := zs.map V.int) (fun i H' => Same H3 H' ∧ ∃ qs : List Int, qs.length ≤ i ∧ H' A2 = some (.lst (qs.map V.int))) ⟨same_new hA2, [], Nat.le_refl _, upd_same⟩ (fun i H4 _ hP => SqL.of (hP.1 _ _ (s3 _ _ hy))) (fun i x H4 hx hP => ?_) (fun H4 hP => ?_)
    · obtain ⟨sm, qs, eq, hq⟩ := hP
      obtain ⟨z, hz, rfl⟩ := mapV_at hx
      have hi := (List.getElem?_eq_some_iff.mp hz).1
      refine ⟨rfl, ?_⟩
      refine ⟨_, rfl, _, _, rfl, rfl, ⟨by decide, by decide, by decide⟩, _, _, rfl, rfl, _, rfl, ite2 (fun c => ?_) (fun c => ?_)⟩
      · exact ⟨_, rfl, _, hq, by rw [List.length_map]; exact small1000 (by omega), same_mut sm hA2, qs ++ [z], by rw [List.length_append, List.length_singleton]; omega, by rw [upd_same, List.map_append]; rfl⟩
      · exact ⟨sm, qs, by omega, hq⟩
    obtain ⟨s4, q2, _, h2⟩ := hP
    refine ⟨by show 4 ≤ sizeLine; decide, fun s hs => ?_⟩
    have h14 := s4 _ _ h1
    have s04 := (s02.trans s3).trans s4
    refine k _ s A1 A2 (s04.trans (same_new hs)) ⟨1, 0, q1, q2, upd_same, at_old h14 hs, at_old h2 hs, (fun e => ?_), (fun e => ?_), (fun e => ?_), by decide, by decide⟩ (s04.free hs) (s02.free hA1)
    · rw [e] at h1
      rw [hA2] at h1
      cases h1
    · rw [e] at h14
      rw [hs] at h14
      cases h14
    · rw [e] at h2
      rw [hs] at h2
      cases h2
theorem ok_draw (T : Txt K mg) : FnOk P w K mg base CX0 1 T.a_draw T.d_draw ["_law_source_here", "_law_many"] (sp_draw K) := by
  refine T.F_draw.ok sc_draw (fun vs H Q E h => ?_) (fun cdv A outer s H vs Q E hr h => ?_)
  · obtain ⟨s, a, b, n, lim, rfl, _⟩ := h
    rfl
  · obtain ⟨s, a, b, n, lim, rfl, l0, l1, ⟨x, m, ns, ms, hs, ha, hb, nab, nas, nbs, m0, mn⟩, hn, kk⟩ := h
    refine ⟨_, (C8.pss_cut (ps_while PassesOwn.never (PW.pt (pw_and (pt_cmpR (op_neD hr.units) (pe_ix ix_list (pv 0) pe_int (fun _ _ => rfl)) (pe_lst pa_nil) (nomark _)) (pw_and1 (pt_cmpR op_eq (pe_ix ix_list (pe_ix ix_list (pv 0) pe_int (fun _ _ => rfl)) pe_int (fun _ _ => rfl)) pe_int (nomark _)))))
        (pss_one (ps_expr (pe_bm PySem.F.plainAttrs_list PySem.F.slot_list_pop PySem.F.type_list_pop mt_popAt (pe_ix ix_list (pv 0) pe_int (fun _ _ => rfl)) (pa_cons pe_int pa_nil)))))
      (pss_cons (ps_if (pt_cmpR (op_neD hr.units) (pe_ix ix_list (pv 0) pe_int (fun _ _ => rfl)) (pe_lst pa_nil) (nomark _))
        (pss_cons (ps_set (i := 2) sc_draw.nd rfl (Or.inl rfl) (pe_ix ix_list (pe_ix ix_list (pv 0) pe_int (fun _ _ => rfl)) pe_int (fun _ _ => rfl)))
        (pss_cons (ps_asg (pe_op op_fdivN (pv 2) (pv 1)) (pg_sub (pe_ix ix_list (pv 0) pe_int (fun _ _ => rfl)) pe_int set_list))
        (pss_one (ps_ret (pe_op op_modN (pe_callTy call_int1 (by rfl) T.z_int (by decide +kernel) (pa_cons (pv 2) pa_nil)) (pv 1))))))
        pss_nil)
      (pss_cons (ps_augS (pv 0) pe_int Sl.get_list pe_int ip_add set_list)
      (pss_cons (ps_set (i := 2) sc_draw.nd rfl (Or.inl rfl) pe_int)
      (C8.pss_cut (ps_if (pt_cmpR (op_neD hr.units) (pe_ix ix_list (pv 0) pe_int (fun _ _ => rfl)) (pe_lst pa_nil) (nomark _))
        (pss_one (ps_set (i := 2) sc_draw.nd rfl (Or.inl rfl) (pe_ix ix_list (pe_ix ix_list (pv 0) pe_int (fun _ _ => rfl)) (pe_op op_modN (pe_callTy call_int1 (by rfl) T.z_int (by decide +kernel) (pa_cons (pe_ix ix_list (pv 0) pe_int (fun _ _ => rfl)) pa_nil)) (pe_callB call_len_seq (by rfl) T.z_len PySem.boot_len (pa_cons (pe_ix ix_list (pv 0) pe_int (fun _ _ => rfl)) pa_nil))) (fun _ _ => rfl))))
        pss_nil)
      (pss_cons (ps_asg (pe_op op_modN (pe_callTy call_int1 (by rfl) T.z_int (by decide +kernel) (pa_cons (pe_op op_add (pe_op op_add (pe_op op_mul (pe_ix ix_list (pv 0) pe_int (fun _ _ => rfl)) pe_int) (pe_op op_mul (pv 2) pe_int)) (pe_op op_mul (pe_ix ix_list (pv 0) pe_int (fun _ _ => rfl)) pe_int)) pa_nil)) pe_int) (pg_sub (pv 0) pe_int set_list))
      (pss_one (ps_ret (pe_op op_modN (pe_callTy call_int1 (by rfl) T.z_int (by decide +kernel) (pa_cons (pe_op op_fdivN (pe_ix ix_list (pv 0) pe_int (fun _ _ => rfl)) pe_int) pa_nil)) (pv 1)))))))))), ?_⟩
    refine ⟨fun σ H1 => ∃ ns : List Int, σ = [some (.ref s), some (.int lim), none] ∧ But2 s a H H1 ∧ H1 s = some (.lst [.ref a, .ref b, .int x, .int m]) ∧ H1 a = some (.lst (ns.map V.int)) ∧ H1 b = some (.lst (ms.map V.int)), ?_, ?_⟩
    · refine ⟨fun k σ H1 => ∃ ns : List Int, ns.length = k ∧ σ = [some (.ref s), some (.int lim), none] ∧ But2 s a H H1 ∧ H1 s = some (.lst [.ref a, .ref b, .int x, .int m]) ∧ H1 a = some (.lst (ns.map V.int)) ∧ H1 b = some (.lst (ms.map V.int)), ⟨_, ns, rfl, rfl, But2.refl, hs, ha, hb⟩, ?_⟩
      clear hs ha hb
      rintro k σ H1 ⟨ns, rfl, rfl, but, hs, ha, hb⟩
      refine ⟨_, rfl, s, _, 0, _, rfl, rfl, SqL.of hs, atI_nat (j := 0) rfl, Nat.zero_le _, fun E1 hE1 => ?_⟩
      refine ⟨_, _, .lst (SqL.of (at_old ha hE1)) (dp_ints ns), .lst (SqL.of upd_same) .nil, shaped_il _, by decide +kernel, _, rfl, ?_⟩
      rw [eqv_nil]
      have but1 : But2 s a H (upd H1 E1 (.lst [])) := but.trans (But2.of (same_new hE1))
      have hs1 := at_old (u := .lst []) hs hE1
      have ha1 := at_old (u := .lst []) ha hE1
      have hb1 := at_old (u := .lst []) hb hE1
      generalize upd H1 E1 (.lst []) = H2 at *
      cases ns with
      | nil =>
        refine iteF ?_
        exact iteF ⟨[], rfl, but1, hs1, ha1, hb1⟩
      | cons z r =>
        refine iteT ?_
        refine ⟨_, rfl, s, _, 0, _, rfl, rfl, SqL.of hs1, atI_nat (j := 0) rfl, a, _, 0, _, rfl, rfl, SqL.of ha1, atI_nat (j := 0) rfl, rfl, _, rfl, ite2 (fun c => ?_) (fun c => ?_)⟩
        · refine ⟨fun σ H1 => ∃ ns : List Int, ns.length = r.length ∧ σ = [some (.ref s), some (.int lim), none] ∧ But2 s a H H1 ∧ H1 s = some (.lst [.ref a, .ref b, .int x, .int m]) ∧ H1 a = some (.lst (ns.map V.int)) ∧ H1 b = some (.lst (ms.map V.int)), fun σ' H' h => ⟨r.length, by simp, h⟩, ?_⟩
          refine ⟨_, rfl, s, _, 0, _, rfl, rfl, SqL.of hs1, atI_nat (j := 0) rfl, .inl ⟨rfl, _, SqL.of ha1⟩, a, _, 0, 0, _, rfl, rfl, ha1, by decide, by decide, (ixN_seq (ixN_ofNat (j := 0) (by simp))).1, rfl, ?_⟩
          exact ⟨r, rfl, rfl, but1.trans But2.set2, by rw [upd_ne (Ne.symm nas)]; exact hs1, upd_same, by rw [upd_ne (Ne.symm nab)]; exact hb1⟩
        · exact ⟨z :: r, rfl, but1, hs1, ha1, hb1⟩
    clear hs ha hb
    rintro σ H0 ⟨ns, rfl, but0, hs0, ha0, hb0⟩
    refine ⟨_, rfl, s, _, 0, _, rfl, rfl, SqL.of hs0, atI_nat (j := 0) rfl, Nat.zero_le _, fun E1 hE1 => ?_⟩
    refine ⟨_, _, .lst (SqL.of (at_old ha0 hE1)) (dp_ints ns), .lst (SqL.of upd_same) .nil, shaped_il _, by decide +kernel, _, rfl, ?_⟩
    rw [eqv_nil]
    have but : But2 s a H (upd H0 E1 (.lst [])) := but0.trans (But2.of (same_new hE1))
    have hs := at_old (u := .lst []) hs0 hE1
    have ha := at_old (u := .lst []) ha0 hE1
    have hb := at_old (u := .lst []) hb0 hE1
    generalize upd H0 E1 (.lst []) = H1 at *
    cases ns with
    | cons z r =>
      refine iteT ?_
      refine ⟨_, rfl, s, _, 0, _, rfl, rfl, SqL.of hs, atI_nat (j := 0) rfl, a, _, 0, _, rfl, rfl, SqL.of ha, atI_nat (j := 0) rfl, ?_⟩
      refine ⟨_, rfl, _, rfl, _, _, rfl, rfl, ⟨by omega, by omega⟩, _, rfl, s, _, 0, _, rfl, rfl, SqL.of hs, atI_nat (j := 0) rfl, a, _, 0, 0, rfl, rfl, ha, ixN_ofNat (j := 0) (by simp), ?_⟩
      refine ⟨_, rfl, .inl ⟨_, rfl, _, rfl, _, _, rfl, rfl, by omega, ?_⟩⟩
      refine kk _ _ (fmod_in l0).1 (fmod_in l0).2 ⟨x, m, (z.fdiv lim) :: r, ms, ?_, upd_same, ?_, nab, nas, nbs, m0, by omega⟩ (but.trans But2.set2)
      · rw [upd_ne (Ne.symm nas)]
        exact hs
      · rw [upd_ne (Ne.symm nab)]
        exact hb
    | nil =>
      refine iteF ?_
      refine ⟨_, rfl, s, _, 3, _, rfl, rfl, SqL.of hs, atI_nat (j := 3) rfl, _, _, rfl, rfl, s, _, 3, 3, rfl, rfl, hs, rfl, ?_⟩
      have but2 : But2 s a H (upd H1 s (.lst [.ref a, .ref b, .int x, .int (m + 1)])) := but.trans But2.set1
      have hs2 : upd H1 s (.lst [.ref a, .ref b, .int x, .int (m + 1)]) s = some (.lst [.ref a, .ref b, .int x, .int (m + 1)]) := upd_same
      have ha2 : upd H1 s (.lst [.ref a, .ref b, .int x, .int (m + 1)]) a = some (.lst []) := by rw [upd_ne nas]; exact ha
      have hb2 : upd H1 s (.lst [.ref a, .ref b, .int x, .int (m + 1)]) b = some (.lst (ms.map V.int)) := by rw [upd_ne nbs]; exact hb
      show _
      refine ⟨fun σ H2 => ∃ c : Int, σ = [some (.ref s), some (.int lim), some (.int c)] ∧ But2 s a H H2 ∧ H2 s = some (.lst [.ref a, .ref b, .int x, .int (m + 1)]) ∧ H2 a = some (.lst []) ∧ H2 b = some (.lst (ms.map V.int)), ?_, ?_⟩
      · refine ⟨_, rfl, s, _, 1, _, rfl, rfl, SqL.of hs2, atI_nat (j := 1) rfl, Nat.zero_le _, fun E2 hE2 => ?_⟩
        refine ⟨_, _, .lst (SqL.of (at_old hb2 hE2)) (dp_ints ms), .lst (SqL.of upd_same) .nil, shaped_il _, by decide +kernel, _, rfl, ?_⟩
        rw [eqv_nil]
        have but3 := but2.trans (But2.of (same_new (o := .lst []) hE2))
        have hs3 := at_old (u := .lst []) hs2 hE2
        have ha3 := at_old (u := .lst []) ha2 hE2
        have hb3 := at_old (u := .lst []) hb2 hE2
        cases ms with
        | nil =>
          refine iteF ?_
          exact ⟨5, rfl, but3, hs3, ha3, hb3⟩
        | cons z r =>
          refine iteT ?_
          have lp : (0 : Int) < ((((z :: r).map V.int).length : Nat) : Int) := by rw [List.length_map, List.length_cons]; omega
          have fi := fmod_in (x := m + 1) lp
          have hlt : ((m + 1).fmod ((((z :: r).map V.int).length : Nat) : Int)).toNat < (z :: r).length := by rw [List.length_map] at fi ⊢; omega
          have hg : ((z :: r).map V.int)[((m + 1).fmod ((((z :: r).map V.int).length : Nat) : Int)).toNat]? = some (.int (z :: r)[((m + 1).fmod ((((z :: r).map V.int).length : Nat) : Int)).toNat]) := by rw [List.getElem?_map, List.getElem?_eq_getElem hlt]; rfl
          refine ⟨_, rfl, s, _, 1, _, rfl, rfl, SqL.of hs3, atI_nat (j := 1) rfl, _, rfl, s, _, 3, _, rfl, rfl, SqL.of hs3, atI_nat (j := 3) rfl, .inl ⟨_, rfl, _, rfl, s, _, 1, _, rfl, rfl, SqL.of hs3, atI_nat (j := 1) rfl, b, _, rfl, .inl (SqL.of hb3), _, _, rfl, rfl, by omega, b, _, _, _, rfl, rfl, SqL.of hb3, at_of (by omega) hg, ?_⟩⟩
          exact ⟨_, rfl, but3, hs3, ha3, hb3⟩
      · rintro σ H2 ⟨c, rfl, but, hs, ha, hb⟩
        refine ⟨_, rfl, s, _, 2, _, rfl, rfl, SqL.of hs, atI_nat (j := 2) rfl, _, _, rfl, rfl, .inr ⟨by decide, by decide⟩, _, rfl, _, _, rfl, rfl, .inr ⟨by decide, by decide⟩, _, _, rfl, rfl, ?_⟩
        refine ⟨_, rfl, s, _, 3, _, rfl, rfl, SqL.of hs, atI_nat (j := 3) rfl, _, _, rfl, rfl, .inr ⟨by decide, by decide⟩, _, _, rfl, rfl, .inl ⟨_, rfl, _, _, rfl, rfl, by omega, _, rfl, s, _, 2, 2, rfl, rfl, hs, rfl, ?_⟩⟩
        refine ⟨_, rfl, s, _, 2, _, rfl, rfl, SqL.of upd_same, atI_nat (j := 2) rfl, _, _, rfl, rfl, ⟨by decide, by decide⟩, .inl ⟨_, rfl, _, rfl, _, _, rfl, rfl, by omega, ?_⟩⟩
        refine kk _ _ (fmod_in l0).1 (fmod_in l0).2 ⟨_, m + 1, [], ms, upd_same, ?_, ?_, nab, nas, nbs, by omega, by omega⟩ (but.trans But2.set1)
        · rw [upd_ne nas]
          exact ha
        · rw [upd_ne nbs]
          exact hb
end
end K18

namespace K18
open PySem L2 Wm TL Dv
section
variable {P : Program} {w : World} {K : PySem.W.Frag} {mg : Str → Option Value} {base : Heap}
theorem dig_log {d : Nat} (h : 1 ≤ d ∧ d ≤ 9) : ((d : Int)).natAbs.log2 < 1920 := by
  rcases dig_cases h with e | e | e | e | e | e | e | e | e <;> subst e <;> decide +kernel
theorem sum_snoc (ds : List Nat) (d : Nat) : (ds ++ [d]).sum = ds.sum + d := by
  rw [List.sum_append]
  simp
theorem len_snoc (ds : List Nat) (d : Nat) : (ds ++ [d]).length = ds.length + 1 := by simp
theorem dig_snoc {ds : List Nat} {d : Nat} (h : ∀ y ∈ ds, 1 ≤ y ∧ y ≤ 9) (g : 1 ≤ d ∧ d ≤ 9) : ∀ y ∈ ds ++ [d], 1 ≤ y ∧ y ≤ 9 := fun y m => by
  rcases List.mem_append.mp m with m | m
  · exact h y m
  · rw [List.mem_singleton.mp m]
    exact g
theorem Src.mono {H : Hp} {s a b : Addr} {n m : Nat} (h : Src H s a b n) (e : n ≤ m) : Src H s a b m := by
  obtain ⟨x, y, ns, ms, h1, h2, h3, h4, h5, h6, h7, h8⟩ := h
  exact ⟨x, y, ns, ms, h1, h2, h3, h4, h5, h6, h7, by omega⟩
theorem Src.keep {H H' : Hp} {s a b : Addr} {n : Nat} (h : Src H s a b n) (e : Same H H') : Src H' s a b n := by
  obtain ⟨x, y, ns, ms, h1, h2, h3, h4⟩ := h
  exact ⟨x, y, ns, ms, e _ _ h1, e _ _ h2, e _ _ h3, h4⟩
theorem ok_number (T : Txt K mg) : FnOk P w K mg base CX0 2 T.a_number T.d_number ["_law_source_here"] (sp_number K) := by
  refine T.F_number.ok sc_number (fun vs H Q E h => ?_) (fun cdv A outer s H vs Q E hr h => ?_)
  · obtain ⟨s0, a, b, n, rfl, _⟩ := h
    rfl
  · obtain ⟨s0, a, b, n, rfl, hbag, hn, kk⟩ := h
    refine ⟨_, (pss_cons (ps_set (i := 1) sc_number.nd rfl (Or.inl rfl) (pe_op op_add pe_int (pe_call (ok_draw T) (hr.mono (by decide)) (by rfl) T.g_draw T.F_draw.kp T.b_draw .nil pass0 (pa_cons (pv 0) (pa_cons pe_int pa_nil)))))
      (C8.pss_cut (ps_set (i := 2) sc_number.nd rfl (Or.inl rfl) (pe_ifExp (pt_cmpR op_gt (pe_call (ok_draw T) (hr.mono (by decide)) (by rfl) T.g_draw T.F_draw.kp T.b_draw .nil pass0 (pa_cons (pv 0) (pa_cons pe_int pa_nil))) pe_int (nomark _)) pe_int pe_int))
      (pss_cons (ps_set (i := 3) sc_number.nd rfl (Or.inl rfl) pe_int)
      (pss_cons (ps_set (i := 4) sc_number.nd rfl (Or.inl rfl) pe_str)
      (pss_cons (ps_for PassesOwn.never rfl (pi_range1 (by rfl) T.z_range (pa_cons (pv 1) pa_nil)) (pg_name (i := 5) sc_number.nd rfl (Or.inl rfl))
        (pss_cons (ps_set (i := 6) sc_number.nd rfl (Or.inl rfl) (pe_op op_add pe_int (pe_call (ok_draw T) (hr.mono (by decide)) (by rfl) T.g_draw T.F_draw.kp T.b_draw .nil pass0 (pa_cons (pv 0) (pa_cons (pe_callB (call_min2 rfl) (by rfl) T.z_min (by decide +kernel) (pa_cons (pv 2) (pa_cons (pe_op op_sub (pv 3) (pe_op op_sub (pe_op op_sub (pv 1) pe_int) (pv 5))) pa_nil))) pa_nil)))))
        (pss_cons (ps_set (i := 4) sc_number.nd rfl (Or.inl rfl) (pe_op op_add_str (pv 4) (pe_callTy call_str_int (by rfl) T.z_str (by decide +kernel) (pa_cons (pv 6) pa_nil))))
        (pss_one (ps_set (i := 3) sc_number.nd rfl (Or.inl rfl) (pe_op op_sub (pv 3) (pv 6)))))))
      (pss_one (ps_ret (pv 4)))))))), ?_⟩
    refine ⟨_, rfl, s0, a, b, n, 4, rfl, by decide, by decide, hbag, by omega, fun H1 d1 g0 g1 bag1 but1 => ?_⟩
    refine ⟨_, _, rfl, rfl, ?_⟩
    obtain ⟨many, em⟩ : ∃ many : Nat, (1 : Int) + d1 = (many : Nat) := ⟨(1 + d1).toNat, by omega⟩
    try dsimp only
    rw [em]
    have m1 : 1 ≤ many := by omega
    have m4 : many ≤ 4 := by omega
    refine ⟨fun σ H2 => ∃ top : Int, σ = [some (.ref s0), some (.int (many : Nat)), some (.int top), none, none, none, none] ∧ 3 ≤ top ∧ top ≤ 9 ∧ Src H2 s0 a b (n + 2) ∧ But2 s0 a H H2, ?_, ?_⟩
    · refine ⟨_, rfl, s0, a, b, n + 1, 5, rfl, by decide, by decide, bag1, by omega, fun H2 way w0 w1 bag2 but2 => ?_⟩
      refine ⟨_, _, rfl, rfl, _, rfl, ite2 (fun c => ?_) (fun c => ?_)⟩
      · exact ⟨3, rfl, by decide, by decide, bag2, but1.trans but2⟩
      · exact ⟨9, rfl, by decide, by decide, bag2, but1.trans but2⟩
    rintro σ H3 ⟨top, rfl, t3, t9, bag3, but3⟩
    clear bag1 but1 hbag
    refine ⟨_, rfl, _, rfl, by omega, by omega, ?_⟩
    rw [Int.toNat_natCast]
    refine for_range (fun i σ H' => ∃ (ds : List Nat) (vk vd : Option V), σ = [some (.ref s0), some (.int (many : Nat)), some (.int top), some (.int (24 - (ds.sum : Nat))), some (.str (numS ds)), vk, vd] ∧
      ds.length = i ∧ (∀ d ∈ ds, 1 ≤ d ∧ d ≤ 9) ∧ ds.sum + (many - i) ≤ 24 ∧ Src H' s0 a b (n + 2 + i) ∧ But2 s0 a H H')
      ⟨[], none, none, by rw [numS_nil]; rfl, rfl, fun _ m => absurd m (List.not_mem_nil), by show 0 + (many - 0) ≤ 24; omega, bag3, but3⟩ (fun i σ H' hi hP => ?_) (fun σ H' hP => ?_)
    · obtain ⟨ds, vk, vd, rfl, el, hd, hs, bag, but⟩ := hP
      have eL : ((24 : Int) - (ds.sum : Nat)) - ((many : Nat) - 1 - (0 + (i : Nat))) = ((24 - ds.sum - (many - 1 - i) : Nat) : Int) := by omega
      refine ⟨_, rfl, _, rfl, _, rfl, _, rfl, _, _, rfl, rfl, _, rfl, _, _, rfl, rfl, _, _, rfl, rfl, _, _, rfl, ?_⟩
      (try dsimp only; rw [eL])
      generalize hlim : (if ((24 - ds.sum - (many - 1 - i) : Nat) : Int) < top then ((24 - ds.sum - (many - 1 - i) : Nat) : Int) else top) = lim
      have lim1 : 1 ≤ lim ∧ lim ≤ 9 ∧ lim ≤ ((24 - ds.sum - (many - 1 - i) : Nat) : Int) := by
        rw [← hlim]
        split <;> omega
      refine ⟨s0, a, b, n + 2 + i, lim, rfl, by omega, by omega, bag, by omega, fun H3 g q0 q1 bag4 but4 => ?_⟩
      refine ⟨_, _, rfl, rfl, ?_⟩
      have mid : ∃ d : Nat, (1 : Int) + g = (d : Nat) ∧ (1 ≤ d ∧ d ≤ 9) ∧ ds.sum + d + (many - 1 - i) ≤ 24 := ⟨(1 + g).toNat, by omega, by omega, by omega⟩
      obtain ⟨d, ed, hd9, hsum⟩ := mid
      (try dsimp only; rw [ed])
      refine ⟨_, rfl, _, rfl, _, rfl, dig_log hd9, _, _, rfl, rfl, ?_, ?_⟩
      · rw [dig_str hd9, numS_len, numS_len]
        exact Nat.le_of_lt (small1000 (by show ds.length + 1 ≤ 1000; omega))
      rw [dig_str hd9, numS_app]
      refine ⟨_, rfl, _, rfl, _, _, rfl, rfl, ?_⟩
      have e3 : (24 : Int) - (ds.sum : Nat) - (d : Nat) = 24 - ((ds ++ [d]).sum : Nat) := by rw [sum_snoc]; omega
      (try dsimp only; rw [e3])
      exact ⟨ds ++ [d], _, _, rfl, by rw [len_snoc, el], dig_snoc hd hd9, by rw [sum_snoc]; omega, bag4, but.trans but4⟩
    · obtain ⟨ds, vk, vd, rfl, el, hd, hs, bag, but⟩ := hP
      refine ⟨_, rfl, kk _ ds ⟨by omega, by omega, hd, by omega⟩ (bag.mono (by omega)) but⟩
end
end K18

namespace K18
open PySem L2 Wm TL Dv
section
variable {P : Program} {w : World} {K : PySem.W.Frag} {mg : Str → Option Value} {base : Heap}
theorem walk_rngL {lo : Int} {n : Nat} : Walk (Itr lo n) n (fun _ => True) (YAt ((List.range n).map fun (i : Nat) => V.int (lo + (i : Int)))) :=
  walk_range.mono (fun _ h => h) fun i H x H' hi _ y => ⟨y.1, by rw [List.getElem?_map, List.getElem?_range hi, y.2]; rfl⟩
theorem nodup_le {α : Type} [DecidableEq α] : ∀ (l D : List α), l.Nodup → (∀ x ∈ l, x ∈ D) → l.length ≤ D.length
  | [], _, _, _ => Nat.zero_le _
  | x :: l, D, hn, hs => by
    obtain ⟨h1, h2⟩ := List.nodup_cons.mp hn
    have hx : x ∈ D := hs x List.mem_cons_self
    have ih := nodup_le l (D.erase x) h2 fun y hy => by
      have hne : y ≠ x := fun e => h1 (e ▸ hy)
      exact (List.mem_erase_of_ne hne).2 (hs y (List.mem_cons_of_mem _ hy))
    have e := List.length_erase_of_mem hx
    have hp : 0 < D.length := List.length_pos_of_mem hx
    rw [List.length_cons]
    omega
def poolN (k : Nat) : List Nat := [k / 9 + 1, k % 9 + 1]
def pool : List Str := (List.range 81).map fun k => numS (poolN k)
theorem pool_str : ∀ k : Nat, k < 81 → Str.ofString (toString ((11 : Int) + (k : Int) + ((k : Int).fdiv 9))) = numS (poolN k) := by decide +kernel
theorem pool_small : ∀ k : Nat, k < 81 → ((11 : Int) + (k : Int) + ((k : Int).fdiv 9)).natAbs.log2 < 1920 := by decide +kernel
theorem pool_nd : pool.Nodup := by decide +kernel
theorem pool_len : pool.length = 81 := by unfold pool; rw [List.length_map, List.length_range]
theorem pool_num {k : Nat} (h : k < 81) : Num (poolN k) := ⟨by show 1 ≤ 2; omega, by show 2 ≤ 4; omega, fun d m => by
  rcases List.mem_cons.mp m with e | m
  · omega
  · rw [List.mem_singleton.mp m]; omega, by show k / 9 + 1 + (k % 9 + 1 + 0) ≤ 24; omega⟩
theorem pool_mem {x : Str} (h : x ∈ pool) : ∃ ds, Num ds ∧ x = numS ds := by
  obtain ⟨k, m, e⟩ := List.mem_map.mp h
  exact ⟨poolN k, pool_num (List.mem_range.mp m), e.symm⟩
theorem pool_ne {ts : List Str} (h : ts.length ≤ 40) : ∃ x r, (pool.filter fun x => !decide (x ∈ ts)) = x :: r ∧ x ∈ pool ∧ x ∉ ts := by
  cases e : pool.filter fun x => !decide (x ∈ ts) with
  | nil =>
    have q := nodup_le pool ts pool_nd fun x m => by
      have z := List.filter_eq_nil_iff.mp e x m
      simpa using z
    rw [pool_len] at q
    omega
  | cons x r =>
    have m : x ∈ pool.filter fun x => !decide (x ∈ ts) := by rw [e]; exact List.mem_cons_self
    obtain ⟨m1, m2⟩ := List.mem_filter.mp m
    exact ⟨x, r, rfl, m1, by simpa using m2⟩
theorem flat_strs (ts : List Str) : (ts.map V.str).all flatV = true := by
  rw [List.all_map]
  exact List.all_eq_true.mpr fun _ _ => rfl
theorem in_strs (x : Str) : ∀ ts : List Str, inV (.str x) (ts.map V.str) = decide (x ∈ ts)
  | [] => rfl
  | t :: ts => by
    have ih := in_strs x ts
    unfold inV at ih ⊢
    rw [List.map_cons, List.any_cons, ih]
    show ((t == x) || decide (x ∈ ts)) = _
    by_cases q : t = x
    · subst q
      simp
    · have q2 : ¬ x = t := fun e => q e.symm
      simp [q, q2]
theorem filt_yes {ts : List Str} {x : Str} (c : (if true = true then !decide (x ∈ ts) else decide (x ∈ ts)) = true) : ([x].filter fun x => !decide (x ∈ ts)) = [x] := List.filter_cons_of_pos (by simpa using c)
theorem filt_no {ts : List Str} {x : Str} (c : ¬ (if true = true then !decide (x ∈ ts) else decide (x ∈ ts)) = true) : ([x].filter fun x => !decide (x ∈ ts)) = [] := by
  rw [List.filter_cons_of_neg (by simpa using c)]
  rfl
theorem take_snoc {α : Type} {xs : List α} {i : Nat} {x : α} (h : xs[i]? = some x) : xs.take (i + 1) = xs.take i ++ [x] := by
  rw [List.take_add_one, h]
  rfl
theorem ok_fresh (T : Txt K mg) : FnOk P w K mg base CX0 3 T.a_fresh T.d_fresh ["_law_source_here", "_law_taken"] (sp_fresh K) := by
  refine T.F_fresh.ok sc_fresh (fun vs H Q E h => ?_) (fun cdv A outer s H vs Q E hr h => ?_)
  · obtain ⟨s0, a, b, t, n, ts, rfl, _⟩ := h
    rfl
  · obtain ⟨s0, a, b, t, n, ts, rfl, hbag, hn, ht, ns, na, hl, kk⟩ := h
    refine ⟨_, (pss_cons (ps_set (i := 2) sc_fresh.nd rfl (Or.inl rfl) (pe_call (ok_number T) (hr.mono (by decide)) (by rfl) T.g_number T.F_number.kp T.b_number .nil pass0 (pa_cons (pv 0) pa_nil)))
      (pss_cons (ps_if (pt_cmpR op_notIn_seq (pv 2) (pv 1) rfl)
        (pss_one (ps_ret (pv 2)))
        pss_nil)
      (pss_cons (ps_setLc (i := 3) (own := [("_law_k", 4)]) (g := gName 4) (tt := tYes) rfl sc_fresh.nd rfl rfl (sw_true rfl rfl rfl (by decide +kernel)) (pi_range1 (by rfl) T.z_range (pa_cons pe_int pa_nil)) (blkOk_by (own := [("_law_k", 4)]) (N := nm_fresh) (sc := (defScope s_fresh)) (by decide +kernel)) (fun _ _ _ _ _ => pg_name (i := 4) sc_fresh.nd rfl (Or.inl rfl)) (fun _ _ _ _ _ => pts_nil) (fun _ _ _ _ _ => (pe_callTy call_str_int (by rfl) T.z_str (by decide +kernel) (pa_cons (pe_op op_add (pe_op op_add pe_int (pv 4)) (pe_op op_fdivN (pv 4) pe_int)) pa_nil))))
      (pss_one (ps_ret (pe_ix ix_list (pe_lc (own := [("_law_other", 5)]) (g := gName 5) rfl sc_fresh.nd (pi_list (pv 3)) (blkOk_by (own := [("_law_other", 5)]) (N := nm_fresh) (sc := (defScope s_fresh)) (by decide +kernel)) (fun _ _ _ _ _ => pg_name (i := 5) sc_fresh.nd rfl (Or.inl rfl)) (fun _ _ _ _ _ => (pts_one (pt_cmpR (show OpR _ _ (rIn K true) from op_notIn_seq) (pv 5) (pv 1) rfl))) (fun _ _ _ _ _ => (pv 5))) pe_int (fun _ _ => rfl))))))), ?_⟩
    refine ⟨_, rfl, s0, a, b, n, rfl, hbag, by omega, fun H1 ds nm bag1 but1 => ?_⟩
    have ht1 := but1.keep _ _ ns na ht
    refine ⟨_, rfl, _, rfl, t, _, rfl, .inl (SqL.of ht1), rfl, flat_strs ts, _, rfl, ite2 (fun c => ?_) (fun c => ?_)⟩
    · have nin : numS ds ∉ ts := by
        rw [in_strs] at c
        simpa using c
      exact ⟨_, rfl, kk _ ds nm nin bag1 but1⟩
    clear c
    refine ⟨_, rfl, by decide, by decide, fun D hD => ?_⟩
    refine Lm.lc_map (K := K) (walk_rngL (lo := 0) (n := 81)) (fun i y _ => (pool.map V.str)[i]? = some y) (fun _ _ _ _ h _ => h) hD (by decide) (fun _ _ => trivial) (fun i x H' hi hx sm Q2 Z q => ?_) (fun H2 ys s2 hy ly hR => ?_)
    · rw [List.getElem?_map, List.getElem?_range hi] at hx
      cases Option.some.inj hx
      refine ⟨rfl, yesT ?_⟩
      refine ⟨_, rfl, _, _, rfl, rfl, _, rfl, _, _, rfl, rfl, ⟨by decide, by decide⟩, _, _, rfl, rfl, ?_⟩
      rw [Int.zero_add]
      refine ⟨_, rfl, pool_small i hi, ?_⟩
      rw [pool_str i hi]
      refine q _ _ (Same.refl _) ?_
      unfold pool
      rw [List.getElem?_map, List.getElem?_map, List.getElem?_range hi]
      rfl
    have ey : ys = pool.map V.str := Lm.list_is (by rw [ly, List.length_map, pool_len]) hR
    subst ey
    have ht2 := s2 _ _ ht1
    refine ⟨_, rfl, D, rfl, ⟨_, SqL.of hy⟩, fun A1 hA1 => ?_⟩
    refine lc_list (xs := pool.map V.str) (fun i H' => Same H2 H' ∧ H' A1 = some (.lst (((pool.take i).filter fun x => !decide (x ∈ ts)).map V.str))) ⟨same_new hA1, upd_same⟩ (fun i H3 _ hP => SqL.of (hP.1 _ _ hy)) (fun i x H3 hx hP => ?_) (fun H3 hP => ?_)
    · obtain ⟨sm, hq⟩ := hP
      rw [List.getElem?_map] at hx
      obtain ⟨x, hx1, rfl⟩ := Option.map_eq_some_iff.mp hx
      have hi : i < 81 := by rw [← pool_len]; exact (List.getElem?_eq_some_iff.mp hx1).1
      have lq : ((pool.take i).filter fun x => !decide (x ∈ ts)).length ≤ 81 := Nat.le_trans (List.length_filter_le _ _) (by rw [List.length_take]; omega)
      have sn := take_snoc hx1
      refine ⟨rfl, ?_⟩
      refine ⟨_, rfl, _, rfl, t, _, rfl, .inl (SqL.of (sm _ _ ht2)), rfl, flat_strs ts, _, rfl, ite2 (fun c => ?_) (fun c => ?_)⟩
      · rw [in_strs] at c
        refine ⟨_, rfl, _, hq, by rw [List.length_map]; exact small1000 (by omega), same_mut sm hA1, ?_⟩
        rw [upd_same, sn, List.filter_append, List.map_append, filt_yes c]
        rfl
      · rw [in_strs] at c
        refine ⟨sm, ?_⟩
        rw [hq, sn, List.filter_append, filt_no c, List.append_nil]
    obtain ⟨s3, h3⟩ := hP
    rw [List.length_map, List.take_length] at h3
    obtain ⟨x, r, e, mp, nin⟩ := pool_ne hl
    rw [e] at h3
    obtain ⟨es, ne, rfl⟩ := pool_mem mp
    refine ⟨A1, _, 0, _, rfl, rfl, SqL.of h3, atI_nat (j := 0) rfl, ?_⟩
    have s13 := s2.trans s3
    exact kk _ es ne nin (bag1.keep s13) (but1.trans (But2.of s13))
end
end K18

namespace K18
open PySem L2 Wm TL Dv
section
variable {P : Program} {w : World} {K : PySem.W.Frag} {mg : Str → Option Value} {base : Heap}
theorem But2.kt {s a b : Addr} {n : Nat} {H H' : Hp} (hb : Src H s a b n) (bt : But2 s a H H') : Kt K H H' := fun p xs q => by
  obtain ⟨x, m, ns, ms, h1, h2, h3, h4⟩ := hb
  have ne : ∀ o, H p = some o → (∀ l, o ≠ .lst l) → p ≠ s ∧ p ≠ a := fun o e k => ⟨fun z => by subst z; rw [h1] at e; exact k _ (Option.some.inj e).symm, fun z => by subst z; rw [h2] at e; exact k _ (Option.some.inj e).symm⟩
  rcases q with (q | ⟨ob, q⟩) | q
  · have z := ne _ q (fun _ e => by cases e)
    exact .inl (.inl (bt.keep _ _ z.1 z.2 q))
  · have z := ne _ q (fun _ e => by cases e)
    exact .inl (.inr ⟨ob, bt.keep _ _ z.1 z.2 q⟩)
  · exact .inr q
theorem Src.off {s a b : Addr} {n : Nat} {H : Hp} (hb : Src H s a b n) {t : Addr} (ht : H t = none) : t ≠ s ∧ t ≠ a ∧ t ≠ b := by
  obtain ⟨x, m, ns, ms, h1, h2, h3, h4⟩ := hb
  exact ⟨fun e => (by rw [e, h1] at ht; cases ht), fun e => (by rw [e, h2] at ht; cases ht), fun e => (by rw [e, h3] at ht; cases ht)⟩
/-- a store elsewhere -/
theorem Src.set {s a b : Addr} {n : Nat} {H : Hp} (hb : Src H s a b n) {t : Addr} {o : HO} (h : t ≠ s ∧ t ≠ a ∧ t ≠ b) : Src (upd H t o) s a b n := by
  obtain ⟨x, m, ns, ms, h1, h2, h3, h4⟩ := hb
  exact ⟨x, m, ns, ms, by rw [upd_ne (Ne.symm h.1)]; exact h1, by rw [upd_ne (Ne.symm h.2.1)]; exact h2, by rw [upd_ne (Ne.symm h.2.2)]; exact h3, h4⟩
/-- a store at what is new -/
theorem But2.mut {s a : Addr} {H H' : Hp} (bt : But2 s a H H') {t : Addr} {o : HO} (h : H t = none) : But2 s a H (upd H' t o) := ⟨fun p u n1 n2 q => by
  rw [upd_ne (fun e => by rw [e, h] at q; cases q)]
  exact bt.keep p u n1 n2 q⟩
theorem But2.free {s a b : Addr} {n : Nat} {H H' : Hp} (bt : But2 s a H H') (hb : Src H' s a b n) {t : Addr} (h : H' t = none) : H t = none := by
  have z := hb.off h
  cases e : H t with
  | none => rfl
  | some o => rw [bt.keep _ _ z.1 z.2.1 e] at h; cases h
theorem ite_sort {c : Bool} {σ : L2.St} {H : Hp} {k : VK} (h : ∀ b, k (.str (sortS b)) H) : if c = true then tC (.str ("shy" : Str)) σ H k else tC (.str ("plain" : Str)) σ H k := by
  cases c
  · exact h false
  · exact h true
theorem flat_snoc (ls : List (List Box)) (l : List Box) : (ls ++ [l]).flatten = ls.flatten ++ l := by simp
def numT (b : Box) : Str := numS b.1
def numsT (ls : List (List Box)) : List Str := ls.flatten.map numT
theorem ok_loops (T : Txt K mg) : FnOk P w K mg base CX0 4 T.a_loops T.d_loops ["_law_source_here", "_law_shy"] (sp_loops K) := by
  refine T.F_loops.ok sc_loops (fun vs H Q E h => ?_) (fun cdv A outer s H vs Q E hr h => ?_)
  · obtain ⟨s0, a, b, n, rfl, _⟩ := h
    rfl
  · obtain ⟨s0, a, b, n, rfl, hbag, hn, kk⟩ := h
    refine ⟨_, (pss_cons (ps_set (i := 2) sc_loops.nd rfl (Or.inl rfl) (pe_lst pa_nil))
      (pss_cons (ps_set (i := 3) sc_loops.nd rfl (Or.inl rfl) (pe_lst pa_nil))
      (pss_cons (ps_for PassesOwn.never rfl (pi_range1 (by rfl) T.z_range (pa_cons (pe_op op_add pe_int (pe_call (ok_draw T) (hr.mono (by decide)) (by rfl) T.g_draw T.F_draw.kp T.b_draw .nil pass0 (pa_cons (pv 0) (pa_cons pe_int pa_nil)))) pa_nil)) (pg_name (i := 4) sc_loops.nd rfl (Or.inl rfl))
        (pss_cons (ps_set (i := 5) sc_loops.nd rfl (Or.inl rfl) (pe_op op_add pe_int (pe_call (ok_draw T) (hr.mono (by decide)) (by rfl) T.g_draw T.F_draw.kp T.b_draw .nil pass0 (pa_cons (pv 0) (pa_cons pe_int pa_nil)))))
        (C8.pss_cut (ps_if (pt_cmpR op_eq (pe_call (ok_draw T) (hr.mono (by decide)) (by rfl) T.g_draw T.F_draw.kp T.b_draw .nil pass0 (pa_cons (pv 0) (pa_cons pe_int pa_nil))) pe_int (nomark _))
          (pss_one (ps_set (i := 5) sc_loops.nd rfl (Or.inl rfl) (pe_op op_add pe_int (pe_call (ok_draw T) (hr.mono (by decide)) (by rfl) T.g_draw T.F_draw.kp T.b_draw .nil pass0 (pa_cons (pv 0) (pa_cons pe_int pa_nil))))))
          pss_nil)
        (pss_cons (ps_set (i := 6) sc_loops.nd rfl (Or.inl rfl) (pe_lst pa_nil))
        (pss_cons (ps_for PassesOwn.never rfl (pi_range1 (by rfl) T.z_range (pa_cons (pv 5) pa_nil)) (pg_name (i := 7) sc_loops.nd rfl (Or.inl rfl))
          (pss_cons (ps_set (i := 8) sc_loops.nd rfl (Or.inl rfl) (pe_call (ok_fresh T) (hr.mono (by decide)) (by rfl) T.g_fresh T.F_fresh.kp T.b_fresh .nil pass0 (pa_cons (pv 0) (pa_cons (pv 2) pa_nil))))
          (pss_cons (ps_expr (pe_bm PySem.F.plainAttrs_list PySem.F.slot_list_append PySem.F.type_list_append mt_append (pv 2) (pa_cons (pv 8) pa_nil)))
          (pss_one (ps_expr (pe_bm PySem.F.plainAttrs_list PySem.F.slot_list_append PySem.F.type_list_append mt_append (pv 6) (pa_cons (pe_tup (pa_cons (pv 8) (pa_cons (pe_ifExp (PW.pt (pw_or (pt_val (pv 1)) (pw_or1 (pt_cmpR op_eq (pe_call (ok_draw T) (hr.mono (by decide)) (by rfl) T.g_draw T.F_draw.kp T.b_draw .nil pass0 (pa_cons (pv 0) (pa_cons pe_int pa_nil))) pe_int (nomark _))))) pe_str pe_str) pa_nil))) pa_nil)))))))
        (pss_one (ps_expr (pe_bm PySem.F.plainAttrs_list PySem.F.slot_list_append PySem.F.type_list_append mt_append (pv 3) (pa_cons (pe_callTy call_tuple_of (by rfl) T.z_tuple (by decide +kernel) (pa_cons (pv 6) pa_nil)) pa_nil)))))))))
      (pss_one (ps_ret (pe_callTy call_tuple_of (by rfl) T.z_tuple (by decide +kernel) (pa_cons (pv 3) pa_nil))))))), ?_⟩
    refine ⟨Nat.zero_le _, fun t ht => ?_⟩
    have to := hbag.off ht
    have bag1 : Src (upd H t (.lst [])) s0 a b n := hbag.keep (same_new ht)
    have s1 : Same H (upd H t (.lst [])) := same_new ht
    have ht1 : upd H t (.lst []) t = some (.lst []) := upd_same
    generalize upd H t (.lst []) = H1 at *
    refine ⟨Nat.zero_le _, fun l hl => ?_⟩
    have lo := bag1.off hl
    have bag2 : Src (upd H1 l (.lst [])) s0 a b n := bag1.keep (same_new hl)
    have s2 : Same H (upd H1 l (.lst [])) := s1.trans (same_new hl)
    have hl0 : H l = none := s1.free hl
    have tl : t ≠ l := fun e => by rw [e, hl] at ht1; cases ht1
    have ht2 := at_old (u := .lst []) ht1 hl
    have hl2 : upd H1 l (.lst []) l = some (.lst []) := upd_same
    generalize upd H1 l (.lst []) = H2 at *
    refine ⟨_, rfl, s0, a, b, n, 3, rfl, by decide, by decide, bag2, by omega, fun H3 d g0 g1 bag3 but3 => ?_⟩
    have ht3 := but3.keep _ _ to.1 to.2.1 ht2
    have hl3 := but3.keep _ _ lo.1 lo.2.1 hl2
    have but03 : But2 s0 a H H3 := (But2.of s2).trans but3
    obtain ⟨many, em⟩ : ∃ many : Nat, (1 : Int) + d = (many : Nat) := ⟨(1 + d).toNat, by omega⟩
    refine ⟨_, _, rfl, rfl, _, rfl, by omega, by omega, ?_⟩
    rw [em, Int.toNat_natCast]
    refine for_range (fun i σ H' => ∃ (ls : List (List Box)) (xs : List V) (v4 v5 v6 v7 v8 : Option V), σ = [some (.ref s0), some (.bl false), some (.ref t), some (.ref l), v4, v5, v6, v7, v8] ∧
      ls.length = i ∧ (∀ l ∈ ls, 1 ≤ l.length) ∧ (∀ l ∈ ls, l.length ≤ 10) ∧ Bs ls.flatten ∧ (numsT ls).Nodup ∧ H' t = some (.lst ((numsT ls).map V.str)) ∧ H' l = some (.lst xs) ∧ Dts K H' xs (ls.map loopD) ∧
      Src H' s0 a b (n + 1 + i * 80) ∧ But2 s0 a H H')
      ⟨[], [], none, none, none, none, none, rfl, rfl, by simp, by simp, fun _ m => by simp at m, by simp [numsT], ht3, hl3, .nil, bag3, but03⟩ (fun i σ H' hi hP => ?_) (fun σ H' hP => ?_)
    · obtain ⟨ls, xs, v4, v5, v6, v7, v8, rfl, el, b1, b2, num, nd, hT, hL, hD, bag, but⟩ := hP
      refine ⟨_, rfl, s0, a, b, _, 3, rfl, by decide, by decide, bag, by omega, fun H4 d4 g40 g41 bag4 but4 => ?_⟩
      obtain ⟨m4, em4⟩ : ∃ m4 : Nat, (1 : Int) + d4 = (m4 : Nat) := ⟨(1 + d4).toNat, by omega⟩
      refine ⟨_, _, rfl, rfl, ?_⟩
      refine ⟨fun σ H7 => ∃ m : Nat, σ = [some (.ref s0), some (.bl false), some (.ref t), some (.ref l), some (.int (0 + (i : Nat))), some (.int (m : Nat)), v6, v7, v8] ∧ 1 ≤ m ∧ m ≤ 10 ∧ Src H7 s0 a b (n + 1 + i * 80 + 3) ∧ But2 s0 a H' H7, ?_, ?_⟩
      · refine ⟨_, rfl, s0, a, b, _, 16, rfl, by decide, by decide, bag4, by omega, fun H5 d5 g50 g51 bag5 but5 => ?_⟩
        refine ⟨rfl, _, rfl, ite2 (fun c => ?_) (fun c => ?_)⟩
        · refine ⟨_, rfl, s0, a, b, _, 10, rfl, by decide, by decide, bag5, by omega, fun H6 d6 g60 g61 bag6 but6 => ?_⟩
          obtain ⟨m6, em6⟩ : ∃ m6 : Nat, (1 : Int) + d6 = (m6 : Nat) := ⟨(1 + d6).toNat, by omega⟩
          refine ⟨_, _, rfl, rfl, ?_⟩
          exact ⟨m6, by rw [← em6]; rfl, by omega, by omega, bag6, (but4.trans but5).trans but6⟩
        · exact ⟨m4, by rw [← em4]; rfl, by omega, by omega, bag5.mono (by omega), but4.trans but5⟩
      rintro σ H7 ⟨m, rfl, m1, m10, bag7, but7⟩
      clear bag4 but4
      have hT7 := but7.keep _ _ to.1 to.2.1 hT
      have hL7 := but7.keep _ _ lo.1 lo.2.1 hL
      have hD7 := hD.k (But2.kt bag but7)
      have butA := but.trans but7
      clear bag but7 hT hL hD but
      refine ⟨Nat.zero_le _, fun r hr => ?_⟩
      have ro := bag7.off hr
      have hr0 : H r = none := But2.free butA bag7 hr
      have tr : t ≠ r := fun e => by rw [e, hr] at hT7; cases hT7
      have lr : l ≠ r := fun e => by rw [e, hr] at hL7; cases hL7
      have hT8 := at_old (u := .lst []) hT7 hr
      have hL8 := at_old (u := .lst []) hL7 hr
      have hD8 := hD7.k (Kt.new (K := K) (o := .lst []) hr)
      have bag8 := bag7.keep (same_new (o := .lst []) hr)
      have but8 := butA.trans (But2.of (same_new (o := .lst []) hr))
      have hr8 : upd H7 r (.lst []) r = some (.lst []) := upd_same
      generalize upd H7 r (.lst []) = H8 at *
      clear hT7 hL7 hD7 bag7 butA
      have fl : ls.flatten.length ≤ 20 := by
        have q := flat_le ls ls.length b2
        rw [List.take_length] at q
        omega
      refine ⟨_, rfl, _, rfl, by omega, by omega, ?_⟩
      rw [Int.toNat_natCast]
      refine for_range (fun j σ H' => ∃ (l4 : List Box) (zs : List V) (v7 v8 : Option V), σ = [some (.ref s0), some (.bl false), some (.ref t), some (.ref l), some (.int (0 + (i : Nat))), some (.int (m : Nat)), some (.ref r), v7, v8] ∧
        l4.length = j ∧ Bs (ls.flatten ++ l4) ∧ ((ls.flatten ++ l4).map numT).Nodup ∧ H' t = some (.lst (((ls.flatten ++ l4).map numT).map V.str)) ∧ H' l = some (.lst xs) ∧ H' r = some (.lst zs) ∧ Dts K H' zs (l4.map boxD) ∧ Dts K H' xs (ls.map loopD) ∧
        Src H' s0 a b (n + 1 + i * 80 + 3 + j * 7) ∧ But2 s0 a H H')
        ⟨[], [], v7, v8, rfl, rfl, by rw [List.append_nil]; exact num, by rw [List.append_nil]; exact nd, by rw [List.append_nil]; exact hT8, hL8, hr8, .nil, hD8, bag8, but8⟩ (fun j σ H' hj hP => ?_) (fun σ H' hP => ?_)
      · obtain ⟨l4, zs, v7, v8, rfl, el4, num4, nd4, hT, hL, hR, hZ, hD, bag, but⟩ := hP
        clear hT8 hL8 hD8 bag8 but8 hr8
        refine ⟨_, rfl, _, rfl, s0, a, b, t, _, (ls.flatten ++ l4).map numT, rfl, bag, by omega, hT, to.1, to.2.1, by rw [List.length_map, List.length_append]; omega, fun H5 ds nm nin bag5 but5 => ?_⟩
        have hT5 := but5.keep _ _ to.1 to.2.1 hT
        have hL5 := but5.keep _ _ lo.1 lo.2.1 hL
        have hR5 := but5.keep _ _ ro.1 ro.2.1 hR
        have kt5 := But2.kt (K := K) bag but5
        refine ⟨_, rfl, .inl ⟨rfl, _, SqL.of hT5⟩, _, rfl, t, _, _, rfl, rfl, hT5, small1000 (by rw [List.length_map, List.length_map, List.length_append]; omega), ?_⟩
        have kt6 : Kt K H5 (upd H5 t (.lst (((ls.flatten ++ l4).map numT).map V.str ++ [.str (numS ds)]))) := Kt.lst hT5
        have bag6 : Src (upd H5 t (.lst (((ls.flatten ++ l4).map numT).map V.str ++ [.str (numS ds)]))) s0 a b _ := bag5.set to
        have but6 : But2 s0 a H (upd H5 t (.lst (((ls.flatten ++ l4).map numT).map V.str ++ [.str (numS ds)]))) := (but.trans but5).mut ht
        have hL6 : upd H5 t (.lst (((ls.flatten ++ l4).map numT).map V.str ++ [.str (numS ds)])) l = some (.lst xs) := by rw [upd_ne (Ne.symm tl)]; exact hL5
        have hR6 : upd H5 t (.lst (((ls.flatten ++ l4).map numT).map V.str ++ [.str (numS ds)])) r = some (.lst zs) := by rw [upd_ne (Ne.symm tr)]; exact hR5
        have hT6 : upd H5 t (.lst (((ls.flatten ++ l4).map numT).map V.str ++ [.str (numS ds)])) t = some (.lst (((ls.flatten ++ l4).map numT).map V.str ++ [.str (numS ds)])) := upd_same
        have hZ6 := (hZ.k kt5).k kt6
        have hD6 := (hD.k kt5).k kt6
        generalize upd H5 t (.lst (((ls.flatten ++ l4).map numT).map V.str ++ [.str (numS ds)])) = H6 at *
        clear kt6 kt5 hZ hD hT5 hL5 hR5 bag5 but5 hT hL hR bag but
        refine ⟨_, rfl, .inl ⟨rfl, _, SqL.of hR6⟩, _, rfl, ?_⟩
        refine ⟨_, rfl, _, rfl, iteF ⟨_, rfl, s0, a, b, _, 2, rfl, by decide, by decide, bag6, by omega, fun H7 d7 g70 g71 bag7 but7 => ⟨rfl, _, rfl, ?_⟩⟩⟩
        have hT7 := but7.keep _ _ to.1 to.2.1 hT6
        have hL7 := but7.keep _ _ lo.1 lo.2.1 hL6
        have hR7 := but7.keep _ _ ro.1 ro.2.1 hR6
        have kt7 := But2.kt (K := K) bag6 but7
        refine ite_sort fun bs => ⟨by show 2 ≤ sizeLine; decide, fun p hp => ?_⟩
        have hT8 := at_old (u := .tup [.str (numS ds), .str (sortS bs)]) hT7 hp
        have hL8 := at_old (u := .tup [.str (numS ds), .str (sortS bs)]) hL7 hp
        have hR8 := at_old (u := .tup [.str (numS ds), .str (sortS bs)]) hR7 hp
        have hp8 : upd H7 p (.tup [.str (numS ds), .str (sortS bs)]) p = some (.tup [.str (numS ds), .str (sortS bs)]) := upd_same
        have hZ8 := (hZ6.k kt7).k (Kt.new (K := K) (o := .tup [.str (numS ds), .str (sortS bs)]) hp)
        have hD8 := (hD6.k kt7).k (Kt.new (K := K) (o := .tup [.str (numS ds), .str (sortS bs)]) hp)
        have bag8 := bag7.keep (same_new (o := .tup [.str (numS ds), .str (sortS bs)]) hp)
        have but8 := (but6.trans but7).trans (But2.of (same_new (o := .tup [.str (numS ds), .str (sortS bs)]) hp))
        generalize upd H7 p (.tup [.str (numS ds), .str (sortS bs)]) = H8 at *
        have bx : Dt K H8 (.ref p) (boxD (ds, bs)) := dt_tup hp8 (.cons (.str _) (.cons (.str _) .nil))
        have lz := hZ8.len
        rw [List.length_map] at lz
        refine ⟨r, _, _, rfl, rfl, hR8, small1000 (by omega), ?_⟩
        have k9 : Kt K H8 (upd H8 r (.lst (zs ++ [.ref p]))) := Kt.lst hR8
        refine ⟨l4 ++ [(ds, bs)], zs ++ [.ref p], _, _, rfl, by rw [List.length_append, el4]; rfl, ?_, ?_, ?_, ?_, upd_same, ?_, hD8.k k9, ?_, but8.mut hr0⟩
        · rw [← List.append_assoc]
          intro x m
          rcases List.mem_append.mp m with m | m
          · exact num4 x m
          · rw [List.mem_singleton.mp m]
            exact nm
        · rw [← List.append_assoc, List.map_append]
          refine List.nodup_append.mpr ⟨nd4, by simp, fun x m y my => ?_⟩
          have ey : y = numS ds := by simpa [numT] using my
          intro e
          exact nin (by rw [← ey, ← e]; exact m)
        · rw [upd_ne tr, hT8, ← List.append_assoc, List.map_append (l₁ := ls.flatten ++ l4), List.map_append (f := V.str)]
          rfl
        · rw [upd_ne lr]
          exact hL8
        · rw [List.map_append]
          exact (hZ8.snoc bx).k k9
        · exact (bag8.set ro).mono (by omega)
      · obtain ⟨l4, zs, v7, v8, rfl, el4, num4, nd4, hT, hL, hR, hZ, hD, bag, but⟩ := hP
        clear hT8 hL8 hD8 bag8 but8 hr8
        have ly := hD.len
        rw [List.length_map] at ly
        refine ⟨_, rfl, .inl ⟨rfl, _, SqL.of hL⟩, _, rfl, r, zs, rfl, .inl ⟨SqL.of hR, fun q hq => ?_⟩⟩
        have hT2 := at_old (u := .tup zs) hT hq
        have hL2 := at_old (u := .tup zs) hL hq
        have hq2 : upd H' q (.tup zs) q = some (.tup zs) := upd_same
        have hZ2 := hZ.k (Kt.new (K := K) (o := .tup zs) hq)
        have hD2 := hD.k (Kt.new (K := K) (o := .tup zs) hq)
        have bag2 := bag.keep (same_new (o := .tup zs) hq)
        have but2 := but.trans (But2.of (same_new (o := .tup zs) hq))
        generalize upd H' q (.tup zs) = H2 at *
        have lp : Dt K H2 (.ref q) (loopD l4) := dt_tup hq2 hZ2
        refine ⟨l, _, _, rfl, rfl, hL2, small1000 (by omega), ?_⟩
        have k9 : Kt K H2 (upd H2 l (.lst (xs ++ [.ref q]))) := Kt.lst hL2
        refine ⟨ls ++ [l4], xs ++ [.ref q], _, _, _, _, _, rfl, by rw [List.length_append, el]; rfl, ?_, ?_, ?_, ?_, ?_, upd_same, ?_, ?_, but2.mut hl0⟩
        · intro x mx
          rcases List.mem_append.mp mx with mx | mx
          · exact b1 x mx
          · rw [List.mem_singleton.mp mx]
            omega
        · intro x mx
          rcases List.mem_append.mp mx with mx | mx
          · exact b2 x mx
          · rw [List.mem_singleton.mp mx]
            omega
        · rw [flat_snoc]
          exact num4
        · unfold numsT
          rw [flat_snoc]
          exact nd4
        · unfold numsT
          rw [upd_ne tl, flat_snoc]
          exact hT2
        · rw [List.map_append]
          exact (hD2.snoc lp).k k9
        · exact (bag2.set lo).mono (by omega)
    · obtain ⟨ls, xs, v4, v5, v6, v7, v8, rfl, el, b1, b2, num, nd, hT, hL, hD, bag, but⟩ := hP
      refine ⟨_, rfl, l, xs, rfl, .inl ⟨SqL.of hL, fun q hq => ?_⟩⟩
      refine kk _ _ ls ⟨by omega, by omega, b1, b2, num, nd⟩ (dt_tup upd_same (hD.k (Kt.new hq))) ((bag.mono (by omega)).keep (same_new hq)) (but.trans (But2.of (same_new hq)))
end
end K18

namespace K18
open PySem L2 Wm TL Dv
section
variable {P : Program} {w : World} {K : PySem.W.Frag} {mg : Str → Option Value} {base : Heap}
theorem loops_at {H : Hp} {xs : List V} {ls : List (List Box)} {i : Nat} {x : V} (h : Dts K H xs (ls.map loopD)) (hx : xs[i]? = some x) : ∃ l, ls[i]? = some l ∧ Dt K H x (loopD l) := by
  obtain ⟨d, e, t⟩ := h.at hx
  rw [List.getElem?_map] at e
  obtain ⟨l, el, rfl⟩ := Option.map_eq_some_iff.mp e
  exact ⟨l, el, t⟩
theorem loops_len {H : Hp} {xs : List V} {ls : List (List Box)} (h : Dts K H xs (ls.map loopD)) : xs.length = ls.length := by rw [h.len, List.length_map]
theorem dts_cut {H : Hp} (ks : List Nat) : Dts K H (cutV' ks) (ks.map fun (k : Nat) => PyData.int (k : Int)) := by
  have q := dts_int (K := K) (H := H) (ks.map fun (k : Nat) => (k : Int))
  rw [List.map_map, List.map_map] at q
  exact q
theorem ite_lim {c : Bool} {σ : L2.St} {H : Hp} {k : VK} (h : ∀ l : Int, 2 ≤ l → l ≤ 4 → k (.int l) H) : if c = true then tC (.int 2) σ H k else tC (.int 4) σ H k := by
  cases c
  · exact h 4 (by decide) (by decide)
  · exact h 2 (by decide) (by decide)
def numV (b : Box) : V := V.str (numS b.1)
theorem ok_numbers (T : Txt K mg) : FnOk P w K mg base CX0 1 T.a_numbers T.d_numbers ["_law_loops_here"] (sp_numbers K) := by
  refine T.F_numbers.ok sc_numbers (fun vs H Q E h => ?_) (fun cdv A outer s H vs Q E hr h => ?_)
  · obtain ⟨x, ls, rfl, _⟩ := h
    rfl
  · obtain ⟨x, ls, rfl, hx, good, k⟩ := h
    obtain ⟨q, xs, rfl, hS, hd⟩ := hx.inv
    have el := loops_len hd
    refine ⟨_, (pss_cons (ps_set (i := 1) sc_numbers.nd rfl (Or.inl rfl) (pe_lst pa_nil))
      (pss_cons (ps_for PassesOwn.never rfl (pi_tup (pv 0)) (pg_name (i := 2) sc_numbers.nd rfl (Or.inl rfl))
        (pss_one (ps_set (i := 1) sc_numbers.nd rfl (Or.inl rfl) (pe_op op_cat (pv 1) (pe_lc (own := [("_law_number_here", 3), ("_law_sort", 4)]) (g := gTup K 2 (gCons (gName 3) (gCons (gName 4) (gNil)))) (tt := tYes) rfl sc_numbers.nd (pi_tup (pv 2)) (blkOk_by (own := [("_law_number_here", 3), ("_law_sort", 4)]) (N := nm_numbers) (sc := (defScope s_numbers)) (by decide +kernel)) (fun _ _ _ _ _ => (pg_tup rfl (pgs_cons (pg_name (i := 3) sc_numbers.nd rfl (Or.inl rfl)) (pgs_cons (pg_name (i := 4) sc_numbers.nd rfl (Or.inl rfl)) pgs_nil)))) (fun _ _ _ _ _ => pts_nil) (fun _ _ _ _ _ => (pv 3)))))))
      (pss_one (ps_ret (pv 1))))), ?_⟩
    refine ⟨Nat.zero_le _, fun p hp => ?_⟩
    refine ⟨_, rfl, q, rfl, ⟨_, sameT (same_new hp) hS⟩, ?_⟩
    refine for_it walk_tup (fun i σ H' => ∃ (r : Addr) (v2 : Option V), σ = [some (.ref q), some (.ref r), v2, none, none] ∧ Same H H' ∧ H r = none ∧ H' r = some (.lst ((ls.take i).flatten.map numV)))
      ⟨p, none, rfl, same_new hp, hp, upd_same⟩ (fun i σ H' _ h => let ⟨_, _, _, s, _⟩ := h; sameT s hS) (fun i x σ H1 H' hi hP hY => ?_) (fun σ H' hP => ?_)
    · obtain ⟨rfl, hx2⟩ := hY
      obtain ⟨r, v2, rfl, sm, hr0, hr⟩ := hP
      obtain ⟨l, hl, tl⟩ := loops_at hd hx2
      obtain ⟨q2, zs, rfl, hq2, hz⟩ := tl.inv
      have hq3 := sameT sm hq2
      have lz : zs.length = l.length := boxes_len hz
      have l10 := good.b2 _ (List.mem_of_getElem? hl)
      refine ⟨_, rfl, _, rfl, q2, rfl, ⟨_, hq3⟩, fun D hD => ?_⟩
      refine Lm.lc_map (K := K) walk_tup (fun i y _ => (l.map numV)[i]? = some y) (fun _ _ _ _ h _ => h) hD (by omega) (fun H' s => sameT s hq3) (fun j x H' hj hx sm2 Q2 Z q => ?_) (fun H2 ys s2 hy ly hR => ?_)
      · obtain ⟨b, hb, t⟩ := boxes_at hz hx
        obtain ⟨q1, rfl, hq⟩ := box_inv (t.k (Kt.same (sm.trans sm2)))
        refine ⟨q1, _, rfl, hq, rfl, _, _, rfl, _, _, rfl, rfl, rfl, yesT ?_⟩
        refine ⟨_, rfl, q _ _ (Same.refl _) ?_⟩
        rw [List.getElem?_map, hb]
        rfl
      · have ey : ys = l.map numV := Lm.list_is (by rw [ly, List.length_map, lz]) hR
        subst ey
        have fl := flat_take_le ls i
        have gf := good.flat
        refine ⟨r, D, _, _, rfl, rfl, s2 _ _ hr, hy, Nat.le_of_lt (small1000 (by rw [List.length_map, List.length_map]; omega)), fun p2 hp2 => ?_⟩
        refine ⟨p2, _, rfl, (sm.trans s2).trans (same_new hp2), (sm.trans s2).free hp2, ?_⟩
        rw [upd_same, flat_succ hl, List.map_append]
    · obtain ⟨r, v2, rfl, sm, hr0, hr⟩ := hP
      rw [el, List.take_length] at hr
      exact ⟨_, rfl, k _ _ sm hr0 hr⟩
theorem ok_stretches (T : Txt K mg) : FnOk P w K mg base CX0 2 T.a_stretches T.d_stretches ["_law_source_here", "_law_many"] (sp_stretches K) := by
  refine T.F_stretches.ok sc_stretches (fun vs H Q E h => ?_) (fun cdv A outer s H vs Q E hr h => ?_)
  · obtain ⟨s0, a, b, n, m, rfl, _⟩ := h
    rfl
  · obtain ⟨s0, a, b, n, m, rfl, hbag, hn, hm, kk⟩ := h
    refine ⟨_, (pss_cons (ps_set (i := 2) sc_stretches.nd rfl (Or.inl rfl) (pe_call (ok_draw T) (hr.mono (by decide)) (by rfl) T.g_draw T.F_draw.kp T.b_draw .nil pass0 (pa_cons (pv 0) (pa_cons pe_int pa_nil))))
      (pss_cons (ps_if (pt_cmpR op_eq (pv 2) pe_int (nomark _))
        (pss_one (ps_ret (pe_tup pa_nil)))
        pss_nil)
      (pss_cons (ps_set (i := 3) sc_stretches.nd rfl (Or.inl rfl) (pe_lst pa_nil))
      (pss_cons (ps_for PassesOwn.never rfl (pi_range1 (by rfl) T.z_range (pa_cons (pe_op op_add (pv 1) pe_int) pa_nil)) (pg_name (i := 4) sc_stretches.nd rfl (Or.inl rfl))
        (pss_one (ps_if (pt_cmpR op_eq (pe_call (ok_draw T) (hr.mono (by decide)) (by rfl) T.g_draw T.F_draw.kp T.b_draw .nil pass0 (pa_cons (pv 0) (pa_cons (pe_ifExp (pt_cmpR op_eq (pv 2) pe_int (nomark _)) pe_int pe_int) pa_nil))) pe_int (nomark _))
          (pss_one (ps_expr (pe_bm PySem.F.plainAttrs_list PySem.F.slot_list_append PySem.F.type_list_append mt_append (pv 3) (pa_cons (pv 4) pa_nil))))
          pss_nil)))
      (pss_one (ps_ret (pe_callTy call_tuple_of (by rfl) T.z_tuple (by decide +kernel) (pa_cons (pv 3) pa_nil)))))))), ?_⟩
    refine ⟨_, rfl, s0, a, b, n, 4, rfl, by decide, by decide, hbag, by omega, fun H1 kind g0 g1 bag1 but1 => ?_⟩
    refine ⟨_, rfl, rfl, _, rfl, ite2 (fun c => ?_) (fun c => ?_)⟩
    · refine ⟨Nat.zero_le _, fun q hq => ?_⟩
      exact kk _ _ [] ⟨fun _ m => by simp at m, .nil⟩ (dt_tup upd_same .nil) ((bag1.mono (by omega)).keep (same_new hq)) (but1.trans (But2.of (same_new hq)))
    clear c
    refine ⟨Nat.zero_le _, fun r hr => ?_⟩
    have ro := bag1.off hr
    have hr0 : H r = none := But2.free but1 bag1 hr
    have bag2 := bag1.keep (same_new (o := .lst []) hr)
    have but2 := but1.trans (But2.of (same_new (o := .lst []) hr))
    have hr2 : upd H1 r (.lst []) r = some (.lst []) := upd_same
    generalize upd H1 r (.lst []) = H2 at *
    refine ⟨_, rfl, _, _, rfl, rfl, _, rfl, by omega, by omega, ?_⟩
    rw [show ((m : Int) + 1) = ((m + 1 : Nat) : Int) by omega, Int.toNat_natCast]
    refine for_range (fun i σ H' => ∃ (ks : List Nat) (v4 : Option V), σ = [some (.ref s0), some (.int (m : Nat)), some (.int kind), some (.ref r), v4] ∧ ks.length ≤ i ∧ (∀ k ∈ ks, k < i) ∧ ks.Pairwise (· < ·) ∧ H' r = some (.lst (cutV' ks)) ∧
      Src H' s0 a b (n + 1 + i) ∧ But2 s0 a H H')
      ⟨[], none, rfl, Nat.le_refl _, fun _ m => by simp at m, .nil, hr2, bag2, but2⟩ (fun i σ H' hi hP => ?_) (fun σ H' hP => ?_)
    · obtain ⟨ks, v4, rfl, lk, hk, asc, hR, bag, but⟩ := hP
      refine ⟨_, rfl, _, rfl, rfl, _, rfl, ?_⟩
      refine ite_lim fun lim l2 l4 => ⟨s0, a, b, _, lim, rfl, by omega, by omega, bag, by omega, fun H3 d e0 e1 bag3 but3 => ⟨rfl, _, rfl, ite2 (fun c => ?_) (fun c => ?_)⟩⟩
      · have hR3 := but3.keep _ _ ro.1 ro.2.1 hR
        refine ⟨_, rfl, .inl ⟨rfl, _, SqL.of hR3⟩, _, rfl, r, _, _, rfl, rfl, hR3, small1000 (by rw [cut_len]; omega), ?_⟩
        refine ⟨ks ++ [i], _, rfl, by rw [List.length_append, List.length_singleton]; omega, fun k mk => ?_, List.pairwise_append.mpr ⟨asc, by simp, fun x mx y my => ?_⟩, ?_, bag3.set ro, (but.trans but3).mut hr0⟩
        · rcases List.mem_append.mp mk with mk | mk
          · exact Nat.lt_succ_of_lt (hk k mk)
          · rw [List.mem_singleton.mp mk]
            exact Nat.lt_succ_self _
        · rw [List.mem_singleton.mp my]
          exact hk x mx
        · rw [upd_same]
          unfold cutV'
          rw [List.map_append, Int.zero_add]
          rfl
      · exact ⟨ks, _, rfl, by omega, fun k mk => Nat.lt_succ_of_lt (hk k mk), asc, but3.keep _ _ ro.1 ro.2.1 hR, bag3, but.trans but3⟩
    · obtain ⟨ks, v4, rfl, lk, hk, asc, hR, bag, but⟩ := hP
      refine ⟨_, rfl, r, _, rfl, .inl ⟨SqL.of hR, fun q hq => ?_⟩⟩
      exact kk _ _ ks ⟨fun k m => by have := hk k m; omega, asc⟩ (dt_tup upd_same (dts_cut ks)) ((bag.mono (by omega)).keep (same_new hq)) (but.trans (But2.of (same_new hq)))
end
end K18

namespace K18
open PySem L2 Wm TL Dv
section
variable {P : Program} {w : World} {K : PySem.W.Frag} {mg : Str → Option Value} {base : Heap}
theorem lc_filt {P : Program} {w : World} {q : Addr} {ks : List Nat} {f : Nat → Bool} {g : TG} {tt : TT} {te : TE} {vs : List Nat} {σ : L2.St} {H1 : Hp} {D : Addr} {Qd : Hp → Prop} (hD : H1 D = none) (hn : ks.length ≤ 200) (hS : SqT K H1 q (cutV' ks))
    (hs : ∀ (k : Nat) H', Same H1 H' → ∀ (Q : V → Hp → Prop) (Z : Hp → Prop), (f k = true → Q (.int (k : Nat)) H') → (f k = false → Z H') → g (.int (k : Nat)) (wipe σ vs) H' fun σ2 H2 => wipe σ2 vs = wipe σ vs ∧ tt σ2 H2 fun b H3 => if b = true then te σ2 H3 Q else Z H3)
    (hd : ∀ H, Same H1 H → H D = some (.lst (cutV' (ks.filter f))) → Qd H) :
    ∃ W : Nat → Nat → Hp → Prop, (∃ m, W 0 m (upd H1 D (.lst []))) ∧ ∀ i m H, W i m H →
      ((Itt K q).stop i H ∧ Qd H) ∨ ((Itt K q).go i H ∧ ∃ Nx : Hp → Prop, (∀ H', Nx H' → ∃ m', m' < m ∧ W (i + 1) m' H') ∧ ∀ x H', (Itt K q).yld i H x H' → g x (wipe σ vs) H' fun σ2 H2 => wipe σ2 vs = wipe σ vs ∧ tt σ2 H2 fun b H3 =>
        if b = true then te σ2 H3 fun y H4 => ∃ acc, H4 D = some (.lst acc) ∧ acc.length < sizeLine ∧ Nx (upd H4 D (.lst (acc ++ [y]))) else Nx H3) := by
  refine lc_it (walk_tup (xs := cutV' ks)) (fun i H => Same H1 H ∧ H D = some (.lst (cutV' ((ks.take i).filter f)))) ⟨same_new hD, upd_same⟩ (fun i H _ h => sameT h.1 hS) (fun i x H H' hi hP hY => ?_) (fun H hP => ?_)
  · obtain ⟨rfl, hx⟩ := hY
    obtain ⟨sm, hq⟩ := hP
    unfold cutV' at hx
    rw [List.getElem?_map] at hx
    obtain ⟨k, hk, rfl⟩ := Option.map_eq_some_iff.mp hx
    have lq : ((ks.take i).filter f).length ≤ 200 := Nat.le_trans (List.length_filter_le _ _) (by rw [List.length_take]; omega)
    refine hs k _ sm _ _ (fun e => ?_) (fun e => ?_)
    · refine ⟨_, hq, by rw [cut_len]; exact small1000 (by omega), same_mut sm hD, ?_⟩
      rw [upd_same, take_snoc hk, List.filter_append, List.filter_cons_of_pos e]
      unfold cutV'
      rw [List.map_append]
      rfl
    · refine ⟨sm, ?_⟩
      rw [hq, take_snoc hk, List.filter_append, List.filter_cons_of_neg (by rw [e]; decide), List.filter_nil, List.append_nil]
  · obtain ⟨sm, hq⟩ := hP
    rw [cut_len, List.take_length] at hq
    exact hd H sm hq
theorem dp_cut {H : Hp} (ks : List Nat) : DpAll K H (cutV' ks) (ks.map fun (k : Nat) => PyData.int (k : Int)) := (dts_cut ks).toDp
theorem shaped_cut (ks : List Nat) : SeqAt.shaped (.list (ks.map fun (k : Nat) => PyData.int (k : Int))) = true := by
  have q := shaped_il (ks.map fun (k : Nat) => (k : Int))
  rw [List.map_map] at q
  exact q
theorem dec_nil (ks : List Nat) : decide ((ks.map fun (k : Nat) => PyData.int (k : Int)) = []) = ks.isEmpty := by
  cases ks <;> simp
theorem ok_side (T : Txt K mg) : FnOk P w K mg base CX0 1 T.a_side T.d_side ["_law_place", "_law_stretches_here", "_law_side_here"] (sp_side K) := by
  refine T.F_side.ok sc_side (fun vs H Q E h => ?_) (fun cdv A outer s H vs Q E hr h => ?_)
  · obtain ⟨i, y, ks, c, rfl, _⟩ := h
    rfl
  · obtain ⟨i, y, ks, c, rfl, hy, hl, kk⟩ := h
    obtain ⟨q, rfl, hq⟩ := cut_inv hy
    refine ⟨_, (pss_cons (ps_setLc (i := 3) (own := [("_law_k", 4)]) (g := gName 4) rfl sc_side.nd rfl rfl (sw_true rfl rfl rfl (by decide +kernel)) (pi_tup (pv 1)) (blkOk_by (own := [("_law_k", 4)]) (N := nm_side) (sc := (defScope s_side)) (by decide +kernel)) (fun _ _ _ _ _ => pg_name (i := 4) sc_side.nd rfl (Or.inl rfl)) (fun _ _ _ _ _ => (pts_one (pt_cmpR op_le (pv 4) (pv 0) (nomark _)))) (fun _ _ _ _ _ => (pv 4)))
      (pss_cons (ps_setLc (i := 5) (own := [("_law_k", 4)]) (g := gName 4) rfl sc_side.nd rfl rfl (sw_true rfl rfl rfl (by decide +kernel)) (pi_tup (pv 1)) (blkOk_by (own := [("_law_k", 4)]) (N := nm_side) (sc := (defScope s_side)) (by decide +kernel)) (fun _ _ _ _ _ => pg_name (i := 4) sc_side.nd rfl (Or.inl rfl)) (fun _ _ _ _ _ => (pts_one (pt_cmpR op_gt (pv 4) (pv 0) (nomark _)))) (fun _ _ _ _ _ => (pv 4)))
      (pss_cons (ps_if (pt_cmpR op_eq (pv 2) pe_str (nomark _))
        (pss_one (ps_ret (pe_cmpR (op_eqD hr.units) (pv 3) (pe_lst pa_nil) (nomark _))))
        pss_nil)
      (pss_cons (ps_if (pt_cmpR op_eq (pv 2) pe_str (nomark _))
        (pss_one (ps_ret (pe_cmpR (op_eqD hr.units) (pv 5) (pe_lst pa_nil) (nomark _))))
        pss_nil)
      (pss_one (ps_ret (pe_and (pe_cmpR (op_neD hr.units) (pv 3) (pe_lst pa_nil) (nomark _)) (pe_one (pe_cmpR (op_neD hr.units) (pv 5) (pe_lst pa_nil) (nomark _)))))))))), ?_⟩
    refine ⟨_, rfl, q, rfl, ⟨_, hq⟩, fun A1 hA1 => ?_⟩
    refine lc_filt (P := P) (w := w) (f := fun k => decide (k ≤ i)) hA1 hl hq (fun k H' s Q2 Z q2 z2 => ?_) (fun H2 s2 h2 => ?_)
    · refine ⟨rfl, ?_⟩
      refine ⟨_, rfl, _, rfl, _, _, rfl, rfl, _, rfl, ite2 (fun c => ?_) (fun c => ?_)⟩
      · exact ⟨_, rfl, q2 (decide_eq_true (by have := of_decide_eq_true c; omega))⟩
      · exact z2 (decide_eq_false (fun e => c (decide_eq_true (by omega))))
    refine ⟨_, rfl, q, rfl, ⟨_, sameT s2 hq⟩, fun A2 hA2 => ?_⟩
    refine lc_filt (P := P) (w := w) (f := fun k => decide (i < k)) hA2 hl (sameT s2 hq) (fun k H' s Q2 Z q2 z2 => ?_) (fun H3 s3 h3 => ?_)
    · refine ⟨rfl, ?_⟩
      refine ⟨_, rfl, _, rfl, _, _, rfl, rfl, _, rfl, ite2 (fun c => ?_) (fun c => ?_)⟩
      · exact ⟨_, rfl, q2 (decide_eq_true (by have := of_decide_eq_true c; omega))⟩
      · exact z2 (decide_eq_false (fun e => c (decide_eq_true (by omega))))
    have h23 := s3 _ _ h2
    have s03 := s2.trans s3
    cases c with
    | near =>
      refine ⟨_, rfl, rfl, _, rfl, ?_⟩
      refine iteT ⟨_, rfl, Nat.zero_le _, fun E1 hE1 => ⟨_, _, .lst (SqL.of (at_old h23 hE1)) (dp_cut _), .lst (SqL.of upd_same) .nil, shaped_cut _, by decide +kernel, ?_⟩⟩
      rw [eqv_nil, dec_nil]
      exact kk _ (s03.trans (same_new hE1))
    | far =>
      refine ⟨_, rfl, rfl, _, rfl, ?_⟩
      refine iteF ⟨_, rfl, rfl, _, rfl, ?_⟩
      refine iteT ⟨_, rfl, Nat.zero_le _, fun E1 hE1 => ⟨_, _, .lst (SqL.of (at_old h3 hE1)) (dp_cut _), .lst (SqL.of upd_same) .nil, shaped_cut _, by decide +kernel, ?_⟩⟩
      rw [eqv_nil, dec_nil]
      exact kk _ (s03.trans (same_new hE1))
    | dumb =>
      refine ⟨_, rfl, rfl, _, rfl, ?_⟩
      refine iteF ⟨_, rfl, rfl, _, rfl, ?_⟩
      refine iteF ⟨_, rfl, Nat.zero_le _, fun E1 hE1 => ⟨_, _, .lst (SqL.of (at_old h23 hE1)) (dp_cut _), .lst (SqL.of upd_same) .nil, shaped_cut _, by decide +kernel, ?_⟩⟩
      rw [eqv_nil, dec_nil]
      have on_dumb : on ks .dumb i = (!(ks.filter fun k => decide (k ≤ i)).isEmpty && !(ks.filter fun k => decide (i < k)).isEmpty) := rfl
      rw [on_dumb] at kk
      refine ⟨_, rfl, ?_⟩
      cases hc : (ks.filter fun k => decide (k ≤ i)).isEmpty with
      | true =>
        rw [hc] at kk
        exact iteF (kk _ (s03.trans (same_new hE1)))
      | false =>
        rw [hc] at kk
        refine iteT ⟨_, rfl, Nat.zero_le _, fun E2 hE2 => ⟨_, _, .lst (SqL.of (at_old (at_old h3 hE1) hE2)) (dp_cut _), .lst (SqL.of upd_same) .nil, shaped_cut _, by decide +kernel, ?_⟩⟩
        rw [eqv_nil, dec_nil]
        exact kk _ ((s03.trans (same_new hE1)).trans (same_new hE2))
end
end K18

namespace K18
open PySem L2 Wm TL Dv
section
variable {P : Program} {w : World} {K : PySem.W.Frag} {mg : Str → Option Value} {base : Heap}
/-- what f picks of the first n -/
def pk {α : Type} (f : Nat → Bool) (ds : List α) (n : Nat) : List α := ((List.range n).filter f).filterMap fun i => ds[i]?
theorem pk_yes {α : Type} {f : Nat → Bool} {ds : List α} {n : Nat} {d : α} (e : f n = true) (h : ds[n]? = some d) : pk f ds (n + 1) = pk f ds n ++ [d] := by
  unfold pk
  rw [List.range_succ, List.filter_append, List.filter_cons_of_pos e, List.filter_nil, List.filterMap_append, List.filterMap_cons, h, List.filterMap_nil]
theorem pk_no {α : Type} {f : Nat → Bool} {ds : List α} {n : Nat} (e : f n = false) : pk f ds (n + 1) = pk f ds n := by
  unfold pk
  rw [List.range_succ, List.filter_append, List.filter_cons_of_neg (by rw [e]; decide), List.filter_nil, List.append_nil]
theorem pk_mid {α : Type} {f : Nat → Bool} {ds : List α} {lo hi : Nat} (h : ∀ i, i < ds.length → f i = decide (lo ≤ i ∧ i < hi)) : ∀ n, n ≤ ds.length → pk f ds n = (ds.take (min n hi)).drop lo
  | 0, _ => by rw [Nat.zero_min, List.take_zero, List.drop_nil]; rfl
  | n + 1, hn => by
    have ih := pk_mid h n (by omega)
    have e := h n (by omega)
    have g : ds[n]? = some ds[n] := List.getElem?_eq_getElem (by omega)
    by_cases c : lo ≤ n ∧ n < hi
    · rw [pk_yes (by rw [e]; exact decide_eq_true c) g, ih, Nat.min_eq_left (by omega), Nat.min_eq_left (by omega), take_snoc g, List.drop_append_of_le_length (by rw [List.length_take]; omega)]
    · rw [pk_no (by rw [e]; exact decide_eq_false c), ih]
      by_cases c2 : n < hi
      · rw [Nat.min_eq_left (by omega), Nat.min_eq_left (by omega), List.drop_of_length_le (by rw [List.length_take]; omega), List.drop_of_length_le (by rw [List.length_take]; omega)]
      · rw [Nat.min_eq_right (by omega), Nat.min_eq_right (by omega)]
theorem filt_emp {ks : List Nat} {f : Nat → Bool} : (ks.filter f).isEmpty = decide (∀ k ∈ ks, f k = false) := by
  rw [Bool.eq_iff_iff, List.isEmpty_iff, List.filter_eq_nil_iff, decide_eq_true_iff]
  exact ⟨fun h k m => Bool.eq_false_iff.mpr (h k m), fun h k m => by rw [h k m]; decide⟩
theorem asc_last {js : List Nat} {c : Nat} (h : (js ++ [c]).Pairwise (· < ·)) : ∀ k ∈ js ++ [c], k ≤ c := fun k m => by
  rcases List.mem_append.mp m with m | m
  · exact Nat.le_of_lt ((List.pairwise_append.mp h).2.2 k m c (by simp))
  · rw [List.mem_singleton.mp m]
    exact Nat.le_refl _
theorem asc_head {j : Nat} {r : List Nat} (h : (j :: r).Pairwise (· < ·)) : ∀ k ∈ j :: r, j ≤ k := fun k m => by
  rcases List.mem_cons.mp m with m | m
  · omega
  · exact Nat.le_of_lt ((List.pairwise_cons.mp h).1 k m)
theorem cut_short {n : Nat} {ks : List Nat} (h : Cut n ks) : ks.length ≤ n + 1 := by
  have q := nodup_le ks (List.range (n + 1)) (h.asc.imp fun a => Nat.ne_of_lt a) fun k m => List.mem_range.mpr (Nat.lt_succ_of_le (h.le k m))
  rw [List.length_range] at q
  exact q
theorem on_near (ks : List Nat) (i : Nat) : on ks .near i = decide (∀ k ∈ ks, i < k) := by
  show (ks.filter fun k => decide (k ≤ i)).isEmpty = _
  rw [filt_emp]
  simp [decide_eq_false_iff_not]
theorem on_far (ks : List Nat) (i : Nat) : on ks .far i = decide (∀ k ∈ ks, k ≤ i) := by
  show (ks.filter fun k => decide (i < k)).isEmpty = _
  rw [filt_emp]
  simp [decide_eq_false_iff_not]
theorem on_dumb (ks : List Nat) (i : Nat) : on ks .dumb i = (!on ks .near i && !on ks .far i) := rfl
theorem pk_side {α : Type} (ds : List α) (ks : List Nat) (h : Cut ds.length ks) (c : Side) : pk (on ks c) ds ds.length = side ds ks c := by
  cases c with
  | near =>
    show _ = nearL ds ks
    cases ks with
    | nil =>
      rw [pk_mid (lo := 0) (hi := ds.length) (fun i hi => by rw [on_near]; simp [hi]) _ (Nat.le_refl _), Nat.min_self, List.take_length]
      rfl
    | cons j r =>
      rw [pk_mid (lo := 0) (hi := j) (fun i hi => ?_) _ (Nat.le_refl _), Nat.min_eq_right (h.le j (by simp))]
      · rfl
      · rw [on_near]
        refine decide_eq_decide.mpr ⟨fun q => ⟨Nat.zero_le _, q j (by simp)⟩, fun q k m => ?_⟩
        have := asc_head h.asc k m
        omega
  | far =>
    show _ = farL ds ks
    rcases ks_cases ks with rfl | ⟨js, c, rfl⟩
    · rw [pk_mid (lo := 0) (hi := ds.length) (fun i hi => by rw [on_far]; simp [hi]) _ (Nat.le_refl _), Nat.min_self, List.take_length]
      rfl
    · rw [far_end, pk_mid (lo := c) (hi := ds.length) (fun i hi => ?_) _ (Nat.le_refl _), Nat.min_self, List.take_length]
      rw [on_far]
      refine decide_eq_decide.mpr ⟨fun q => ⟨q c (by simp), hi⟩, fun q k m => ?_⟩
      have := asc_last h.asc k m
      omega
  | dumb =>
    show _ = dumbL ds ks
    cases ks with
    | nil =>
      rw [pk_mid (lo := 0) (hi := 0) (fun i hi => by rw [on_dumb, on_near, on_far]; simp) _ (Nat.le_refl _)]
      simp [dumbL]
    | cons j r =>
      rcases ks_cases (j :: r) with e | ⟨js, c, e⟩
      · cases e
      rw [dumb_end ds j r js c e, pk_mid (lo := j) (hi := c) (fun i hi => ?_) _ (Nat.le_refl _), Nat.min_eq_right (h.le c (by rw [e]; simp))]
      have a1 := asc_head h.asc
      have a2 : ∀ k ∈ j :: r, k ≤ c := by
        rw [e]
        exact asc_last (by rw [← e]; exact h.asc)
      have mc : c ∈ j :: r := by rw [e]; simp
      have e1 : on (j :: r) .near i = decide (i < j) := by
        rw [on_near]
        refine decide_eq_decide.mpr ⟨fun q => q j (by simp), fun q k m => ?_⟩
        have := a1 k m
        omega
      have e2 : on (j :: r) .far i = decide (c ≤ i) := by
        rw [on_far]
        refine decide_eq_decide.mpr ⟨fun q => q c mc, fun q k m => ?_⟩
        have := a2 k m
        omega
      rw [on_dumb, e1, e2, Bool.eq_iff_iff]
      simp
theorem ok_part (T : Txt K mg) : FnOk P w K mg base CX0 2 T.a_part T.d_part ["_law_items", "_law_stretches_here", "_law_side_here"] (sp_part K) := by
  refine T.F_part.ok sc_part (fun vs H Q E h => ?_) (fun cdv A outer s H vs Q E hr h => ?_)
  · obtain ⟨x, y, ds, ks, c, rfl, _⟩ := h
    rfl
  · obtain ⟨x, y, ds, ks, c, rfl, hx, hy, hc, hl, kk⟩ := h
    obtain ⟨q, xs, rfl, hS, hd⟩ := hx.inv
    obtain ⟨q2, rfl, hq2⟩ := id (cut_inv hy)
    have el := hd.len
    have lk : ks.length ≤ 101 := by have := cut_short hc; omega
    refine ⟨_, (pss_one (ps_ret (pe_callTy call_tuple_of (by rfl) T.z_tuple (by decide +kernel) (pa_cons (pe_lc (own := [("_law_place", 3), ("_law_item", 4)]) (g := gTup K 2 (gCons (gName 3) (gCons (gName 4) (gNil)))) rfl sc_part.nd (Es.pi_ent (by rfl) T.z_enumerate (pa_cons (pv 0) pa_nil)) (blkOk_by (own := [("_law_place", 3), ("_law_item", 4)]) (N := nm_part) (sc := (defScope s_part)) (by decide +kernel)) (fun _ _ _ _ _ => (pg_tup rfl (pgs_cons (pg_name (i := 3) sc_part.nd rfl (Or.inl rfl)) (pgs_cons (pg_name (i := 4) sc_part.nd rfl (Or.inl rfl)) pgs_nil)))) (fun _ _ _ _ _ => (pts_one (pt_val (pe_call (ok_side T) (hr.mono (by decide)) (by rfl) T.g_side T.F_side.kp T.b_side .nil pass0 (pa_cons (pv 3) (pa_cons (pv 1) (pa_cons (pv 2) pa_nil))))))) (fun _ _ _ _ _ => (pv 4))) pa_nil)))), ?_⟩
    refine ⟨_, rfl, q, xs, rfl, hS, fun D hD => ?_⟩
    refine lc_it Es.walk_ent (fun i H' => Same H H' ∧ ∃ acc, H' D = some (.lst acc) ∧ acc.length ≤ i ∧ Dts K H' acc (pk (on ks c) ds i)) ⟨same_new hD, [], upd_same, Nat.le_refl _, .nil⟩ (fun i H' _ h => sameT h.1 hS) (fun i x H1 H' hi hP hY => ?_) (fun H1 hP => ?_)
    · obtain ⟨sm, acc, ha, la, hacc⟩ := hP
      obtain ⟨tp, x1, x2, rfl, ht, rfl, e1, e2⟩ := hY
      cases e1
      obtain ⟨d, hdd, td⟩ := hd.at e2
      have sB : Same H (upd H1 tp (.tup [.int (i : Nat), x2])) := sm.trans (same_new ht)
      have haB := at_old (u := .tup [.int (i : Nat), x2]) ha ht
      have hdB := hacc.k (Kt.new (K := K) (o := .tup [.int (i : Nat), x2]) ht)
      refine ⟨tp, _, rfl, SqT.of upd_same, rfl, _, _, rfl, _, _, rfl, rfl, rfl, ?_⟩
      generalize upd H1 tp (.tup [.int (i : Nat), x2]) = H2 at *
      refine ⟨_, rfl, _, rfl, _, rfl, i, _, ks, c, rfl, hy.k (Kt.same sB), by omega, fun H3 s3 => ?_⟩
      have ha3 := s3 _ _ haB
      have hd3 := hdB.k (Kt.same s3)
      have t3 := td.k (Kt.same (sB.trans s3))
      have ln : i < xs.length := (List.getElem?_eq_some_iff.mp e2).1
      refine ⟨_, rfl, ?_⟩
      cases ec : on ks c i with
      | true =>
        refine iteT ⟨_, rfl, acc, ha3, small1000 (by omega), same_mut (sB.trans s3) hD, acc ++ [x2], upd_same, by rw [List.length_append, List.length_singleton]; omega, ?_⟩
        rw [pk_yes ec hdd]
        exact (hd3.snoc t3).k (Kt.lst ha3)
      | false =>
        refine iteF ⟨sB.trans s3, acc, ha3, by omega, ?_⟩
        rw [pk_no ec]
        exact hd3
    · obtain ⟨sm, acc, ha, la, hacc⟩ := hP
      refine ⟨D, acc, rfl, .inl ⟨SqL.of ha, fun p hp => ?_⟩⟩
      refine kk _ _ (sm.trans (same_new hp)) (dt_tup upd_same ?_)
      rw [← pk_side ds ks hc c, ← el]
      exact hacc.k (Kt.new hp)
end
end K18

namespace K18
open PySem L2 Wm TL Dv
section
variable {P : Program} {w : World} {K : PySem.W.Frag} {mg : Str → Option Value} {base : Heap}
theorem fine_side {n : Nat} {ds : List PyData} {ks : List Nat} (f : ∀ d ∈ ds, Fine n d) (c : Side) : Fine (n + 1) (.tuple (side ds ks c)) := fine_tup fun d m => by
  refine f d ?_
  cases c with
  | near =>
    have m2 : d ∈ nearL ds ks := m
    unfold nearL at m2
    cases ks with
    | nil => exact m2
    | cons j r => exact List.mem_of_mem_take m2
  | far =>
    have m2 : d ∈ farL ds ks := m
    unfold farL at m2
    cases e : ks.getLast? with
    | none => rw [e] at m2; exact m2
    | some j => rw [e] at m2; exact List.mem_of_mem_drop m2
  | dumb =>
    have m2 : d ∈ dumbL ds ks := m
    unfold dumbL at m2
    cases e1 : ks.head? with
    | none => rw [e1] at m2; simp at m2
    | some i =>
      cases e2 : ks.getLast? with
      | none => rw [e1, e2] at m2; simp at m2
      | some j => rw [e1, e2] at m2; exact List.mem_of_mem_take (List.mem_of_mem_drop m2)
theorem ok_loop (T : Txt K mg) : FnOk P w K mg base CX0 3 T.a_loop T.d_loop ["_law_items", "_law_stretches_here"] (sp_loop K) := by
  refine T.F_loop.ok sc_loop (fun vs H Q E h => ?_) (fun cdv A outer s H vs Q E hr h => ?_)
  · obtain ⟨x, y, ds, ks, rfl, _⟩ := h
    rfl
  · obtain ⟨x, y, ds, ks, rfl, hx, hy, hc, hl, hf, kk⟩ := h
    refine ⟨_, (pss_cons (ps_for PassesOwn.never rfl (pi_list (pe_lst (pa_cons (pe_tup (pa_cons pe_str (pa_cons (pe_call (ok_near_part T) (hr.mono (by decide)) (by rfl) T.g_near_part T.F_near_part.kp T.b_near_part .nil pass0 (pa_cons (pv 0) (pa_cons (pv 1) pa_nil))) pa_nil))) (pa_cons (pe_tup (pa_cons pe_str (pa_cons (pe_call (ok_far_part T) (hr.mono (by decide)) (by rfl) T.g_far_part T.F_far_part.kp T.b_far_part .nil pass0 (pa_cons (pv 0) (pa_cons (pv 1) pa_nil))) pa_nil))) (pa_cons (pe_tup (pa_cons pe_str (pa_cons (pe_call (ok_dumb_part T) (hr.mono (by decide)) (by rfl) T.g_dumb_part T.F_dumb_part.kp T.b_dumb_part .nil pass0 (pa_cons (pv 0) (pa_cons (pv 1) pa_nil))) pa_nil))) pa_nil))))) (pg_tup rfl (pgs_cons (pg_name (i := 2) sc_loop.nd rfl (Or.inl rfl)) (pgs_cons (pg_name (i := 3) sc_loop.nd rfl (Or.inl rfl)) pgs_nil)))
        (pss_one (ps_if (PW.pt (pw_or (pt_not (pt_val (pe_callB call_isi (by rfl) T.z_isinstance (by decide +kernel) (pa_cons (pv 3) (pa_cons (pe_bltn (v := V.ty "tuple") (by rfl) T.z_tuple (by decide +kernel) rfl) pa_nil))))) (pw_or1 (pt_cmpR (op_neD hr.units) (pv 3) (pe_call (ok_part T) (hr.mono (by decide)) (by rfl) T.g_part T.F_part.kp T.b_part .nil pass0 (pa_cons (pv 0) (pa_cons (pv 1) (pa_cons (pv 2) pa_nil)))) (nomark _)))))
          (pss_one (ps_ret pe_bl))
          pss_nil)))
      (pss_one (ps_ret pe_bl))), ?_⟩
    refine ⟨_, rfl, _, rfl, x, y, ds, ks, rfl, hx, hy, hc, hl, fun H1 z1 s1 t1 => ⟨by show 2 ≤ sizeLine; decide, fun p1 hp1 => ?_⟩⟩
    have sa := s1.trans (same_new (o := .tup [.str "near", z1]) hp1)
    have ta := t1.k (Kt.new (K := K) (o := .tup [.str "near", z1]) hp1)
    have ea : upd H1 p1 (.tup [.str "near", z1]) p1 = some (.tup [.str "near", z1]) := upd_same
    show _
    generalize upd H1 p1 (.tup [.str "near", z1]) = H2 at *
    refine ⟨_, rfl, _, rfl, x, y, ds, ks, rfl, hx.k (Kt.same sa), hy.k (Kt.same sa), hc, hl, fun H3 z3 s3 t3 => ⟨by show 2 ≤ sizeLine; decide, fun p3 hp3 => ?_⟩⟩
    have sb := s3.trans (same_new (o := .tup [.str "far", z3]) hp3)
    have tb := t3.k (Kt.new (K := K) (o := .tup [.str "far", z3]) hp3)
    have eb : upd H3 p3 (.tup [.str "far", z3]) p3 = some (.tup [.str "far", z3]) := upd_same
    show _
    generalize upd H3 p3 (.tup [.str "far", z3]) = H4 at *
    refine ⟨_, rfl, _, rfl, x, y, ds, ks, rfl, hx.k (Kt.same (sa.trans sb)), hy.k (Kt.same (sa.trans sb)), hc, hl, fun H5 z5 s5 t5 => ⟨by show 2 ≤ sizeLine; decide, fun p5 hp5 => ?_⟩⟩
    have sc := s5.trans (same_new (o := .tup [.str "dumb", z5]) hp5)
    have tc := t5.k (Kt.new (K := K) (o := .tup [.str "dumb", z5]) hp5)
    have ec : upd H5 p5 (.tup [.str "dumb", z5]) p5 = some (.tup [.str "dumb", z5]) := upd_same
    show _
    generalize upd H5 p5 (.tup [.str "dumb", z5]) = H6 at *
    refine ⟨by show 3 ≤ sizeLine; decide, fun L hL => ?_⟩
    have sd : Same H6 (upd H6 L (.lst [.ref p1, .ref p3, .ref p5])) := same_new hL
    have eL : upd H6 L (.lst [.ref p1, .ref p3, .ref p5]) L = some (.lst [.ref p1, .ref p3, .ref p5]) := upd_same
    generalize upd H6 L (.lst [.ref p1, .ref p3, .ref p5]) = H7 at *
    have s07 := ((sa.trans sb).trans sc).trans sd
    have all3 : ∀ (i : Nat) v, [V.ref p1, V.ref p3, V.ref p5][i]? = some v → ∃ (c : Side) (p : Addr) (z : V), v = .ref p ∧ H7 p = some (.tup [.str c.s, z]) ∧ Dt K H7 z (.tuple (side ds ks c)) := fun i v e => by
      rcases i with _ | _ | _ | i
      · cases e
        exact ⟨.near, p1, z1, rfl, ((sb.trans sc).trans sd) _ _ ea, ta.k (Kt.same ((sb.trans sc).trans sd))⟩
      · cases e
        exact ⟨.far, p3, z3, rfl, (sc.trans sd) _ _ eb, tb.k (Kt.same (sc.trans sd))⟩
      · cases e
        exact ⟨.dumb, p5, z5, rfl, sd _ _ ec, tc.k (Kt.same sd)⟩
      · simp at e
    refine ⟨L, rfl, ⟨_, SqL.of eL⟩, ?_⟩
    refine for_it walk_list (fun i σ H' => ∃ u v, σ = [some x, some y, u, v] ∧ Same H7 H') ⟨none, none, rfl, Same.refl _⟩ (fun i σ H' _ h => let ⟨_, _, _, s⟩ := h; SqL.of (s _ _ eL)) (fun i v σ H8 H' hi hP hY => ?_) (fun σ H8 hP => ?_)
    · obtain ⟨rfl, hv⟩ := hY
      obtain ⟨u, v2, rfl, s8⟩ := hP
      obtain ⟨c, p, z, rfl, hp, tz⟩ := all3 i v hv
      have tz8 := tz.k (Kt.same s8)
      obtain ⟨pz, xz, rfl, hz, _⟩ := id tz8.inv
      refine ⟨p, _, rfl, SqT.of (s8 _ _ hp), rfl, _, _, rfl, _, _, rfl, rfl, ?_⟩
      refine ⟨_, rfl, _, _, _, _, true, rfl, .ty "tuple", tyT hz, kit_ty (by decide +kernel), true, rfl, iteF ?_⟩
      have s09 := s07.trans s8
      refine ⟨_, rfl, _, rfl, _, rfl, _, rfl, x, y, ds, ks, c, rfl, hx.k (Kt.same s09), hy.k (Kt.same s09), hc, hl, fun H9 z9 s9 t9 => ?_⟩
      have ff := fine_side (ks := ks) hf c
      refine ⟨_, _, (tz8.k (Kt.same s9)).toDp, t9.toDp, ff.shaped (by decide), ff.shaped (by decide), ?_⟩
      rw [ff.refl]
      exact ⟨_, rfl, iteF ⟨_, _, rfl, s8.trans s9⟩⟩
    · obtain ⟨u, v, rfl, s8⟩ := hP
      exact kk _ (s07.trans s8)
theorem tup_inv {H : Hp} {x : V} {dss : List (List PyData)} (h : Dt K H x (.tuple (dss.map PyData.tuple))) : ∃ p xs, x = .ref p ∧ SqT K H p xs ∧ xs.length = dss.length ∧ ∀ (i : Nat) v, xs[i]? = some v → ∃ ds, dss[i]? = some ds ∧ Dt K H v (.tuple ds) := by
  obtain ⟨p, xs, rfl, hS, hd⟩ := h.inv
  refine ⟨p, xs, rfl, hS, by rw [hd.len, List.length_map], fun i v e => ?_⟩
  obtain ⟨d, e2, t⟩ := hd.at e
  rw [List.getElem?_map] at e2
  obtain ⟨ds, e3, rfl⟩ := Option.map_eq_some_iff.mp e2
  exact ⟨ds, e3, t⟩
theorem ok_tuples (T : Txt K mg) : FnOk P w K mg base CX0 1 T.a_tuples T.d_tuples ["_law_told"] (sp_tuples K) := by
  refine T.F_tuples.ok sc_tuples (fun vs H Q E h => ?_) (fun cdv A outer s H vs Q E hr h => ?_)
  · obtain ⟨x, dss, rfl, _⟩ := h
    rfl
  · obtain ⟨x, dss, rfl, hx, hl, k⟩ := h
    obtain ⟨p, xs, rfl, hS, el, ha⟩ := tup_inv hx
    refine ⟨_, (pss_one (ps_ret (pe_and (pe_callB call_isi (by rfl) T.z_isinstance (by decide +kernel) (pa_cons (pv 0) (pa_cons (pe_bltn (v := V.ty "tuple") (by rfl) T.z_tuple (by decide +kernel) rfl) pa_nil))) (pe_one (pe_callB (cr_all rfl) (by rfl) T.z_all (by decide +kernel) (pa_cons (pe_lc (own := [("_law_part_here", 1)]) (g := gName 1) (tt := tYes) rfl sc_tuples.nd (pi_tup (pv 0)) (blkOk_by (own := [("_law_part_here", 1)]) (N := nm_tuples) (sc := (defScope s_tuples)) (by decide +kernel)) (fun _ _ _ _ _ => pg_name (i := 1) sc_tuples.nd rfl (Or.inl rfl)) (fun _ _ _ _ _ => pts_nil) (fun _ _ _ _ _ => (pe_callB (show CallR _ _ (rIsi K) from call_isi) (by rfl) T.z_isinstance (by decide +kernel) (pa_cons (pv 1) (pa_cons (pe_bltn (v := V.ty "tuple") (by rfl) T.z_tuple (by decide +kernel) rfl) pa_nil))))) pa_nil)))))), ?_⟩
    refine ⟨_, rfl, _, _, _, _, true, rfl, .ty "tuple", tyT hS, kit_ty (by decide +kernel), true, rfl, iteT ?_⟩
    refine ⟨_, rfl, p, rfl, ⟨_, hS⟩, fun D hD => ?_⟩
    refine Lm.lc_map (K := K) walk_tup (fun i y _ => y = .bl true) (fun _ _ _ _ h _ => h) hD (by omega) (fun H' s => sameT s hS) (fun i x H' hi hx sm Q2 Z q => ?_) (fun H2 ys s2 hy ly hR => ?_)
    · obtain ⟨ds, _, t⟩ := ha i x hx
      obtain ⟨q1, zs, rfl, hq, _⟩ := (t.k (Kt.same sm)).inv
      refine ⟨rfl, yesT ?_⟩
      exact ⟨_, rfl, _, _, _, _, true, rfl, .ty "tuple", tyT hq, kit_ty (by decide +kernel), q _ _ (Same.refl _) rfl⟩
    · refine ⟨D, ys.map fun _ => true, rfl, all_true hy hR, ?_⟩
      rw [all_id]
      exact k _ s2
end
end K18

namespace K18
open PySem L2 Wm TL Dv
section
variable {P : Program} {w : World} {K : PySem.W.Frag} {mg : Str → Option Value} {base : Heap}
theorem lt_anti : ∀ a b : List Nat, Spec.ltCps a b = false → Spec.ltCps b a = false → a = b
  | [], [], _, _ => rfl
  | [], _ :: _, h, _ => by simp [Spec.ltCps] at h
  | _ :: _, [], _, h => by simp [Spec.ltCps] at h
  | a :: r, b :: t, h, g => by
    simp only [Spec.ltCps, Bool.or_eq_false_iff, decide_eq_false_iff_not, Bool.and_eq_false_iff] at h g
    have e : a = b := by omega
    subst e
    rcases h.2 with q | q
    · simp at q
    · rcases g.2 with q2 | q2
      · simp at q2
      · rw [lt_anti r t q q2]
theorem le_trans3 : ∀ a b c : List Nat, Spec.ltCps b a = false → Spec.ltCps c b = false → Spec.ltCps c a = false
  | a, [], [], h, _ => h
  | a, [], _ :: _, h, _ => by
    cases a with
    | nil => rfl
    | cons _ _ => simp [Spec.ltCps] at h
  | _, _ :: _, [], _, g => by simp [Spec.ltCps] at g
  | [], _ :: _, _ :: _, _, _ => rfl
  | a :: r, b :: t, c :: u, h, g => by
    simp only [Spec.ltCps, Bool.or_eq_false_iff, decide_eq_false_iff_not, Bool.and_eq_false_iff] at h g ⊢
    refine ⟨by omega, ?_⟩
    by_cases e : c = a
    · have e1 : b = a := by omega
      have e2 : c = b := by omega
      refine .inr (le_trans3 r t u ?_ ?_)
      · rcases h.2 with q | q
        · simp [e1] at q
        · exact q
      · rcases g.2 with q | q
        · simp [e2] at q
        · exact q
    · exact .inl (by simpa using e)
theorem rising_all : ∀ (l : List Str) (p : Str), PyProof.Rows.risingS p l = true → ∀ x ∈ l, Spec.ltCps x.cps.toList p.cps.toList = false
  | [], _, _, _, m => by simp at m
  | x :: r, p, h, y, m => by
    have h2 : Spec.ltCps x.cps.toList p.cps.toList = false ∧ PyProof.Rows.risingS x r = true := by
      have h3 : (!Spec.ltCps x.cps.toList p.cps.toList && PyProof.Rows.risingS x r) = true := h
      simpa using h3
    rcases List.mem_cons.mp m with rfl | m
    · exact h2.1
    · exact le_trans3 _ _ _ h2.1 (rising_all r x h2.2 y m)
theorem sorted_tail {x : Str} {r : List Str} (h : PyProof.Rows.sortedS (x :: r) = true) : PyProof.Rows.sortedS r = true := by
  cases r with
  | nil => rfl
  | cons y r =>
    have h3 : (!Spec.ltCps y.cps.toList x.cps.toList && PyProof.Rows.risingS y r) = true := h
    simp at h3
    exact h3.2
theorem str_eq {x y : Str} (h : x.cps.toList = y.cps.toList) : x = y := by
  cases x; cases y
  simp only [Str.mk.injEq]
  exact Array.toList_inj.mp h
theorem sorted_one : ∀ xs ys : List Str, xs.Perm ys → PyProof.Rows.sortedS xs = true → PyProof.Rows.sortedS ys = true → xs = ys
  | [], ys, p, _, _ => (List.nil_perm.mp p).symm
  | x :: xs, [], p, _, _ => by
    have := p.length_eq
    simp at this
  | x :: xs, y :: ys, p, h, g => by
    have e : x = y := by
      have mx : x ∈ y :: ys := p.mem_iff.mp (by simp)
      have my : y ∈ x :: xs := p.mem_iff.mpr (by simp)
      rcases List.mem_cons.mp mx with e | mx
      · exact e
      rcases List.mem_cons.mp my with e | my
      · exact e.symm
      exact str_eq (lt_anti _ _ (rising_all ys y g x mx) (rising_all xs x h y my))
    subst e
    rw [sorted_one xs ys ((List.perm_cons x).mp p) (sorted_tail h) (sorted_tail g)]
/-! parts of mapped lists -/
theorem near_map {α β : Type} (f : α → β) (ds : List α) (ks : List Nat) : nearL (ds.map f) ks = (nearL ds ks).map f := by
  cases ks with
  | nil => rfl
  | cons k r => exact List.map_take.symm
theorem far_map {α β : Type} (f : α → β) (ds : List α) (ks : List Nat) : farL (ds.map f) ks = (farL ds ks).map f := by
  unfold farL
  cases ks.getLast? with
  | none => rfl
  | some k => exact List.map_drop.symm
theorem dumb_map {α β : Type} (f : α → β) (ds : List α) (ks : List Nat) : dumbL (ds.map f) ks = (dumbL ds ks).map f := by
  unfold dumbL
  cases ks.head? with
  | none => rfl
  | some j =>
    cases ks.getLast? with
    | none => rfl
    | some k => show ((ds.map f).take k).drop j = ((ds.take k).drop j).map f; rw [List.map_drop, List.map_take]
theorem parts_map {α β : Type} (f : α → β) : ∀ (ls : List (List α)) (cs : List (List Nat)), partsL (ls.map fun l => l.map f) cs = (partsL ls cs).map fun l => l.map f
  | [], [] => rfl
  | [], _ :: _ => rfl
  | _ :: _, [] => rfl
  | x :: ls, [] :: cs => by
    show x.map f :: partsL (ls.map fun l => l.map f) cs = _
    rw [parts_map f ls cs]
    rfl
  | x :: ls, (k :: ks) :: cs => by
    show nearL (x.map f) (k :: ks) :: farL (x.map f) (k :: ks) :: partsL (ls.map fun l => l.map f) cs = _
    rw [parts_map f ls cs, near_map, far_map]
    rfl
theorem dumbs_map {α β : Type} (f : α → β) : ∀ (ls : List (List α)) (cs : List (List Nat)), dumbsL (ls.map fun l => l.map f) cs = (dumbsL ls cs).map f
  | [], [] => rfl
  | [], _ :: _ => rfl
  | _ :: _, [] => rfl
  | x :: ls, c :: cs => by
    show dumbL (x.map f) c ++ dumbsL (ls.map fun l => l.map f) cs = _
    rw [dumbs_map f ls cs, dumb_map]
    show _ = (dumbL x c ++ dumbsL ls cs).map f
    rw [List.map_append]
theorem cut3 {α : Type} (xs : List α) {j k : Nat} (h : j ≤ k) : xs = xs.take j ++ ((xs.take k).drop j ++ xs.drop k) := by
  rw [← List.append_assoc]
  have e : xs.take j ++ (xs.take k).drop j = xs.take k := by
    have q := (List.take_append_drop j (xs.take k)).symm
    rw [List.take_take, Nat.min_eq_left h] at q
    exact q.symm
  rw [e, List.take_append_drop]
theorem parts_perm {α : Type} : ∀ (ls : List (List α)) (cs : List (List Nat)), cs.length = ls.length → (∀ (i : Nat) l c, ls[i]? = some l → cs[i]? = some c → Cut l.length c) → ((partsL ls cs).flatten ++ dumbsL ls cs).Perm ls.flatten
  | [], [], _, _ => List.Perm.refl _
  | [], _ :: _, h, _ => by simp at h
  | _ :: _, [], h, _ => by simp at h
  | x :: ls, [] :: cs, h, g => by
    have ih := parts_perm ls cs (by simpa using h) fun i l c a b => g (i + 1) l c (by simpa using a) (by simpa using b)
    show ((x :: partsL ls cs).flatten ++ (dumbL x [] ++ dumbsL ls cs)).Perm _
    have e : dumbL x [] = [] := rfl
    rw [e, List.nil_append, List.flatten_cons, List.flatten_cons, List.append_assoc]
    exact ih.append_left x
  | x :: ls, (k :: ks) :: cs, h, g => by
    have ih := parts_perm ls cs (by simpa using h) fun i l c a b => g (i + 1) l c (by simpa using a) (by simpa using b)
    have hc := g 0 x (k :: ks) rfl rfl
    rcases ks_cases (k :: ks) with e | ⟨js, c, e⟩
    · cases e
    have mc : c ∈ k :: ks := by rw [e]; simp
    have kc : k ≤ c := asc_head hc.asc c mc
    have e1 : nearL x (k :: ks) = x.take k := rfl
    have e2 : farL x (k :: ks) = x.drop c := by rw [e, far_end]
    have e3 : dumbL x (k :: ks) = (x.take c).drop k := dumb_end x k ks js c e
    show ((nearL x (k :: ks) :: farL x (k :: ks) :: partsL ls cs).flatten ++ (dumbL x (k :: ks) ++ dumbsL ls cs)).Perm _
    rw [e1, e2, e3, List.flatten_cons, List.flatten_cons, List.flatten_cons]
    generalize hA : x.take k = A
    generalize hB : x.drop c = B
    generalize hM : (x.take c).drop k = M
    have ex : x = A ++ (M ++ B) := by rw [← hA, ← hB, ← hM]; exact cut3 x kc
    rw [ex]
    generalize (partsL ls cs).flatten = P at ih
    generalize dumbsL ls cs = D at ih
    have p1 : (A ++ (B ++ P) ++ (M ++ D)).Perm (A ++ (M ++ B) ++ (P ++ D)) := by
      rw [List.append_assoc, List.append_assoc A]
      refine List.Perm.append_left A ?_
      rw [List.append_assoc B, ← List.append_assoc P, List.append_assoc M]
      have q1 : (P ++ M ++ D).Perm (M ++ (P ++ D)) := by
        rw [← List.append_assoc M]
        exact List.perm_append_comm.append_right D
      refine (q1.append_left B).trans ?_
      rw [← List.append_assoc B, ← List.append_assoc M B]
      exact List.perm_append_comm.append_right _
    exact p1.trans (ih.append_left _)
theorem parts_none {α : Type} : ∀ ls : List (List α), partsL ls (ls.map fun _ => []) = ls
  | [] => rfl
  | x :: ls => by
    show x :: partsL ls (ls.map fun _ => []) = x :: ls
    rw [parts_none ls]
/-! data that may be compared -/
theorem fine_numD {n : Nat} {b : Box} (h : Num b.1) : Fine n (numD b) := fine_num fun d m => (h.3 d m).2
end
end K18

namespace K18
open PySem L2 Wm TL Dv
section
variable {P : Program} {w : World} {K : PySem.W.Frag} {mg : Str → Option Value} {base : Heap}
theorem TownAt.but {C : Addr} {s a b : Addr} {n : Nat} {H H' : Hp} {p : Addr} {ls : List (List Box)} (h : TownAt K C H p ls) (hb : Src H s a b n) (bt : But2 s a H H') : TownAt K C H' p ls := by
  obtain ⟨dx, fs, y, hp, l1, l2, t⟩ := h
  have kt := But2.kt (K := K) hb bt
  obtain ⟨x, m, ns, ms, h1, h2, h3, h4⟩ := hb
  exact ⟨dx, fs, y, bt.keep _ _ (fun e => by rw [e, h1] at hp; cases hp) (fun e => by rw [e, h2] at hp; cases hp) hp, l1, l2, t.k kt⟩
theorem dts_nums {H : Hp} : ∀ l : List Box, Dts K H (l.map numV) (l.map numD)
  | [] => .nil
  | b :: l => .cons (.str _) (dts_nums l)
theorem fine_boxD {b : Box} (h : Num b.1) : Fine 5 (boxD b) := fine_tup (n := 4) fun d m => by
  rcases List.mem_cons.mp m with rfl | m
  · exact fine_numD h
  · rw [List.mem_singleton.mp m]
    cases b.2 <;> exact fine_str (by decide +kernel)
def sqs (n : Nat) : List Int := (List.range n).map fun (i : Nat) => (i : Int) * (i : Int)
theorem sqs_len (n : Nat) : (sqs n).length = n := by unfold sqs; rw [List.length_map, List.length_range]
theorem sqs_at {n j : Nat} (h : j < n) : ((sqs n).map V.int)[j]? = some (.int ((j : Int) * (j : Int))) := by
  unfold sqs
  rw [List.getElem?_map, List.getElem?_map, List.getElem?_range h]
  rfl
theorem fine_cut (c : List Nat) : Fine 5 (cutD c) := fine_tup (n := 4) fun d m => by
  obtain ⟨z, _, rfl⟩ := List.mem_map.mp m
  exact fine_int _
theorem eqv_cons (c0 : Nat) (cr : List Nat) : PyData.eqv (cutD (c0 :: cr)) (.tuple []) = false := by
  simp [cutD, PyData.eqv, PyData.eqvAll]
def nT (ls : List (List Box)) : List (List Str) := ls.map fun l => l.map numT
theorem numsD_nT (ls : List (List Box)) : numsD ls = (nT ls).map fun l => l.map PyData.str := by
  unfold numsD nT
  rw [List.map_map]
  refine List.map_congr_left fun l _ => ?_
  show _ = (l.map numT).map PyData.str
  rw [List.map_map]
  rfl
theorem nT_flat (ls : List (List Box)) : (nT ls).flatten = ls.flatten.map numT := by unfold nT; rw [List.map_flatten]
theorem nT_perm {ls : List (List Box)} {cs : List (List Nat)} (h : Cuts ls cs) : ((partsL (nT ls) cs).flatten ++ dumbsL (nT ls) cs).Perm (ls.flatten.map numT) := by
  rw [← nT_flat]
  refine parts_perm (nT ls) cs (by unfold nT; rw [List.length_map]; exact h.1) fun i l c e1 e2 => ?_
  unfold nT at e1
  rw [List.getElem?_map] at e1
  obtain ⟨l2, e3, rfl⟩ := Option.map_eq_some_iff.mp e1
  rw [List.length_map]
  exact h.2 i l2 c e3 e2
theorem fine_all {ls : List (List Box)} (G : Good ls) {n : Nat} : ∀ x ∈ ls.flatten.map numT, Fine n (.str x) := fun x m => by
  obtain ⟨b, mb, rfl⟩ := List.mem_map.mp m
  exact fine_numD (G.num b mb)
theorem fine_strs {n : Nat} {xs : List Str} (h : ∀ x ∈ xs, Fine n (.str x)) : Fine (n + 1) (.tuple (xs.map PyData.str)) := fine_tup fun d m => by
  obtain ⟨x, mx, rfl⟩ := List.mem_map.mp m
  exact h x mx
theorem fine_lst {n : Nat} {ds : List PyData} (h : Fine n (.tuple ds)) : Fine n (.list ds) := ⟨by simpa [PyData.canLay0] using h.1, by simpa [PyData.depth] using h.2⟩
theorem fine_tups {n : Nat} {xss : List (List Str)} (h : ∀ x ∈ xss.flatten, Fine n (.str x)) : Fine (n + 2) (.tuple ((xss.map fun l => l.map PyData.str).map PyData.tuple)) := fine_tup fun d m => by
  obtain ⟨l, ml, rfl⟩ := List.mem_map.mp m
  obtain ⟨l2, ml2, rfl⟩ := List.mem_map.mp ml
  exact fine_strs fun x mx => h x (List.mem_flatten.mpr ⟨l2, ml2, mx⟩)
theorem at_snoc {α : Type} {xs : List α} {x y : α} {j : Nat} (h : (xs ++ [x])[j]? = some y) : xs[j]? = some y ∨ (j = xs.length ∧ y = x) := by
  by_cases c : j < xs.length
  · rw [List.getElem?_append_left c] at h
    exact .inl h
  · rw [List.getElem?_append_right (by omega)] at h
    by_cases e : j - xs.length = 0
    · rw [e] at h
      exact .inr ⟨by omega, by simpa using h.symm⟩
    · rw [List.getElem?_eq_none (by rw [List.length_singleton]; omega)] at h
      cases h
theorem ok_law (T : Txt K mg) : FnOk P w K mg base CX0 7 T.a_law T.d_law ["_law_script"] (sp_law K) := by
  refine T.F_law.ok sc_law (fun vs H Q E h => ?_) (fun cdv A outer s H vs Q E hr h => ?_)
  · obtain ⟨a, ns, rfl, _⟩ := h
    rfl
  · obtain ⟨a, ns, rfl, hSc, hlen, kk⟩ := h
    refine ⟨_, (pss_cons (ps_set (i := 1) sc_law.nd rfl (Or.inr rfl) (pe_call (ok_source T) (hr.mono (by decide)) (by rfl) T.g_source T.F_source.kp T.b_source .nil pass0 (pa_cons (pv 0) pa_nil)))
      (pss_cons (ps_set (i := 2) sc_law.nd rfl (Or.inl rfl) (pe_call (ok_loops T) (hr.mono (by decide)) (by rfl) T.g_loops T.F_loops.kp T.b_loops .nil pass0 (pa_cons (pv 1) (pa_cons pe_bl pa_nil))))
      (pss_cons (ps_set (i := 3) sc_law.nd rfl (Or.inl rfl) (pe_makeK T.mk_init (ok_init T) (hr.mono (by decide)) (by rfl) T.gC T.kb pass0 (pa_cons (pv 2) pa_nil) (pk_cons pe_int pk_nil)))
      (pss_cons (ps_set (i := 4) sc_law.nd rfl (Or.inl rfl) (pe_callTy call_tuple_of (by rfl) T.z_tuple (by decide +kernel) (pa_cons (pe_lc (own := [("_law_row", 5)]) (g := gName 5) (tt := tYes) rfl sc_law.nd (pi_tup (pv 2)) (blkOk_by (own := [("_law_row", 5)]) (N := nm_law) (sc := (defScope s_law)) (by decide +kernel)) (fun _ _ _ _ _ => pg_name (i := 5) sc_law.nd rfl (Or.inl rfl)) (fun _ _ _ _ _ => pts_nil) (fun _ _ _ _ _ => (pe_call (ok_stretches T) (hr.mono (by decide)) (by rfl) T.g_stretches T.F_stretches.kp T.b_stretches .nil pass0 (pa_cons (pv 1) (pa_cons (pe_callB (show CallR _ _ (Kx.rLen K) from call_len_seq) (by rfl) T.z_len PySem.boot_len (pa_cons (pv 5) pa_nil)) pa_nil))))) pa_nil)))
      (pss_cons (ps_set (i := 6) sc_law.nd rfl (Or.inl rfl) (pe_lst pa_nil))
      (pss_cons (ps_set (i := 7) sc_law.nd rfl (Or.inl rfl) (pe_lst pa_nil))
      (pss_cons (ps_for PassesOwn.never rfl (RZ.pi_zipA (by rfl) T.z_zip (pa_cons (pv 2) (pa_cons (pv 4) pa_nil))) (pg_tup rfl (pgs_cons (pg_name (i := 5) sc_law.nd rfl (Or.inl rfl)) (pgs_cons (pg_name (i := 8) sc_law.nd rfl (Or.inl rfl)) pgs_nil)))
        (pss_cons (ps_set (i := 9) sc_law.nd rfl (Or.inl rfl) (pe_callTy call_tuple_of (by rfl) T.z_tuple (by decide +kernel) (pa_cons (pe_lc (own := [("_law_number_here", 10), ("_law_sort", 11)]) (g := gTup K 2 (gCons (gName 10) (gCons (gName 11) (gNil)))) (tt := tYes) rfl sc_law.nd (pi_tup (pv 5)) (blkOk_by (own := [("_law_number_here", 10), ("_law_sort", 11)]) (N := nm_law) (sc := (defScope s_law)) (by decide +kernel)) (fun _ _ _ _ _ => (pg_tup rfl (pgs_cons (pg_name (i := 10) sc_law.nd rfl (Or.inl rfl)) (pgs_cons (pg_name (i := 11) sc_law.nd rfl (Or.inl rfl)) pgs_nil)))) (fun _ _ _ _ _ => pts_nil) (fun _ _ _ _ _ => (pv 10))) pa_nil)))
        (pss_cons (ps_if (PW.pt (pw_or (pt_not (pt_val (pe_call (ok_loop T) (hr.mono (by decide)) (by rfl) T.g_loop T.F_loop.kp T.b_loop .nil pass0 (pa_cons (pv 9) (pa_cons (pv 8) pa_nil))))) (pw_or1 (pt_not (pt_val (pe_call (ok_loop T) (hr.mono (by decide)) (by rfl) T.g_loop T.F_loop.kp T.b_loop .nil pass0 (pa_cons (pv 5) (pa_cons (pv 8) pa_nil))))))))
          (pss_one (ps_ret pe_bl))
          pss_nil)
        (pss_cons (ps_if (pt_not (pt_val (pe_call (ok_loop T) (hr.mono (by decide)) (by rfl) T.g_loop T.F_loop.kp T.b_loop .nil pass0 (pa_cons (pe_callTy call_tuple_of (by rfl) T.z_tuple (by decide +kernel) (pa_cons (pe_lc (own := [("_law_k", 12)]) (g := gName 12) (tt := tYes) rfl sc_law.nd (pi_range1 (by rfl) T.z_range (pa_cons (pe_callB call_len_seq (by rfl) T.z_len PySem.boot_len (pa_cons (pv 5) pa_nil)) pa_nil)) (blkOk_by (own := [("_law_k", 12)]) (N := nm_law) (sc := (defScope s_law)) (by decide +kernel)) (fun _ _ _ _ _ => pg_name (i := 12) sc_law.nd rfl (Or.inl rfl)) (fun _ _ _ _ _ => pts_nil) (fun _ _ _ _ _ => (pe_op op_mul (pv 12) (pv 12)))) pa_nil)) (pa_cons (pv 8) pa_nil)))))
          (pss_one (ps_ret pe_bl))
          pss_nil)
        (pss_cons (ps_expr (pe_bm PySem.F.plainAttrs_list PySem.F.slot_list_append PySem.F.type_list_append mt_append (pv 6) (pa_cons (pe_call (ok_part T) (hr.mono (by decide)) (by rfl) T.g_part T.F_part.kp T.b_part .nil pass0 (pa_cons (pv 9) (pa_cons (pv 8) (pa_cons pe_str pa_nil)))) pa_nil)))
        (C8.pss_cut (ps_if (pt_cmpR (op_neD hr.units) (pv 8) (pe_tup pa_nil) (nomark _))
          (pss_one (ps_expr (pe_bm PySem.F.plainAttrs_list PySem.F.slot_list_append PySem.F.type_list_append mt_append (pv 6) (pa_cons (pe_call (ok_part T) (hr.mono (by decide)) (by rfl) T.g_part T.F_part.kp T.b_part .nil pass0 (pa_cons (pv 9) (pa_cons (pv 8) (pa_cons pe_str pa_nil)))) pa_nil))))
          pss_nil)
        (pss_one (ps_set (i := 7) sc_law.nd rfl (Or.inl rfl) (pe_op op_cat (pv 7) (pe_callTy call_list_of (by rfl) T.z_list (by decide +kernel) (pa_cons (pe_call (ok_part T) (hr.mono (by decide)) (by rfl) T.g_part T.F_part.kp T.b_part .nil pass0 (pa_cons (pv 9) (pa_cons (pv 8) (pa_cons pe_str pa_nil)))) pa_nil)))))))))))
      (pss_cons (ps_set (i := 13) sc_law.nd rfl (Or.inl rfl) (pe_lst pa_nil))
      (pss_cons (ps_for PassesOwn.never rfl (pi_list (pv 6)) (pg_name (i := 14) sc_law.nd rfl (Or.inl rfl))
        (pss_one (ps_set (i := 13) sc_law.nd rfl (Or.inl rfl) (pe_op op_cat (pv 13) (pe_callTy call_list_of (by rfl) T.z_list (by decide +kernel) (pa_cons (pv 14) pa_nil))))))
      (pss_cons (ps_set (i := 15) sc_law.nd rfl (Or.inl rfl) (pe_call (ok_wires T) (hr.mono (by decide)) (by rfl) T.g_wires T.F_wires.kp T.b_wires .nil pass0 (pa_cons (pv 3) (pa_cons (pv 4) (pa_cons pe_bl pa_nil)))))
      (pss_cons (ps_set (i := 16) sc_law.nd rfl (Or.inl rfl) (pe_call (ok_wires T) (hr.mono (by decide)) (by rfl) T.g_wires T.F_wires.kp T.b_wires .nil pass0 (pa_cons (pv 3) (pa_cons (pv 4) (pa_cons pe_bl pa_nil)))))
      (pss_cons (ps_set (i := 17) sc_law.nd rfl (Or.inl rfl) (pe_call (ok_dumb_numbers T) (hr.mono (by decide)) (by rfl) T.g_dumb_numbers T.F_dumb_numbers.kp T.b_dumb_numbers .nil pass0 (pa_cons (pv 3) (pa_cons (pv 4) pa_nil))))
      (pss_cons (ps_if (PW.pt (pw_or (pt_not (pt_val (pe_call (ok_tuples T) (hr.mono (by decide)) (by rfl) T.g_tuples T.F_tuples.kp T.b_tuples .nil pass0 (pa_cons (pv 15) pa_nil)))) (pw_or (pt_cmpR (op_neD hr.units) (pv 15) (pe_callTy call_tuple_of (by rfl) T.z_tuple (by decide +kernel) (pa_cons (pv 6) pa_nil)) (nomark _)) (pw_or (pt_not (pt_val (pe_call (ok_tuples T) (hr.mono (by decide)) (by rfl) T.g_tuples T.F_tuples.kp T.b_tuples .nil pass0 (pa_cons (pv 16) pa_nil)))) (pw_or1 (pt_cmpR (op_neD hr.units) (pv 16) (pe_tup (pa_cons (pe_callTy call_tuple_of (by rfl) T.z_tuple (by decide +kernel) (pa_cons (pv 13) pa_nil)) pa_nil)) (nomark _)))))))
        (pss_one (ps_ret pe_bl))
        pss_nil)
      (pss_cons (ps_if (PW.pt (pw_or (pt_not (pt_val (pe_callB call_isi (by rfl) T.z_isinstance (by decide +kernel) (pa_cons (pv 17) (pa_cons (pe_bltn (v := V.ty "tuple") (by rfl) T.z_tuple (by decide +kernel) rfl) pa_nil))))) (pw_or1 (pt_cmpR (op_neD hr.units) (pv 17) (pe_callTy call_tuple_of (by rfl) T.z_tuple (by decide +kernel) (pa_cons (pv 7) pa_nil)) (nomark _)))))
        (pss_one (ps_ret pe_bl))
        pss_nil)
      (pss_cons (ps_if (pt_cmpR (op_neD hr.units) (pe_callB cr_sortedS (by rfl) T.z_sorted (by decide +kernel) (pa_cons (pe_op op_cat (pe_callTy call_list_of (by rfl) T.z_list (by decide +kernel) (pa_cons (pe_ix ix_tup (pv 16) pe_int (fun _ _ => rfl)) pa_nil)) (pe_callTy call_list_of (by rfl) T.z_list (by decide +kernel) (pa_cons (pv 17) pa_nil))) pa_nil)) (pe_callB cr_sortedS (by rfl) T.z_sorted (by decide +kernel) (pa_cons (pe_call (ok_numbers T) (hr.mono (by decide)) (by rfl) T.g_numbers T.F_numbers.kp T.b_numbers .nil pass0 (pa_cons (pv 2) pa_nil)) pa_nil)) (nomark _))
        (pss_one (ps_ret pe_bl))
        pss_nil)
      (pss_one (ps_ret (pe_cmpR (op_eqD hr.units) (pe_call (ok_wires T) (hr.mono (by decide)) (by rfl) T.g_wires T.F_wires.kp T.b_wires .nil pass0 (pa_cons (pv 3) (pa_cons (pe_callTy call_tuple_of (by rfl) T.z_tuple (by decide +kernel) (pa_cons (pe_lc (own := [("_law_row", 5)]) (g := gName 5) (tt := tYes) rfl sc_law.nd (pi_tup (pv 2)) (blkOk_by (own := [("_law_row", 5)]) (N := nm_law) (sc := (defScope s_law)) (by decide +kernel)) (fun _ _ _ _ _ => pg_name (i := 5) sc_law.nd rfl (Or.inl rfl)) (fun _ _ _ _ _ => pts_nil) (fun _ _ _ _ _ => (pe_tup pa_nil))) pa_nil)) (pa_cons pe_bl pa_nil)))) (pe_callTy call_tuple_of (by rfl) T.z_tuple (by decide +kernel) (pa_cons (pe_lc (own := [("_law_row", 5)]) (g := gName 5) (tt := tYes) rfl sc_law.nd (pi_tup (pv 2)) (blkOk_by (own := [("_law_row", 5)]) (N := nm_law) (sc := (defScope s_law)) (by decide +kernel)) (fun _ _ _ _ _ => pg_name (i := 5) sc_law.nd rfl (Or.inl rfl)) (fun _ _ _ _ _ => pts_nil) (fun _ _ _ _ _ => (pe_callTy (show CallR _ _ (Kx.rTupOf K) from call_tuple_of) (by rfl) T.z_tuple (by decide +kernel) (pa_cons (pe_lc (own := [("_law_number_here", 10), ("_law_sort", 11)]) (g := gTup K 2 (gCons (gName 10) (gCons (gName 11) (gNil)))) (tt := tYes) rfl sc_law.nd (show PI _ _ _ (iTup K (tVar 5)) from (pi_tup (pv 5))) (blkOk_by (own := [("_law_number_here", 10), ("_law_sort", 11)]) (N := nm_law) (sc := ({ kind := .function, names := [(".0", .local), ("_law_row", .local), ("tuple", .globalImplicit)], isGenerator := false, isCoroutine := false } : Scope)) (by decide +kernel)) (fun _ _ _ _ _ => (pg_tup rfl (pgs_cons (pg_name (i := 10) sc_law.nd rfl (Or.inl rfl)) (pgs_cons (pg_name (i := 11) sc_law.nd rfl (Or.inl rfl)) pgs_nil)))) (fun _ _ _ _ _ => pts_nil) (fun _ _ _ _ _ => (pv 10))) pa_nil)))) pa_nil)) (nomark _))))))))))))))))))), ?_⟩
    refine ⟨_, rfl, a, ns, rfl, hSc, hlen, fun H1 s0 a1 b1 s1 bag1 _ _ => ?_⟩
    refine ⟨_, rfl, s0, a1, b1, 0, rfl, bag1, by omega, fun H2 y ls good ty bag2 but2 => ?_⟩
    clear bag1 but2 s1 hSc
    refine ⟨_, rfl, rfl, rfl, fun p dx hp hd ne => ?_⟩
    have hp2 : upd H2 dx (.own p) p = none := by rw [upd_ne (Ne.symm ne)]; exact hp
    have ty3 := (ty.k (Kt.new (K := K) (o := .own p) hd)).k (Kt.new (K := K) (o := .ins T.C dx []) hp2)
    have s3 : Same H2 (upd (upd H2 dx (.own p)) p (.ins T.C dx [])) := (same_new hd).trans (same_new hp2)
    refine ⟨p, dx, y, ls, 1, 1, rfl, upd_same, ty3, good, by decide, by decide, by decide, by decide, by decide, fun H4 off tw => ⟨rfl, ?_⟩⟩
    have s4 : Same H2 H4 := fun q o e => off q o (fun z => by rw [z, hp] at e; cases e) (s3 q o e)
    have ty4 := ty.k (Kt.same s4)
    have bag4 := bag2.keep s4
    clear bag2 ty3 s3 off hp2 hp hd ty s4
    obtain ⟨q, xs, rfl, hS, hd⟩ := ty4.inv
    have el := loops_len hd
    have g1 := good.l1
    have g2 := good.l2
    refine ⟨_, rfl, q, rfl, ⟨_, hS⟩, fun D hD => ?_⟩
    refine lc_it walk_tup (fun i H' => ∃ (acc : List V) (cs : List (List Nat)), H' D = some (.lst acc) ∧ acc.length = i ∧ cs.length = i ∧ Dts K H' acc (cs.map cutD) ∧ (∀ (j : Nat) l c, ls[j]? = some l → cs[j]? = some c → Cut l.length c) ∧ Src H' s0 a1 b1 (0 + 300 + 20 * i) ∧ But2 s0 a1 H4 H')
      ⟨[], [], upd_same, rfl, rfl, .nil, fun j l c _ e => by simp at e, bag4.keep (same_new hD), But2.of (same_new hD)⟩ (fun i H' _ h => let ⟨_, _, _, _, _, _, _, _, bt⟩ := h; But2.kt bag4 bt _ _ hS) (fun i x H5 H' hi hP hY => ?_) (fun H5 hP => ?_)
    · obtain ⟨rfl, hx⟩ := hY
      obtain ⟨acc, cs, ha, la, lcs, hacc, hcut, bag5, but5⟩ := hP
      obtain ⟨l, hl, tl⟩ := loops_at hd hx
      obtain ⟨q2, zs, rfl, hq2, hz⟩ := (tl.k (But2.kt bag4 but5)).inv
      have lz : zs.length = l.length := boxes_len hz
      have l10 := good.b2 _ (List.mem_of_getElem? hl)
      refine ⟨rfl, yesT ?_⟩
      refine ⟨_, rfl, _, rfl, q2, zs, rfl, .inr hq2, s0, a1, b1, _, zs.length, rfl, bag5, by omega, by omega, fun H7 z ks cut tz bag7 but7 => ?_⟩
      have D0 := bag4.off hD
      have ha7 := but7.keep _ _ D0.1 D0.2.1 ha
      have k8 : Kt K H7 (upd H7 D (.lst (acc ++ [z]))) := Kt.lst ha7
      refine ⟨acc, ha7, small1000 (by omega), acc ++ [z], cs ++ [ks], upd_same, by rw [List.length_append, la]; rfl, by rw [List.length_append, lcs]; rfl, ?_, fun j l2 c e1 e2 => ?_, (bag7.set D0).mono (by omega), (but5.trans but7).mut hD⟩
      · rw [List.map_append]
        exact ((hacc.k (But2.kt bag5 but7)).snoc tz).k k8
      · rcases at_snoc e2 with e2 | ⟨rfl, rfl⟩
        · exact hcut j l2 c e1 e2
        · rw [lcs, hl] at e1
          cases e1
          rw [← lz]
          exact cut
    obtain ⟨acc, cs, ha, la, lcs, hacc, hcut, bag5, but5⟩ := hP
    have tw5 := tw.but bag4 but5
    have kt5 := But2.kt (K := K) bag4 but5
    have hS5 := kt5 _ _ hS
    have hd5 := hd.k kt5
    have ty5 := ty4.k kt5
    clear kt5 bag5 but5 bag4 tw hS hd ty4
    refine ⟨D, acc, rfl, .inl ⟨SqL.of ha, fun Cq hCq => ?_⟩⟩
    have s6 : Same H5 (upd H5 Cq (.tup acc)) := same_new hCq
    have tC6 : Dt K (upd H5 Cq (.tup acc)) (.ref Cq) (cutsD cs) := dt_tup upd_same (hacc.k (Kt.new hCq))
    have eC6 : upd H5 Cq (.tup acc) Cq = some (.tup acc) := upd_same
    have dC6 := hacc.k (Kt.new (K := K) (o := .tup acc) hCq)
    have tw6 := tw5.keep s6
    have hS6 := sameT s6 hS5
    have hd6 := hd5.k (Kt.same (K := K) s6)
    have ty6 := ty5.k (Kt.same (K := K) s6)
    clear ha
    generalize upd H5 Cq (.tup acc) = H6 at *
    clear tw5 hS5 hd5 ty5 hacc s6 hCq
    refine ⟨Nat.zero_le _, fun u hu => ?_⟩
    have hu2 : upd H6 u (.lst []) u = some (.lst []) := upd_same
    have su : Same H6 (upd H6 u (.lst [])) := same_new hu
    refine ⟨Nat.zero_le _, fun v hv => ?_⟩
    have hv0 : H6 v = none := su.free hv
    have uv : u ≠ v := fun e => by rw [← e, hu2] at hv; cases hv
    have hu3 := at_old (u := .lst []) hu2 hv
    have hv3 : upd (upd H6 u (.lst [])) v (.lst []) v = some (.lst []) := upd_same
    have s7 : Same H6 (upd (upd H6 u (.lst [])) v (.lst [])) := su.trans (same_new hv)
    generalize upd (upd H6 u (.lst [])) v (.lst []) = H7 at *
    clear hu2 su hv
    have lacc : acc.length = ls.length := by omega
    have lcs2 : cs.length = ls.length := by omega
    refine ⟨_, rfl, _, rfl, q, Cq, xs, acc, rfl, .inr ⟨sameT s7 hS6, SqT.of (s7 _ _ eC6), ?_⟩⟩
    refine RZ.for_zipT (xs := xs) (ys := acc) (by omega) (fun i σ H' => ∃ (r : Addr) (v5 v8 v9 : Option V), σ = [some (.ref a), some (.ref s0), some (.ref q), some (.ref p), some (.ref Cq), v5, some (.ref u), some (.ref r), v8, v9, none, none, none, none, none, none, none, none] ∧
      Same H6 H' ∧ H6 r = none ∧ u ≠ r ∧ ∃ zs ws, H' u = some (.lst zs) ∧ Dts K H' zs ((partsL ((numsD ls).take i) (cs.take i)).map PyData.tuple) ∧ H' r = some (.lst ws) ∧ Dts K H' ws (dumbsL ((numsD ls).take i) (cs.take i)))
      ⟨v, none, none, none, rfl, s7, hv0, uv, [], [], hu3, by simp [partsL]; exact .nil, hv3, by simp [dumbsL]; exact .nil⟩ (fun i σ H' h => let ⟨_, _, _, _, _, s, _⟩ := h; ⟨sameT s hS6, SqT.of (s _ _ eC6)⟩) (fun i x y tp σ H8 hx hy hP htp => ?_) (fun σ H8 hP => ?_)
    · obtain ⟨r, v5, v8, v9, rfl, s8, hr0, ur, zs, ws, hzs, dzs, hws, dws⟩ := hP
      obtain ⟨l, hl, tl⟩ := loops_at hd6 hx
      obtain ⟨c, hc, tc⟩ := cuts_at dC6 hy
      have hcu := hcut i l c hl hc
      have l1 := good.b1 _ (List.mem_of_getElem? hl)
      have l10 := good.b2 _ (List.mem_of_getElem? hl)
      have s9 : Same H6 (upd H8 tp (.tup [x, y])) := s8.trans (same_new htp)
      have hzs9 := at_old (u := .tup [x, y]) hzs htp
      have hws9 := at_old (u := .tup [x, y]) hws htp
      have dzs9 := dzs.k (Kt.new (K := K) (o := .tup [x, y]) htp)
      have dws9 := dws.k (Kt.new (K := K) (o := .tup [x, y]) htp)
      refine ⟨tp, _, rfl, SqT.of upd_same, rfl, _, _, rfl, _, _, rfl, rfl, ?_⟩
      generalize upd H8 tp (.tup [x, y]) = H9 at *
      clear hzs hws dzs dws s8 htp
      obtain ⟨q2, rw', rfl, hq2, hz2⟩ := id tl.inv
      have lz : rw'.length = l.length := boxes_len hz2
      -- numbers_here
      refine ⟨_, rfl, q2, rfl, ⟨_, sameT s9 hq2⟩, fun D2 hD2 => ?_⟩
      refine Lm.lc_map (K := K) walk_tup (fun i y _ => (l.map numV)[i]? = some y) (fun _ _ _ _ h _ => h) hD2 (by omega) (fun H' s => sameT (s9.trans s) hq2) (fun j x H' hj hx sm2 Q2 Z q => ?_) (fun H10 ys s10 hys ly hR => ?_)
      · obtain ⟨b, hb, t⟩ := boxes_at hz2 hx
        obtain ⟨q1, rfl, hq⟩ := box_inv (t.k (Kt.same (s9.trans sm2)))
        refine ⟨q1, _, rfl, hq, rfl, _, _, rfl, _, _, rfl, rfl, rfl, yesT ?_⟩
        refine ⟨_, rfl, q _ _ (Same.refl _) ?_⟩
        rw [List.getElem?_map, hb]
        rfl
      have ey : ys = l.map numV := Lm.list_is (by rw [ly, List.length_map, lz]) hR
      subst ey
      refine ⟨D2, _, rfl, .inl ⟨SqL.of hys, fun N hN => ?_⟩⟩
      have s11 : Same H9 (upd H10 N (.tup (l.map numV))) := s10.trans (same_new hN)
      have tN : Dt K (upd H10 N (.tup (l.map numV))) (.ref N) (.tuple (l.map numD)) := dt_tup upd_same (dts_nums l)
      generalize upd H10 N (.tup (l.map numV)) = H11 at *
      clear hys hN s10
      have fN : ∀ d ∈ l.map numD, Fine 5 d := fun d m => by
        obtain ⟨b, mb, rfl⟩ := List.mem_map.mp m
        exact fine_numD (good.num b (List.mem_flatten.mpr ⟨l, List.mem_of_getElem? hl, mb⟩))
      have fB : ∀ d ∈ l.map boxD, Fine 5 d := fun d m => by
        obtain ⟨b, mb, rfl⟩ := List.mem_map.mp m
        exact fine_boxD (good.num b (List.mem_flatten.mpr ⟨l, List.mem_of_getElem? hl, mb⟩))
      have lN : (l.map numD).length = l.length := List.length_map ..
      have lB : (l.map boxD).length = l.length := List.length_map ..
      have cN : Cut (l.map numD).length c := by rw [lN]; exact hcu
      have cB : Cut (l.map boxD).length c := by rw [lB]; exact hcu
      have s6b := s9.trans s11
      -- the three asks
      refine ⟨_, rfl, _, rfl, .ref N, y, _, c, rfl, tN, tc.k (Kt.same s6b), cN, by omega, fN, fun H12 s12 => ⟨true, rfl, iteF ?_⟩⟩
      refine ⟨_, rfl, _, rfl, .ref q2, y, _, c, rfl, tl.k (Kt.same (s6b.trans s12)), tc.k (Kt.same (s6b.trans s12)), cB, by omega, fB, fun H13 s13 => ⟨true, rfl, iteF ?_⟩⟩
      have s6c := (s6b.trans s12).trans s13
      have tN13 := tN.k (Kt.same (s12.trans s13))
      have s9c := (s11.trans s12).trans s13
      clear s12 s13 s6b tN s11
      refine ⟨_, rfl, q2, rw', rfl, .inr (sameT s6c hq2), _, rfl, by omega, by omega, fun D3 hD3 => ?_⟩
      rw [Int.toNat_natCast]
      refine Lm.lc_map (K := K) (walk_rngL (lo := 0) (n := rw'.length)) (fun i y _ => ((sqs rw'.length).map V.int)[i]? = some y) (fun _ _ _ _ h _ => h) hD3 (by omega) (fun _ _ => trivial) (fun j x H' hj hx sm2 Q2 Z q => ?_) (fun H14 ys s14 hys ly hR => ?_)
      · rw [List.getElem?_map, List.getElem?_range hj] at hx
        cases Option.some.inj hx
        refine ⟨rfl, yesT ?_⟩
        refine ⟨_, rfl, _, rfl, _, _, rfl, rfl, .inl ⟨by omega, by omega⟩, q _ _ (Same.refl _) ?_⟩
        rw [Int.zero_add]
        exact sqs_at hj
      have ey : ys = (sqs rw'.length).map V.int := Lm.list_is (by rw [ly, List.length_map, sqs_len]) hR
      subst ey
      refine ⟨D3, _, rfl, .inl ⟨SqL.of hys, fun M hM => ?_⟩⟩
      have s15 := s14.trans (same_new (o := .tup ((sqs rw'.length).map V.int)) hM)
      have s6d := s6c.trans s15
      have tM : Dt K (upd H14 M (.tup ((sqs rw'.length).map V.int))) (.ref M) (.tuple ((sqs rw'.length).map PyData.int)) := dt_tup upd_same (dts_int _)
      generalize upd H14 M (.tup ((sqs rw'.length).map V.int)) = H15 at *
      have lM : ((sqs rw'.length).map PyData.int).length = l.length := by rw [List.length_map, sqs_len, lz]
      refine ⟨_, rfl, .ref M, y, _, c, rfl, tM, tc.k (Kt.same s6d), by rw [lM]; exact hcu, by omega, fun d m => ?_, fun H16 s16 => ⟨true, rfl, iteF ?_⟩⟩
      · obtain ⟨z, _, rfl⟩ := List.mem_map.mp m
        exact fine_int z
      have s6e := s6d.trans s16
      have tN16 := tN13.k (Kt.same (s15.trans s16))
      have s9e := (s9c.trans s15).trans s16
      have hzs16 := s9e _ _ hzs9
      have hws16 := s9e _ _ hws9
      have dzs16 := dzs9.k (Kt.same s9e)
      have dws16 := dws9.k (Kt.same s9e)
      clear hys hM s14 tM hD3 hD2 s6c s6d s9c tN13 s15 s16 s9e hzs9 hws9 dzs9 dws9
      have ln : ((numsD ls).take i).length ≤ 3 := by unfold numsD; rw [List.length_take, List.length_map]; omega
      have stake : (cs.take i).length = ((numsD ls).take i).length := by unfold numsD; rw [List.length_take, List.length_take, List.length_map]; omega
      have lp := parts_len ((numsD ls).take i) (cs.take i)
      have lzs := dzs16.len
      rw [List.length_map] at lzs
      -- due.append(near)
      refine ⟨_, rfl, .inl ⟨rfl, _, SqL.of hzs16⟩, _, rfl, _, rfl, .ref N, y, _, c, .near, rfl, tN16, tc.k (Kt.same s6e), cN, by omega, fun H17 z17 s17 t17 => ?_⟩
      have hzs17 := s17 _ _ hzs16
      refine ⟨u, zs, z17, rfl, rfl, hzs17, small1000 (by omega), ?_⟩
      have k18 : Kt K H17 (upd H17 u (.lst (zs ++ [z17]))) := Kt.lst hzs17
      have s18 : Same H6 (upd H17 u (.lst (zs ++ [z17]))) := same_mut (s6e.trans s17) hu
      have dzs18 := ((dzs16.k (Kt.same s17)).snoc t17).k k18
      have dws18 := (dws16.k (Kt.same s17)).k k18
      have hzs18 : upd H17 u (.lst (zs ++ [z17])) u = some (.lst (zs ++ [z17])) := upd_same
      have hws18 : upd H17 u (.lst (zs ++ [z17])) r = some (.lst ws) := by rw [upd_ne (Ne.symm ur)]; exact s17 _ _ hws16
      have tN18 := (tN16.k (Kt.same s17)).k k18
      generalize upd H17 u (.lst (zs ++ [z17])) = H18 at *
      clear hzs16 hws16 dzs16 dws16 tN16 hzs17 k18 t17 s17 s6e
      -- far
      refine ⟨fun σ H' => σ = [some (.ref a), some (.ref s0), some (.ref q), some (.ref p), some (.ref Cq), some (.ref q2), some (.ref u), some (.ref r), some y, some (.ref N), none, none, none, none, none, none, none, none] ∧ Same H6 H' ∧ Dt K H' (.ref N) (.tuple (l.map numD)) ∧
        H' r = some (.lst ws) ∧ Dts K H' ws (dumbsL ((numsD ls).take i) (cs.take i)) ∧ ∃ zs, H' u = some (.lst zs) ∧ Dts K H' zs ((partsL ((numsD ls).take (i + 1)) (cs.take (i + 1))).map PyData.tuple), ?_, ?_⟩
      · rw [nums_take hl, cs_take hc, parts_snoc _ _ _ _ stake, List.map_append]
        refine ⟨_, rfl, Nat.zero_le _, fun E1 hE1 => ?_⟩
        have s19 := same_new (o := .tup []) hE1
        have fc := fine_cut c
        refine ⟨_, _, (tc.k (Kt.same (s18.trans s19))).toDp, (dt_tup upd_same .nil).toDp, fc.shaped (by decide), by decide +kernel, _, rfl, ?_⟩
        have hzs19 := s19 _ _ hzs18
        have hws19 := s19 _ _ hws18
        have dzs19 := dzs18.k (Kt.same s19)
        have dws19 := dws18.k (Kt.same s19)
        have tN19 := tN18.k (Kt.same s19)
        have s20 := s18.trans s19
        generalize upd H18 E1 (.tup []) = H19 at *
        clear hzs18 hws18 dzs18 dws18 tN18 s18 hE1
        cases c with
        | nil =>
          rw [show PyData.eqv (cutD []) (.tuple []) = true by decide +kernel]
          exact iteF ⟨rfl, s20, tN19, hws19, dws19, _, hzs19, dzs19⟩
        | cons c0 cr =>
          rw [eqv_cons]
          refine iteT ?_
          refine ⟨_, rfl, .inl ⟨rfl, _, SqL.of hzs19⟩, _, rfl, _, rfl, .ref N, y, _, _, .far, rfl, tN19, tc.k (Kt.same s20), cN, by omega, fun H21 z21 s21 t21 => ?_⟩
          have hzs21 := s21 _ _ hzs19
          refine ⟨u, _, z21, rfl, rfl, hzs21, small1000 (by rw [List.length_append, List.length_singleton]; omega), ?_⟩
          have k22 : Kt K H21 (upd H21 u (.lst (zs ++ [z17] ++ [z21]))) := Kt.lst hzs21
          have dzs22 := ((dzs19.k (Kt.same s21)).snoc t21).k k22
          refine ⟨rfl, same_mut (s20.trans s21) hu, (tN19.k (Kt.same s21)).k k22, by rw [upd_ne (Ne.symm ur)]; exact s21 _ _ hws19, (dws19.k (Kt.same s21)).k k22, _, upd_same, ?_⟩
          rw [List.append_assoc (List.map PyData.tuple _)] at dzs22
          exact dzs22
      · rintro σ H20 ⟨rfl, s20, tN20, hws20, dws20, zs2, hzs20, dzs20⟩
        have lw := dws20.len
        have df := dumbs_flat ((numsD ls).take i) (cs.take i) fun m mm => nums_le good m (List.mem_of_mem_take mm)
        refine ⟨_, rfl, _, rfl, _, rfl, .ref N, y, _, c, .dumb, rfl, tN20, tc.k (Kt.same s20), cN, by omega, fun H21 z21 s21 t21 => ?_⟩
        obtain ⟨q3, xs3, rfl, hq3, hd3⟩ := t21.inv
        have l3 := hd3.len
        have dl := dumb_len (l.map numD) c
        have es : side (l.map numD) c .dumb = dumbL (l.map numD) c := rfl
        refine ⟨q3, xs3, rfl, .inr hq3, fun L hL => ?_⟩
        refine ⟨r, L, ws, xs3, rfl, rfl, at_old (s21 _ _ hws20) hL, upd_same, Nat.le_of_lt (small1000 (by rw [es] at l3; omega)), fun r2 hr2 => ?_⟩
        have s22 : Same H20 (upd H21 L (.lst xs3)) := s21.trans (same_new hL)
        have k22 : Kt K H21 (upd H21 L (.lst xs3)) := Kt.new hL
        have k23 : Kt K (upd H21 L (.lst xs3)) (upd (upd H21 L (.lst xs3)) r2 (.lst (ws ++ xs3))) := Kt.new hr2
        have s23 : Same H20 (upd (upd H21 L (.lst xs3)) r2 (.lst (ws ++ xs3))) := s22.trans (same_new hr2)
        refine ⟨r2, _, _, _, rfl, s20.trans s23, (s20.trans s22).free hr2, fun e => ?_, zs2, ws ++ xs3, s23 _ _ hzs20, dzs20.k (Kt.same s23), upd_same, ?_⟩
        · rw [← e, s22 _ _ hzs20] at hr2
          cases hr2
        · rw [nums_take hl, cs_take hc, dumbs_snoc _ _ _ _ stake]
          rw [es] at hd3
          exact ((dws20.k (Kt.same s22)).k k23).app ((hd3.k k22).k k23)
    · obtain ⟨r, v5, v8, v9, rfl, s8, hr0, ur, zs, ws, hzs, dzs, hws, dws⟩ := hP
      have ex : (numsD ls).take xs.length = numsD ls := by rw [List.take_of_length_le]; unfold numsD; rw [List.length_map]; omega
      have ec : cs.take xs.length = cs := List.take_of_length_le (by omega)
      rw [ex, ec] at dzs dws
      clear ex ec
      have pf := parts_flat (numsD ls) cs (nums_le good)
      have df := dumbs_flat (numsD ls) cs (nums_le good)
      have pl := parts_len (numsD ls) cs
      have lnd : (numsD ls).length = ls.length := by unfold numsD; rw [List.length_map]
      obtain ⟨parts, hparts⟩ : ∃ parts, parts = partsL (numsD ls) cs := ⟨_, rfl⟩
      rw [← hparts] at dzs pf pl
      have lzs := dzs.len
      rw [List.length_map] at lzs
      refine ⟨Nat.zero_le _, fun t ht => ?_⟩
      have s9 := s8.trans (same_new (o := .lst []) ht)
      have s89 : Same H8 (upd H8 t (.lst [])) := same_new ht
      have ht9 : upd H8 t (.lst []) t = some (.lst []) := upd_same
      have hzs9 := s89 _ _ hzs
      have dzs9 := dzs.k (Kt.same s89)
      have hws9 := s89 _ _ hws
      have dws9 := dws.k (Kt.same s89)
      generalize upd H8 t (.lst []) = H9 at *
      clear s89 s8 hzs dzs hws dws ht
      refine ⟨_, rfl, u, rfl, ⟨_, SqL.of hzs9⟩, ?_⟩
      refine for_it walk_list (fun i σ H' => ∃ (t : Addr) (v14 : Option V), σ = [some (.ref a), some (.ref s0), some (.ref q), some (.ref p), some (.ref Cq), v5, some (.ref u), some (.ref r), v8, v9, none, none, none, some (.ref t), v14, none, none, none] ∧
        Same H9 H' ∧ ∃ ts, H' t = some (.lst ts) ∧ Dts K H' ts (parts.take i).flatten) ⟨t, none, rfl, Same.refl _, [], ht9, by simp; exact .nil⟩ (fun i σ H' _ h => let ⟨_, _, _, s, _⟩ := h; SqL.of (s _ _ hzs9)) (fun i x σ H10 H' hi hP hY => ?_) (fun σ H10 hP => ?_)
      · obtain ⟨rfl, hx⟩ := hY
        obtain ⟨t, v14, rfl, s10, ts, hts, dts⟩ := hP
        obtain ⟨d, e2, td⟩ := dzs9.at hx
        rw [List.getElem?_map] at e2
        obtain ⟨ds, eds, rfl⟩ := Option.map_eq_some_iff.mp e2
        obtain ⟨q4, xs4, rfl, hq4, hd4⟩ := (td.k (Kt.same s10)).inv
        have lt := dts.len
        have l4 := hd4.len
        have f1 := flat_take_le parts i
        have f2 : ((parts.take i).flatten ++ ds).length ≤ 60 := by
          rw [← flat_succ eds]
          exact Nat.le_trans (flat_take_le parts (i + 1)) (by omega)
        rw [List.length_append] at f2
        refine ⟨_, rfl, _, rfl, q4, xs4, rfl, .inr hq4, fun L hL => ?_⟩
        refine ⟨t, L, ts, xs4, rfl, rfl, at_old hts hL, upd_same, Nat.le_of_lt (small1000 (by omega)), fun t2 ht2 => ?_⟩
        have s12 : Same H' (upd (upd H' L (.lst xs4)) t2 (.lst (ts ++ xs4))) := (same_new hL).trans (same_new ht2)
        refine ⟨t2, _, rfl, s10.trans s12, ts ++ xs4, upd_same, ?_⟩
        rw [flat_succ eds]
        exact (dts.k (Kt.same s12)).app (hd4.k (Kt.same s12))
      · obtain ⟨t, v14, rfl, s10, ts, hts, dts⟩ := hP
        rw [lzs, List.take_length] at dts
        have s11 := s9.trans s10
        have hzs11 := s10 _ _ hzs9
        have hws11 := s10 _ _ hws9
        have dzs11 := dzs9.k (Kt.same s10)
        have dws11 := dws9.k (Kt.same s10)
        clear s9 s10 hzs9 hws9 dzs9 dws9 ht9
        refine ⟨_, rfl, _, rfl, p, .ref Cq, false, ls, cs, rfl, tw6.keep s11, good, tC6.k (Kt.same s11), ⟨lcs2, hcut⟩, fun H12 z12 s12 f12 _ => ?_⟩
        have t12 := f12 rfl
        rw [← hparts] at t12
        have s12a := s11.trans s12
        refine ⟨_, rfl, _, rfl, p, .ref Cq, true, ls, cs, rfl, tw6.keep s12a, good, tC6.k (Kt.same s12a), ⟨lcs2, hcut⟩, fun H13 z13 s13 _ f13 => ?_⟩
        have t13 := f13 rfl
        rw [← hparts] at t13
        have s13a := s12a.trans s13
        refine ⟨_, rfl, _, rfl, p, .ref Cq, ls, cs, rfl, tw6.keep s13a, good, tC6.k (Kt.same s13a), ⟨lcs2, hcut⟩, fun H14 z14 s14 t14 => ?_⟩
        have s14a := s13a.trans s14
        have s1014 := (s12.trans s13).trans s14
        have t12a := t12.k (Kt.same (s13.trans s14))
        have t13a := t13.k (Kt.same s14)
        have hzs14 := s1014 _ _ hzs11
        have hws14 := s1014 _ _ hws11
        have hts14 := s1014 _ _ hts
        have dzs14 := dzs11.k (Kt.same s1014)
        have dws14 := dws11.k (Kt.same s1014)
        have dts14 := dts.k (Kt.same s1014)
        clear hzs11 hws11 hts dzs11 dws11 dts t12 t13 f12 f13 s12 s13 s14 s12a s13a s1014 s11
        -- the texts
        have perm := nT_perm ⟨lcs2, hcut⟩
        have eparts : parts = (partsL (nT ls) cs).map fun l => l.map PyData.str := by rw [hparts, numsD_nT, parts_map]
        have edumb : dumbsL (numsD ls) cs = (dumbsL (nT ls) cs).map PyData.str := by rw [numsD_nT, dumbs_map]
        rw [edumb] at t14 dws14 df
        rw [eparts] at t12a t13a dzs14 dts14 pl pf
        clear hparts eparts edumb
        generalize partsL (nT ls) cs = PT at *
        generalize dumbsL (nT ls) cs = DT at *
        rw [← List.map_flatten] at t13a dts14 pf
        rw [List.length_map] at pl df pf
        have fall : ∀ n, ∀ x ∈ PT.flatten ++ DT, Fine n (.str x) := fun n x m => fine_all good x (perm.mem_iff.mp m)
        have fP := fine_tups (n := 5) fun x m => fall 5 x (List.mem_append_left _ m)
        have fF := fine_strs (n := 5) fun x m => fall 5 x (List.mem_append_left _ m)
        have fJ : Fine 7 (.tuple [.tuple (PT.flatten.map PyData.str)]) := fine_tup fun d m => by
          rw [List.mem_singleton.mp m]
          exact fF
        have fD := fine_strs (n := 5) fun x m => fall 5 x (List.mem_append_right _ m)
        -- apart
        refine ⟨_, rfl, z12, _, rfl, t12a, by rw [List.length_map]; omega, fun H15 s15 => ⟨true, rfl, iteF ?_⟩⟩
        refine ⟨_, rfl, _, rfl, u, zs, rfl, .inl ⟨SqL.of (s15 _ _ hzs14), fun T1 hT1 => ?_⟩⟩
        have s16 := s15.trans (same_new (o := .tup zs) hT1)
        refine ⟨_, _, (t12a.k (Kt.same s16)).toDp, (dt_tup upd_same (dzs14.k (Kt.same s16))).toDp, fP.shaped (by decide), fP.shaped (by decide), ?_⟩
        rw [fP.refl]
        refine ⟨_, rfl, iteF ?_⟩
        generalize upd H15 T1 (.tup zs) = H16 at *
        clear s15 hT1
        -- joined
        refine ⟨_, rfl, z13, [PT.flatten.map PyData.str], rfl, t13a.k (Kt.same s16), by show 1 ≤ 100; decide, fun H17 s17 => ⟨true, rfl, iteF ?_⟩⟩
        refine ⟨_, rfl, _, rfl, t, ts, rfl, .inl ⟨SqL.of (s17 _ _ (s16 _ _ hts14)), fun T2 hT2 => ?_⟩⟩
        refine ⟨by show 1 ≤ sizeLine; decide, fun T3 hT3 => ?_⟩
        have s18 := (s16.trans s17).trans (same_new (o := .tup ts) hT2)
        have s19 := s18.trans (same_new (o := .tup [.ref T2]) hT3)
        have d18 := dt_tup (upd_same (H := H17) (a := T2) (o := .tup ts)) (dts14.k (Kt.same (K := K) s18))
        have d19 := dt_tup (upd_same (a := T3) (o := .tup [.ref T2])) (.cons (d18.k (Kt.new (K := K) (o := .tup [.ref T2]) hT3)) .nil)
        refine ⟨_, _, (t13a.k (Kt.same s19)).toDp, d19.toDp, fJ.shaped (by decide), fJ.shaped (by decide), ?_⟩
        rw [fJ.refl]
        refine ⟨_, rfl, iteF ?_⟩
        generalize upd (upd H17 T2 (.tup ts)) T3 (.tup [.ref T2]) = H19 at *
        clear d18 d19 s18 s17 s16 hT2 hT3
        -- silent
        have t14b := t14.k (Kt.same s19)
        obtain ⟨q14, xs14, rfl, hq14, hd14⟩ := id t14b.inv
        refine ⟨_, rfl, _, _, _, _, true, rfl, .ty "tuple", tyT hq14, kit_ty (by decide +kernel), true, rfl, iteF ?_⟩
        refine ⟨_, rfl, _, rfl, r, ws, rfl, .inl ⟨SqL.of (s19 _ _ hws14), fun T4 hT4 => ?_⟩⟩
        have s20 := s19.trans (same_new (o := .tup ws) hT4)
        refine ⟨_, _, (t14.k (Kt.same s20)).toDp, (dt_tup upd_same (dws14.k (Kt.same s20))).toDp, fD.shaped (by decide), fD.shaped (by decide), ?_⟩
        rw [fD.refl]
        refine ⟨_, rfl, iteF ?_⟩
        have hq14b := sameT (same_new (o := .tup ws) hT4) hq14
        have t13b := t13a.k (Kt.same s20)
        generalize upd H19 T4 (.tup ws) = H20 at *
        clear s19 hT4 hq14 t14b hts14 dts14 hzs14 dzs14 hws14 dws14 t13a t12a
        -- sorted
        have exs := dts_str_inv hd14
        subst exs
        obtain ⟨q13, xs13, rfl, hq13, hd13⟩ := id t13b.inv
        obtain ⟨x13, e13, t13c⟩ := hd13.get (i := 0) rfl
        obtain ⟨q15, xs15, rfl, hq15, hd15⟩ := id t13c.inv
        have exs := dts_str_inv hd15
        subst exs
        have lall := perm.length_eq
        have gf := good.flat
        rw [List.length_append, List.length_map] at lall
        refine ⟨_, rfl, q13, xs13, 0, _, rfl, rfl, hq13, atI_nat (j := 0) e13, q15, _, rfl, .inr hq15, fun L1 hL1 => ?_⟩
        have s21 := same_new (o := .lst (PT.flatten.map V.str)) hL1
        have e21 : upd H20 L1 (.lst (PT.flatten.map V.str)) L1 = some (.lst (PT.flatten.map V.str)) := upd_same
        generalize upd H20 L1 (.lst (PT.flatten.map V.str)) = H21 at *
        refine ⟨_, rfl, q14, _, rfl, .inr (sameT s21 hq14b), fun L2 hL2 => ?_⟩
        refine ⟨L1, L2, _, _, rfl, rfl, at_old e21 hL2, upd_same, Nat.le_of_lt (small1000 (by rw [List.length_map, List.length_map]; omega)), fun L3 hL3 => ?_⟩
        have s22 := (s21.trans (same_new (o := .lst (DT.map V.str)) hL2)).trans (same_new (o := .lst (PT.flatten.map V.str ++ DT.map V.str)) hL3)
        rw [← List.map_append] at s22 ⊢
        refine ⟨L3, PT.flatten ++ DT, rfl, SqL.of upd_same, by rw [List.length_append]; omega, fun ys1 L4 pm1 so1 hL4 => ?_⟩
        have s23 := s22.trans (same_new (o := .lst (ys1.map V.str)) hL4)
        have e23 : upd (upd (upd H21 L2 (.lst (DT.map V.str))) L3 (.lst ((PT.flatten ++ DT).map V.str))) L4 (.lst (ys1.map V.str)) L4 = some (.lst (ys1.map V.str)) := upd_same
        generalize upd (upd (upd H21 L2 (.lst (DT.map V.str))) L3 (.lst ((PT.flatten ++ DT).map V.str))) L4 (.lst (ys1.map V.str)) = H23 at *
        have s623 := s14a.trans (s20.trans s23)
        refine ⟨_, rfl, .ref q, ls, rfl, ty6.k (Kt.same s623), good, fun H24 L5 s24 _ e24 => ?_⟩
        refine ⟨L5, ls.flatten.map numT, rfl, SqL.of (by rw [e24, List.map_map]; rfl), by rw [List.length_map]; omega, fun ys2 L6 pm2 so2 hL6 => ?_⟩
        have eys : ys1 = ys2 := sorted_one _ _ (pm1.trans (perm.trans pm2.symm)) so1 so2
        subst eys
        have s25 := s24.trans (same_new (o := .lst (ys1.map V.str)) hL6)
        have fY := fine_lst (fine_strs (n := 5) fun x m => fall 5 x (pm1.mem_iff.mp m))
        refine ⟨_, _, .lst (SqL.of (s25 _ _ e23)) (dts_str ys1).toDp, .lst (SqL.of upd_same) (dts_str ys1).toDp, fY.shaped (by decide), fY.shaped (by decide), ?_⟩
        rw [fY.refl]
        refine ⟨_, rfl, iteF ?_⟩
        have s625 := s623.trans s25
        generalize upd H24 L6 (.lst (ys1.map V.str)) = H25 at *
        clear s24 s25 s22 s23 s21 hL1 hL2 hL3 hL4 hL6 e21 e23 e24
        -- no cuts
        have hS25 := sameT s625 hS6
        have hd25 := hd6.k (Kt.same (K := K) s625)
        have tw25 := tw6.keep s625
        clear s623 s20
        refine ⟨_, rfl, _, rfl, q, rfl, ⟨_, hS25⟩, fun D9 hD9 => ?_⟩
        refine Lm.lc_map (K := K) walk_tup (fun i y H' => ∃ d, (ls.map fun _ => cutD [])[i]? = some d ∧ Dt K H' y d) (fun _ _ _ _ ⟨d, e, t⟩ kt => ⟨d, e, t.k kt⟩) hD9 (by omega) (fun H' s => sameT s hS25) (fun i x H' hi hx sm Q2 Z q2 => ?_) (fun H26 ys26 s26 hys26 ly26 hR26 => ?_)
        · refine ⟨rfl, yesT ⟨Nat.zero_le _, fun pe hpe => q2 _ _ (same_new hpe) ⟨cutD [], ?_, dt_tup upd_same .nil⟩⟩⟩
          rw [List.getElem?_map, List.getElem?_eq_getElem (by omega)]
          rfl
        have d26 := dts_of (by rw [ly26, el, List.length_map]) hR26
        refine ⟨D9, _, rfl, .inl ⟨SqL.of hys26, fun T9 hT9 => ?_⟩⟩
        have s27 := s26.trans (same_new (o := .tup ys26) hT9)
        have t27 : Dt K (upd H26 T9 (.tup ys26)) (.ref T9) (cutsD (ls.map fun _ => [])) := by
          refine dt_tup upd_same ?_
          rw [List.map_map]
          exact d26.k (Kt.new hT9)
        refine ⟨p, .ref T9, false, ls, ls.map fun _ => [], rfl, tw25.keep s27, good, t27, ⟨by rw [List.length_map], fun i l c _ e2 => ?_⟩, fun H28 z28 s28 f28 _ => ?_⟩
        · rw [List.getElem?_map] at e2
          obtain ⟨_, _, rfl⟩ := Option.map_eq_some_iff.mp e2
          exact ⟨fun _ m => by simp at m, .nil⟩
        have t28 := f28 rfl
        rw [show (ls.map fun _ => ([] : List Nat)) = ((numsD ls).map fun _ => []) by unfold numsD; rw [List.map_map]; rfl, parts_none] at t28
        have s2528 := s27.trans s28
        have hS28 := sameT s2528 hS25
        have hd28 := hd25.k (Kt.same (K := K) s2528)
        clear t27 d26 f28 s27 s28 hys26
        -- the numbers of the loops
        refine ⟨_, rfl, q, rfl, ⟨_, hS28⟩, fun D10 hD10 => ?_⟩
        refine Lm.lc_map (K := K) walk_tup (fun i y H' => ∃ d, ((numsD ls).map PyData.tuple)[i]? = some d ∧ Dt K H' y d) (fun _ _ _ _ ⟨d, e, t⟩ kt => ⟨d, e, t.k kt⟩) hD10 (by omega) (fun H' s => sameT s hS28) (fun i x H' hi hx sm Q2 Z q2 => ?_) (fun H29 ys29 s29 hys29 ly29 hR29 => ?_)
        · obtain ⟨l, hl, tl⟩ := loops_at hd28 hx
          obtain ⟨q5, zs5, rfl, hq5, hz5⟩ := (tl.k (Kt.same sm)).inv
          have lz : zs5.length = l.length := boxes_len hz5
          have l10 := good.b2 _ (List.mem_of_getElem? hl)
          refine ⟨rfl, yesT ?_⟩
          refine ⟨_, rfl, q5, rfl, ⟨_, hq5⟩, fun D11 hD11 => ?_⟩
          refine Lm.lc_map (K := K) walk_tup (fun i y _ => (l.map numV)[i]? = some y) (fun _ _ _ _ h _ => h) hD11 (by omega) (fun H' s => sameT s hq5) (fun j x H' hj hx sm2 Q3 Z3 q3 => ?_) (fun H30 ys30 s30 hys30 ly30 hR30 => ?_)
          · obtain ⟨b, hb, t⟩ := boxes_at hz5 hx
            obtain ⟨q1, rfl, hq⟩ := box_inv (t.k (Kt.same sm2))
            refine ⟨q1, _, rfl, hq, rfl, _, _, rfl, _, _, rfl, rfl, rfl, yesT ?_⟩
            refine ⟨_, rfl, q3 _ _ (Same.refl _) ?_⟩
            rw [List.getElem?_map, hb]
            rfl
          have ey : ys30 = l.map numV := Lm.list_is (by rw [ly30, List.length_map, lz]) hR30
          subst ey
          refine ⟨D11, _, rfl, .inl ⟨SqL.of hys30, fun T11 hT11 => ?_⟩⟩
          refine q2 _ _ (s30.trans (same_new hT11)) ⟨.tuple (l.map numD), ?_, dt_tup upd_same (dts_nums l)⟩
          unfold numsD
          rw [List.getElem?_map, List.getElem?_map, hl]
          rfl
        have d29 := dts_of (by rw [ly29, el, List.length_map, lnd]) hR29
        refine ⟨D10, _, rfl, .inl ⟨SqL.of hys29, fun T12 hT12 => ?_⟩⟩
        have s30 := s29.trans (same_new (o := .tup ys29) hT12)
        have fN : Fine 7 (.tuple ((numsD ls).map PyData.tuple)) := by
          rw [numsD_nT]
          exact fine_tups (n := 5) fun x m => fine_all good x (by rw [← nT_flat]; exact m)
        refine ⟨_, _, (t28.k (Kt.same s30)).toDp, (dt_tup upd_same (d29.k (Kt.new hT12))).toDp, fN.shaped (by decide), fN.shaped (by decide), ?_⟩
        rw [fN.refl]
        exact kk _
end
end K18

namespace K18
open PySem L2 Wm TL Dv
theorem all_mk {l : PySem.W.OpenLaw} {w : World} {K : PySem.W.Frag} {h : Heap} {mg : Str → Option Value} {fa : Addr} (X : K.In h) (G : h.Ns mainGlobals mg) (hfa : mg "law" = some (.ref fa))
    {xC : Addr} (aC : PySem.W.nsIn K mainGlobals "Town" = some (some (.ref xC)))
    {x_is_whole : Addr} {od_is_whole an_is_whole : Option Addr} {sl_is_whole : Array (Option Value)} {oc_is_whole kV_is_whole dc_is_whole pm_is_whole cd_is_whole ct_is_whole : Value}
    (a_is_whole : PySem.W.nsIn K mainGlobals "is_whole" = some (some (.ref x_is_whole)))
    (l_is_whole : K.lookup x_is_whole = some ⟨oc_is_whole, od_is_whole, .func (PySem.W.fnOf "is_whole" "is_whole" (defArgs s_is_whole) (defBody s_is_whole) (defScope s_is_whole) .none kV_is_whole dc_is_whole pm_is_whole an_is_whole cd_is_whole ct_is_whole), sl_is_whole⟩)
    (c_is_whole : PySem.W.codeIn K cd_is_whole "is_whole" = true) (k_is_whole : PySem.W.keepIn K (.ref x_is_whole) = true)
    {x_is_whole_within : Addr} {od_is_whole_within an_is_whole_within : Option Addr} {sl_is_whole_within : Array (Option Value)} {oc_is_whole_within kV_is_whole_within dc_is_whole_within pm_is_whole_within cd_is_whole_within ct_is_whole_within : Value}
    (a_is_whole_within : PySem.W.nsIn K mainGlobals "is_whole_within" = some (some (.ref x_is_whole_within)))
    (l_is_whole_within : K.lookup x_is_whole_within = some ⟨oc_is_whole_within, od_is_whole_within, .func (PySem.W.fnOf "is_whole_within" "is_whole_within" (defArgs s_is_whole_within) (defBody s_is_whole_within) (defScope s_is_whole_within) .none kV_is_whole_within dc_is_whole_within pm_is_whole_within an_is_whole_within cd_is_whole_within ct_is_whole_within), sl_is_whole_within⟩)
    (c_is_whole_within : PySem.W.codeIn K cd_is_whole_within "is_whole_within" = true) (k_is_whole_within : PySem.W.keepIn K (.ref x_is_whole_within) = true)
    {x_is_sequence : Addr} {od_is_sequence an_is_sequence : Option Addr} {sl_is_sequence : Array (Option Value)} {oc_is_sequence kV_is_sequence dc_is_sequence pm_is_sequence cd_is_sequence ct_is_sequence : Value}
    (a_is_sequence : PySem.W.nsIn K mainGlobals "is_sequence" = some (some (.ref x_is_sequence)))
    (l_is_sequence : K.lookup x_is_sequence = some ⟨oc_is_sequence, od_is_sequence, .func (PySem.W.fnOf "is_sequence" "is_sequence" (defArgs s_is_sequence) (defBody s_is_sequence) (defScope s_is_sequence) .none kV_is_sequence dc_is_sequence pm_is_sequence an_is_sequence cd_is_sequence ct_is_sequence), sl_is_sequence⟩)
    (c_is_sequence : PySem.W.codeIn K cd_is_sequence "is_sequence" = true) (k_is_sequence : PySem.W.keepIn K (.ref x_is_sequence) = true)
    {x_is_number : Addr} {od_is_number an_is_number : Option Addr} {sl_is_number : Array (Option Value)} {oc_is_number kV_is_number dc_is_number pm_is_number cd_is_number ct_is_number : Value}
    (a_is_number : PySem.W.nsIn K mainGlobals "is_number" = some (some (.ref x_is_number)))
    (l_is_number : K.lookup x_is_number = some ⟨oc_is_number, od_is_number, .func (PySem.W.fnOf "is_number" "is_number" (defArgs s_is_number) (defBody s_is_number) (defScope s_is_number) .none kV_is_number dc_is_number pm_is_number an_is_number cd_is_number ct_is_number), sl_is_number⟩)
    (c_is_number : PySem.W.codeIn K cd_is_number "is_number" = true) (k_is_number : PySem.W.keepIn K (.ref x_is_number) = true)
    {x_is_sort : Addr} {od_is_sort an_is_sort : Option Addr} {sl_is_sort : Array (Option Value)} {oc_is_sort kV_is_sort dc_is_sort pm_is_sort cd_is_sort ct_is_sort : Value}
    (a_is_sort : PySem.W.nsIn K mainGlobals "is_sort" = some (some (.ref x_is_sort)))
    (l_is_sort : K.lookup x_is_sort = some ⟨oc_is_sort, od_is_sort, .func (PySem.W.fnOf "is_sort" "is_sort" (defArgs s_is_sort) (defBody s_is_sort) (defScope s_is_sort) .none kV_is_sort dc_is_sort pm_is_sort an_is_sort cd_is_sort ct_is_sort), sl_is_sort⟩)
    (c_is_sort : PySem.W.codeIn K cd_is_sort "is_sort" = true) (k_is_sort : PySem.W.keepIn K (.ref x_is_sort) = true)
    {x_has_double : Addr} {od_has_double an_has_double : Option Addr} {sl_has_double : Array (Option Value)} {oc_has_double kV_has_double dc_has_double pm_has_double cd_has_double ct_has_double : Value}
    (a_has_double : PySem.W.nsIn K mainGlobals "has_double" = some (some (.ref x_has_double)))
    (l_has_double : K.lookup x_has_double = some ⟨oc_has_double, od_has_double, .func (PySem.W.fnOf "has_double" "has_double" (defArgs s_has_double) (defBody s_has_double) (defScope s_has_double) .none kV_has_double dc_has_double pm_has_double an_has_double cd_has_double ct_has_double), sl_has_double⟩)
    (c_has_double : PySem.W.codeIn K cd_has_double "has_double" = true) (k_has_double : PySem.W.keepIn K (.ref x_has_double) = true)
    {x_are_loops : Addr} {od_are_loops an_are_loops : Option Addr} {sl_are_loops : Array (Option Value)} {oc_are_loops kV_are_loops dc_are_loops pm_are_loops cd_are_loops ct_are_loops : Value}
    (a_are_loops : PySem.W.nsIn K mainGlobals "are_loops" = some (some (.ref x_are_loops)))
    (l_are_loops : K.lookup x_are_loops = some ⟨oc_are_loops, od_are_loops, .func (PySem.W.fnOf "are_loops" "are_loops" (defArgs s_are_loops) (defBody s_are_loops) (defScope s_are_loops) .none kV_are_loops dc_are_loops pm_are_loops an_are_loops cd_are_loops ct_are_loops), sl_are_loops⟩)
    (c_are_loops : PySem.W.codeIn K cd_are_loops "are_loops" = true) (k_are_loops : PySem.W.keepIn K (.ref x_are_loops) = true)
    {x_check_boxes : Addr} {od_check_boxes an_check_boxes : Option Addr} {sl_check_boxes : Array (Option Value)} {oc_check_boxes kV_check_boxes dc_check_boxes pm_check_boxes cd_check_boxes ct_check_boxes : Value}
    (a_check_boxes : PySem.W.nsIn K mainGlobals "check_boxes" = some (some (.ref x_check_boxes)))
    (l_check_boxes : K.lookup x_check_boxes = some ⟨oc_check_boxes, od_check_boxes, .func (PySem.W.fnOf "check_boxes" "check_boxes" (defArgs s_check_boxes) (defBody s_check_boxes) (defScope s_check_boxes) .none kV_check_boxes dc_check_boxes pm_check_boxes an_check_boxes cd_check_boxes ct_check_boxes), sl_check_boxes⟩)
    (c_check_boxes : PySem.W.codeIn K cd_check_boxes "check_boxes" = true) (k_check_boxes : PySem.W.keepIn K (.ref x_check_boxes) = true)
    {x_check_town : Addr} {od_check_town an_check_town : Option Addr} {sl_check_town : Array (Option Value)} {oc_check_town kV_check_town dc_check_town pm_check_town cd_check_town ct_check_town : Value}
    (a_check_town : PySem.W.nsIn K mainGlobals "check_town" = some (some (.ref x_check_town)))
    (l_check_town : K.lookup x_check_town = some ⟨oc_check_town, od_check_town, .func (PySem.W.fnOf "check_town" "check_town" (defArgs s_check_town) (defBody s_check_town) (defScope s_check_town) .none kV_check_town dc_check_town pm_check_town an_check_town cd_check_town ct_check_town), sl_check_town⟩)
    (c_check_town : PySem.W.codeIn K cd_check_town "check_town" = true) (k_check_town : PySem.W.keepIn K (.ref x_check_town) = true)
    {x_init : Addr} {od_init an_init : Option Addr} {sl_init : Array (Option Value)} {oc_init dc_init pm_init cd_init ct_init : Value}
    {xD : Addr} {tD : Tok}
    (a_init : PySem.W.findIn K (.ref xC) "__init__" = some (some (.ref x_init)))
    (i_init : PySem.W.isFn K (.ref x_init) = true)
    (l_init : K.lookup x_init = some ⟨oc_init, od_init, .func (PySem.W.fnOf "__init__" "Town.__init__" (defArgs s_init) (defBody s_init) (defScope s_init) .none (.ref xD) dc_init pm_init an_init cd_init ct_init), sl_init⟩)
    (c_init : PySem.W.codeIn K cd_init "Town.__init__" = true) (k_init : PySem.W.keepIn K (.ref x_init) = true)
    (e_init : PySem.W.nsIn K xD "hear" = some (some (.int 1 tD)))
    {x_wire : Addr} {od_wire an_wire : Option Addr} {sl_wire : Array (Option Value)} {oc_wire kV_wire dc_wire pm_wire cd_wire ct_wire : Value}
    {xT : Addr} {ocT : Value} {odT : Option Addr} {nT : Nat} {slT : Array (Option Value)}
    (a_wire : PySem.W.findIn K (.ref xC) "wire" = some (some (.ref x_wire)))
    (i_wire : PySem.W.isFn K (.ref x_wire) = true)
    (l_wire : K.lookup x_wire = some ⟨oc_wire, od_wire, .func (PySem.W.fnOf "wire" "Town.wire" (defArgs s_wire) (defBody s_wire) (defScope s_wire) (.ref xT) kV_wire dc_wire pm_wire an_wire cd_wire ct_wire), sl_wire⟩)
    (c_wire : PySem.W.codeIn K cd_wire "Town.wire" = true) (k_wire : PySem.W.keepIn K (.ref x_wire) = true)
    (e_wire : K.lookup xT = some ⟨ocT, odT, .seq #[.none] nT, slT⟩)
    {x_near_part : Addr} {od_near_part an_near_part : Option Addr} {sl_near_part : Array (Option Value)} {oc_near_part kV_near_part dc_near_part pm_near_part cd_near_part ct_near_part : Value}
    (a_near_part : PySem.W.nsIn K mainGlobals "near_part" = some (some (.ref x_near_part)))
    (l_near_part : K.lookup x_near_part = some ⟨oc_near_part, od_near_part, .func (PySem.W.fnOf "near_part" "near_part" (defArgs s_near_part) (defBody s_near_part) (defScope s_near_part) .none kV_near_part dc_near_part pm_near_part an_near_part cd_near_part ct_near_part), sl_near_part⟩)
    (c_near_part : PySem.W.codeIn K cd_near_part "near_part" = true) (k_near_part : PySem.W.keepIn K (.ref x_near_part) = true)
    {x_far_part : Addr} {od_far_part an_far_part : Option Addr} {sl_far_part : Array (Option Value)} {oc_far_part kV_far_part dc_far_part pm_far_part cd_far_part ct_far_part : Value}
    (a_far_part : PySem.W.nsIn K mainGlobals "far_part" = some (some (.ref x_far_part)))
    (l_far_part : K.lookup x_far_part = some ⟨oc_far_part, od_far_part, .func (PySem.W.fnOf "far_part" "far_part" (defArgs s_far_part) (defBody s_far_part) (defScope s_far_part) .none kV_far_part dc_far_part pm_far_part an_far_part cd_far_part ct_far_part), sl_far_part⟩)
    (c_far_part : PySem.W.codeIn K cd_far_part "far_part" = true) (k_far_part : PySem.W.keepIn K (.ref x_far_part) = true)
    {x_dumb_part : Addr} {od_dumb_part an_dumb_part : Option Addr} {sl_dumb_part : Array (Option Value)} {oc_dumb_part kV_dumb_part dc_dumb_part pm_dumb_part cd_dumb_part ct_dumb_part : Value}
    (a_dumb_part : PySem.W.nsIn K mainGlobals "dumb_part" = some (some (.ref x_dumb_part)))
    (l_dumb_part : K.lookup x_dumb_part = some ⟨oc_dumb_part, od_dumb_part, .func (PySem.W.fnOf "dumb_part" "dumb_part" (defArgs s_dumb_part) (defBody s_dumb_part) (defScope s_dumb_part) .none kV_dumb_part dc_dumb_part pm_dumb_part an_dumb_part cd_dumb_part ct_dumb_part), sl_dumb_part⟩)
    (c_dumb_part : PySem.W.codeIn K cd_dumb_part "dumb_part" = true) (k_dumb_part : PySem.W.keepIn K (.ref x_dumb_part) = true)
    {x_loop_numbers : Addr} {od_loop_numbers an_loop_numbers : Option Addr} {sl_loop_numbers : Array (Option Value)} {oc_loop_numbers kV_loop_numbers dc_loop_numbers pm_loop_numbers cd_loop_numbers ct_loop_numbers : Value}
    (a_loop_numbers : PySem.W.nsIn K mainGlobals "loop_numbers" = some (some (.ref x_loop_numbers)))
    (l_loop_numbers : K.lookup x_loop_numbers = some ⟨oc_loop_numbers, od_loop_numbers, .func (PySem.W.fnOf "loop_numbers" "loop_numbers" (defArgs s_loop_numbers) (defBody s_loop_numbers) (defScope s_loop_numbers) .none kV_loop_numbers dc_loop_numbers pm_loop_numbers an_loop_numbers cd_loop_numbers ct_loop_numbers), sl_loop_numbers⟩)
    (c_loop_numbers : PySem.W.codeIn K cd_loop_numbers "loop_numbers" = true) (k_loop_numbers : PySem.W.keepIn K (.ref x_loop_numbers) = true)
    {x_wires : Addr} {od_wires an_wires : Option Addr} {sl_wires : Array (Option Value)} {oc_wires kV_wires dc_wires pm_wires cd_wires ct_wires : Value}
    (a_wires : PySem.W.nsIn K mainGlobals "wires" = some (some (.ref x_wires)))
    (l_wires : K.lookup x_wires = some ⟨oc_wires, od_wires, .func (PySem.W.fnOf "wires" "wires" (defArgs s_wires) (defBody s_wires) (defScope s_wires) .none kV_wires dc_wires pm_wires an_wires cd_wires ct_wires), sl_wires⟩)
    (c_wires : PySem.W.codeIn K cd_wires "wires" = true) (k_wires : PySem.W.keepIn K (.ref x_wires) = true)
    {x_dumb_numbers : Addr} {od_dumb_numbers an_dumb_numbers : Option Addr} {sl_dumb_numbers : Array (Option Value)} {oc_dumb_numbers kV_dumb_numbers dc_dumb_numbers pm_dumb_numbers cd_dumb_numbers ct_dumb_numbers : Value}
    (a_dumb_numbers : PySem.W.nsIn K mainGlobals "dumb_numbers" = some (some (.ref x_dumb_numbers)))
    (l_dumb_numbers : K.lookup x_dumb_numbers = some ⟨oc_dumb_numbers, od_dumb_numbers, .func (PySem.W.fnOf "dumb_numbers" "dumb_numbers" (defArgs s_dumb_numbers) (defBody s_dumb_numbers) (defScope s_dumb_numbers) .none kV_dumb_numbers dc_dumb_numbers pm_dumb_numbers an_dumb_numbers cd_dumb_numbers ct_dumb_numbers), sl_dumb_numbers⟩)
    (c_dumb_numbers : PySem.W.codeIn K cd_dumb_numbers "dumb_numbers" = true) (k_dumb_numbers : PySem.W.keepIn K (.ref x_dumb_numbers) = true)
    {x_source : Addr} {od_source an_source : Option Addr} {sl_source : Array (Option Value)} {oc_source kV_source dc_source pm_source cd_source ct_source : Value}
    (a_source : PySem.W.nsIn K mainGlobals "_law_source" = some (some (.ref x_source)))
    (l_source : K.lookup x_source = some ⟨oc_source, od_source, .func (PySem.W.fnOf "_law_source" "_law_source" (defArgs s_source) (defBody s_source) (defScope s_source) .none kV_source dc_source pm_source an_source cd_source ct_source), sl_source⟩)
    (c_source : PySem.W.codeIn K cd_source "_law_source" = true) (k_source : PySem.W.keepIn K (.ref x_source) = true)
    {x_draw : Addr} {od_draw an_draw : Option Addr} {sl_draw : Array (Option Value)} {oc_draw kV_draw dc_draw pm_draw cd_draw ct_draw : Value}
    (a_draw : PySem.W.nsIn K mainGlobals "_law_draw" = some (some (.ref x_draw)))
    (l_draw : K.lookup x_draw = some ⟨oc_draw, od_draw, .func (PySem.W.fnOf "_law_draw" "_law_draw" (defArgs s_draw) (defBody s_draw) (defScope s_draw) .none kV_draw dc_draw pm_draw an_draw cd_draw ct_draw), sl_draw⟩)
    (c_draw : PySem.W.codeIn K cd_draw "_law_draw" = true) (k_draw : PySem.W.keepIn K (.ref x_draw) = true)
    {x_number : Addr} {od_number an_number : Option Addr} {sl_number : Array (Option Value)} {oc_number kV_number dc_number pm_number cd_number ct_number : Value}
    (a_number : PySem.W.nsIn K mainGlobals "_law_number" = some (some (.ref x_number)))
    (l_number : K.lookup x_number = some ⟨oc_number, od_number, .func (PySem.W.fnOf "_law_number" "_law_number" (defArgs s_number) (defBody s_number) (defScope s_number) .none kV_number dc_number pm_number an_number cd_number ct_number), sl_number⟩)
    (c_number : PySem.W.codeIn K cd_number "_law_number" = true) (k_number : PySem.W.keepIn K (.ref x_number) = true)
    {x_fresh : Addr} {od_fresh an_fresh : Option Addr} {sl_fresh : Array (Option Value)} {oc_fresh kV_fresh dc_fresh pm_fresh cd_fresh ct_fresh : Value}
    (a_fresh : PySem.W.nsIn K mainGlobals "_law_fresh" = some (some (.ref x_fresh)))
    (l_fresh : K.lookup x_fresh = some ⟨oc_fresh, od_fresh, .func (PySem.W.fnOf "_law_fresh" "_law_fresh" (defArgs s_fresh) (defBody s_fresh) (defScope s_fresh) .none kV_fresh dc_fresh pm_fresh an_fresh cd_fresh ct_fresh), sl_fresh⟩)
    (c_fresh : PySem.W.codeIn K cd_fresh "_law_fresh" = true) (k_fresh : PySem.W.keepIn K (.ref x_fresh) = true)
    {x_loops : Addr} {od_loops an_loops : Option Addr} {sl_loops : Array (Option Value)} {oc_loops kV_loops dc_loops pm_loops cd_loops ct_loops : Value}
    (a_loops : PySem.W.nsIn K mainGlobals "_law_loops" = some (some (.ref x_loops)))
    (l_loops : K.lookup x_loops = some ⟨oc_loops, od_loops, .func (PySem.W.fnOf "_law_loops" "_law_loops" (defArgs s_loops) (defBody s_loops) (defScope s_loops) .none kV_loops dc_loops pm_loops an_loops cd_loops ct_loops), sl_loops⟩)
    (c_loops : PySem.W.codeIn K cd_loops "_law_loops" = true) (k_loops : PySem.W.keepIn K (.ref x_loops) = true)
    {x_numbers : Addr} {od_numbers an_numbers : Option Addr} {sl_numbers : Array (Option Value)} {oc_numbers kV_numbers dc_numbers pm_numbers cd_numbers ct_numbers : Value}
    (a_numbers : PySem.W.nsIn K mainGlobals "_law_numbers" = some (some (.ref x_numbers)))
    (l_numbers : K.lookup x_numbers = some ⟨oc_numbers, od_numbers, .func (PySem.W.fnOf "_law_numbers" "_law_numbers" (defArgs s_numbers) (defBody s_numbers) (defScope s_numbers) .none kV_numbers dc_numbers pm_numbers an_numbers cd_numbers ct_numbers), sl_numbers⟩)
    (c_numbers : PySem.W.codeIn K cd_numbers "_law_numbers" = true) (k_numbers : PySem.W.keepIn K (.ref x_numbers) = true)
    {x_stretches : Addr} {od_stretches an_stretches : Option Addr} {sl_stretches : Array (Option Value)} {oc_stretches kV_stretches dc_stretches pm_stretches cd_stretches ct_stretches : Value}
    (a_stretches : PySem.W.nsIn K mainGlobals "_law_stretches" = some (some (.ref x_stretches)))
    (l_stretches : K.lookup x_stretches = some ⟨oc_stretches, od_stretches, .func (PySem.W.fnOf "_law_stretches" "_law_stretches" (defArgs s_stretches) (defBody s_stretches) (defScope s_stretches) .none kV_stretches dc_stretches pm_stretches an_stretches cd_stretches ct_stretches), sl_stretches⟩)
    (c_stretches : PySem.W.codeIn K cd_stretches "_law_stretches" = true) (k_stretches : PySem.W.keepIn K (.ref x_stretches) = true)
    {x_side : Addr} {od_side an_side : Option Addr} {sl_side : Array (Option Value)} {oc_side kV_side dc_side pm_side cd_side ct_side : Value}
    (a_side : PySem.W.nsIn K mainGlobals "_law_side" = some (some (.ref x_side)))
    (l_side : K.lookup x_side = some ⟨oc_side, od_side, .func (PySem.W.fnOf "_law_side" "_law_side" (defArgs s_side) (defBody s_side) (defScope s_side) .none kV_side dc_side pm_side an_side cd_side ct_side), sl_side⟩)
    (c_side : PySem.W.codeIn K cd_side "_law_side" = true) (k_side : PySem.W.keepIn K (.ref x_side) = true)
    {x_part : Addr} {od_part an_part : Option Addr} {sl_part : Array (Option Value)} {oc_part kV_part dc_part pm_part cd_part ct_part : Value}
    (a_part : PySem.W.nsIn K mainGlobals "_law_part" = some (some (.ref x_part)))
    (l_part : K.lookup x_part = some ⟨oc_part, od_part, .func (PySem.W.fnOf "_law_part" "_law_part" (defArgs s_part) (defBody s_part) (defScope s_part) .none kV_part dc_part pm_part an_part cd_part ct_part), sl_part⟩)
    (c_part : PySem.W.codeIn K cd_part "_law_part" = true) (k_part : PySem.W.keepIn K (.ref x_part) = true)
    {x_loop : Addr} {od_loop an_loop : Option Addr} {sl_loop : Array (Option Value)} {oc_loop kV_loop dc_loop pm_loop cd_loop ct_loop : Value}
    (a_loop : PySem.W.nsIn K mainGlobals "_law_loop" = some (some (.ref x_loop)))
    (l_loop : K.lookup x_loop = some ⟨oc_loop, od_loop, .func (PySem.W.fnOf "_law_loop" "_law_loop" (defArgs s_loop) (defBody s_loop) (defScope s_loop) .none kV_loop dc_loop pm_loop an_loop cd_loop ct_loop), sl_loop⟩)
    (c_loop : PySem.W.codeIn K cd_loop "_law_loop" = true) (k_loop : PySem.W.keepIn K (.ref x_loop) = true)
    {x_tuples : Addr} {od_tuples an_tuples : Option Addr} {sl_tuples : Array (Option Value)} {oc_tuples kV_tuples dc_tuples pm_tuples cd_tuples ct_tuples : Value}
    (a_tuples : PySem.W.nsIn K mainGlobals "_law_tuples" = some (some (.ref x_tuples)))
    (l_tuples : K.lookup x_tuples = some ⟨oc_tuples, od_tuples, .func (PySem.W.fnOf "_law_tuples" "_law_tuples" (defArgs s_tuples) (defBody s_tuples) (defScope s_tuples) .none kV_tuples dc_tuples pm_tuples an_tuples cd_tuples ct_tuples), sl_tuples⟩)
    (c_tuples : PySem.W.codeIn K cd_tuples "_law_tuples" = true) (k_tuples : PySem.W.keepIn K (.ref x_tuples) = true)
    {x_law : Addr} {od_law an_law : Option Addr} {sl_law : Array (Option Value)} {oc_law kV_law dc_law pm_law cd_law ct_law : Value}
    (a_law : PySem.W.nsIn K mainGlobals "law" = some (some (.ref x_law)))
    (l_law : K.lookup x_law = some ⟨oc_law, od_law, .func (PySem.W.fnOf "law" "law" (defArgs s_law) (defBody s_law) (defScope s_law) .none kV_law dc_law pm_law an_law cd_law ct_law), sl_law⟩)
    (c_law : PySem.W.codeIn K cd_law "law" = true) (k_law : PySem.W.keepIn K (.ref x_law) = true)
    (pg : PySem.W.plainGet K xC Str.empty = true)
    (hd : PySem.W.hasDictIn K xC = true)
    (po : PySem.W.plainOver K xC = true)
    (sa : PySem.W.findIn K (.ref xC) "__setattr__" = some (some (.builtin "object.__setattr__")))
    (mk : PySem.W.makesIn K xC = true)
    (kc : PySem.W.keepIn K (.ref xC) = true)
    (nL : PySem.W.findIn K (.ref xC) "loops" = some none)
    (nR : PySem.W.findIn K (.ref xC) "rounds" = some none)
    (nH : PySem.W.findIn K (.ref xC) "hear" = some none)
    (nN : PySem.W.findIn K (.ref xC) "numbers" = some none)
    (rd : PySem.W.readsIn K xC (.type "type") = true)
    (ga : PySem.W.specialIn K (.ref xC) "__getattribute__" = some (some (.builtin "type.__getattribute__")))
    {tP tS : Tok} (vP : PySem.W.findCls K (.ref xC) (.type "type") "PLAIN" = some (.val (.str "plain" tP))) (vS : PySem.W.findCls K (.ref xC) (.type "type") "SHY" = some (.val (.str "shy" tS)))
    {t_DIGITS : Tok} (n_DIGITS : PySem.W.nsIn K mainGlobals "DIGITS" = some (some (.str "123456789" t_DIGITS)))
    {t_MOST_DIGITS : Tok} (n_MOST_DIGITS : PySem.W.nsIn K mainGlobals "MOST_DIGITS" = some (some (.int 4 t_MOST_DIGITS)))
    {t_GREATEST_SUM : Tok} (n_GREATEST_SUM : PySem.W.nsIn K mainGlobals "GREATEST_SUM" = some (some (.int 24 t_GREATEST_SUM)))
    {t_MOST_LOOPS : Tok} (n_MOST_LOOPS : PySem.W.nsIn K mainGlobals "MOST_LOOPS" = some (some (.int 3 t_MOST_LOOPS)))
    {t_MOST_BOXES : Tok} (n_MOST_BOXES : PySem.W.nsIn K mainGlobals "MOST_BOXES" = some (some (.int 10 t_MOST_BOXES)))
    {t_MOST_ROUNDS : Tok} (n_MOST_ROUNDS : PySem.W.nsIn K mainGlobals "MOST_ROUNDS" = some (some (.int 8 t_MOST_ROUNDS)))
    (z_abs : PySem.W.nsIn K mainGlobals "abs" = some none)
    (z_all : PySem.W.nsIn K mainGlobals "all" = some none)
    (z_bool : PySem.W.nsIn K mainGlobals "bool" = some none)
    (z_enumerate : PySem.W.nsIn K mainGlobals "enumerate" = some none)
    (z_int : PySem.W.nsIn K mainGlobals "int" = some none)
    (z_isinstance : PySem.W.nsIn K mainGlobals "isinstance" = some none)
    (z_len : PySem.W.nsIn K mainGlobals "len" = some none)
    (z_list : PySem.W.nsIn K mainGlobals "list" = some none)
    (z_min : PySem.W.nsIn K mainGlobals "min" = some none)
    (z_range : PySem.W.nsIn K mainGlobals "range" = some none)
    (z_set : PySem.W.nsIn K mainGlobals "set" = some none)
    (z_sorted : PySem.W.nsIn K mainGlobals "sorted" = some none)
    (z_str : PySem.W.nsIn K mainGlobals "str" = some none)
    (z_sum : PySem.W.nsIn K mainGlobals "sum" = some none)
    (z_tuple : PySem.W.nsIn K mainGlobals "tuple" = some none)
    (z_zip : PySem.W.nsIn K mainGlobals "zip" = some none)
    : ∃ fd : FuncData, (∀ (s : Shared) (v : Value), BindsTo s fd ⟨[v], []⟩ [("_law_script", v)]) ∧ ∀ base : Heap, K.In base → base.Ns mainGlobals mg → FnOk l.prog w K mg base CX0 7 fa fd ["_law_script"] (sp_law K) := by
  have e := hfa.symm.trans (PySem.W.mg_of X G a_law)
  cases e
  have F_is_whole := fun_mk (st := s_is_whole) l_is_whole c_is_whole k_is_whole
  have b_is_whole := F_is_whole.binds (ps := ["thing"]) fun _ _ _ _ _ _ us hl => match us, hl with | [_], _ => rfl
  have F_is_whole_within := fun_mk (st := s_is_whole_within) l_is_whole_within c_is_whole_within k_is_whole_within
  have b_is_whole_within := F_is_whole_within.binds (ps := ["thing", "low", "high"]) fun _ _ _ _ _ _ us hl => match us, hl with | [_, _, _], _ => rfl
  have F_is_sequence := fun_mk (st := s_is_sequence) l_is_sequence c_is_sequence k_is_sequence
  have b_is_sequence := F_is_sequence.binds (ps := ["thing"]) fun _ _ _ _ _ _ us hl => match us, hl with | [_], _ => rfl
  have F_is_number := fun_mk (st := s_is_number) l_is_number c_is_number k_is_number
  have b_is_number := F_is_number.binds (ps := ["thing"]) fun _ _ _ _ _ _ us hl => match us, hl with | [_], _ => rfl
  have F_is_sort := fun_mk (st := s_is_sort) l_is_sort c_is_sort k_is_sort
  have b_is_sort := F_is_sort.binds (ps := ["thing"]) fun _ _ _ _ _ _ us hl => match us, hl with | [_], _ => rfl
  have F_has_double := fun_mk (st := s_has_double) l_has_double c_has_double k_has_double
  have b_has_double := F_has_double.binds (ps := ["boxes"]) fun _ _ _ _ _ _ us hl => match us, hl with | [_], _ => rfl
  have F_are_loops := fun_mk (st := s_are_loops) l_are_loops c_are_loops k_are_loops
  have b_are_loops := F_are_loops.binds (ps := ["thing"]) fun _ _ _ _ _ _ us hl => match us, hl with | [_], _ => rfl
  have F_check_boxes := fun_mk (st := s_check_boxes) l_check_boxes c_check_boxes k_check_boxes
  have b_check_boxes := F_check_boxes.binds (ps := ["boxes"]) fun _ _ _ _ _ _ us hl => match us, hl with | [_], _ => rfl
  have F_check_town := fun_mk (st := s_check_town) l_check_town c_check_town k_check_town
  have b_check_town := F_check_town.binds (ps := ["loops", "rounds", "hear"]) fun _ _ _ _ _ _ us hl => match us, hl with | [_, _, _], _ => rfl
  have F_init : FunD K "__init__" "Town.__init__" (defArgs s_init) (defBody s_init) (defScope s_init) [] [("hear", V.int 1)] x_init _ := ⟨⟨_, _, _, _, _, _, _, _, _, _, rfl, l_init, c_init, .inl ⟨rfl, rfl⟩, .inr ⟨xD, rfl, fun q m => by rw [List.mem_singleton.mp m]; exact ⟨_, e_init, ⟨_, rfl⟩⟩⟩⟩, k_init⟩
  have kb := F_init.kbinds0 (ps := ["self", "loops", "rounds", "hear"]) 2 ["rounds"] [("hear", V.int 1)] (fun vs mz zs => vs ++ zs ++ mz) (by decide) (fun _ h => h) (fun a b c => (a.append c).append b) fun D doc pm an cdv ct us mv ws h1 h2 h3 => match us, mv, ws, h1, h2, h3 with | [_, _], [_], [_], _, _, _ => ⟨_, _, _, _, _, _, rfl, rfl, rfl⟩
  obtain ⟨mv, kb⟩ := kb
  have F_wire : FunD K "wire" "Town.wire" (defArgs s_wire) (defBody s_wire) (defScope s_wire) [V.non] [] x_wire _ := ⟨⟨_, _, _, _, _, _, _, _, _, _, rfl, l_wire, c_wire, .inr ⟨by decide, xT, _, [.none], _, rfl, e_wire, rfl, .cons rfl .nil⟩, .inl rfl⟩, k_wire⟩
  have b_wire := F_wire.binds1 (ps := ["self", "loop"]) 2 1 (by decide) rfl fun T kV doc pm an cdv ct us its h1 h2 => match us, its, h1, h2 with | [_, _], [_], _, _ => ⟨_, rfl, rfl⟩
  obtain ⟨ds_wire, rd_wire, b_wire⟩ := b_wire
  cases rd_wire
  have F_near_part := fun_mk (st := s_near_part) l_near_part c_near_part k_near_part
  have b_near_part := F_near_part.binds (ps := ["boxes", "stretches"]) fun _ _ _ _ _ _ us hl => match us, hl with | [_, _], _ => rfl
  have F_far_part := fun_mk (st := s_far_part) l_far_part c_far_part k_far_part
  have b_far_part := F_far_part.binds (ps := ["boxes", "stretches"]) fun _ _ _ _ _ _ us hl => match us, hl with | [_, _], _ => rfl
  have F_dumb_part := fun_mk (st := s_dumb_part) l_dumb_part c_dumb_part k_dumb_part
  have b_dumb_part := F_dumb_part.binds (ps := ["boxes", "stretches"]) fun _ _ _ _ _ _ us hl => match us, hl with | [_, _], _ => rfl
  have F_loop_numbers := fun_mk (st := s_loop_numbers) l_loop_numbers c_loop_numbers k_loop_numbers
  have b_loop_numbers := F_loop_numbers.binds (ps := ["town", "loop"]) fun _ _ _ _ _ _ us hl => match us, hl with | [_, _], _ => rfl
  have F_wires := fun_mk (st := s_wires) l_wires c_wires k_wires
  have b_wires := F_wires.binds (ps := ["town", "cuts", "joined"]) fun _ _ _ _ _ _ us hl => match us, hl with | [_, _, _], _ => rfl
  have F_dumb_numbers := fun_mk (st := s_dumb_numbers) l_dumb_numbers c_dumb_numbers k_dumb_numbers
  have b_dumb_numbers := F_dumb_numbers.binds (ps := ["town", "cuts"]) fun _ _ _ _ _ _ us hl => match us, hl with | [_, _], _ => rfl
  have F_source := fun_mk (st := s_source) l_source c_source k_source
  have b_source := F_source.binds (ps := ["_law_script"]) fun _ _ _ _ _ _ us hl => match us, hl with | [_], _ => rfl
  have F_draw := fun_mk (st := s_draw) l_draw c_draw k_draw
  have b_draw := F_draw.binds (ps := ["_law_source_here", "_law_many"]) fun _ _ _ _ _ _ us hl => match us, hl with | [_, _], _ => rfl
  have F_number := fun_mk (st := s_number) l_number c_number k_number
  have b_number := F_number.binds (ps := ["_law_source_here"]) fun _ _ _ _ _ _ us hl => match us, hl with | [_], _ => rfl
  have F_fresh := fun_mk (st := s_fresh) l_fresh c_fresh k_fresh
  have b_fresh := F_fresh.binds (ps := ["_law_source_here", "_law_taken"]) fun _ _ _ _ _ _ us hl => match us, hl with | [_, _], _ => rfl
  have F_loops := fun_mk (st := s_loops) l_loops c_loops k_loops
  have b_loops := F_loops.binds (ps := ["_law_source_here", "_law_shy"]) fun _ _ _ _ _ _ us hl => match us, hl with | [_, _], _ => rfl
  have F_numbers := fun_mk (st := s_numbers) l_numbers c_numbers k_numbers
  have b_numbers := F_numbers.binds (ps := ["_law_loops_here"]) fun _ _ _ _ _ _ us hl => match us, hl with | [_], _ => rfl
  have F_stretches := fun_mk (st := s_stretches) l_stretches c_stretches k_stretches
  have b_stretches := F_stretches.binds (ps := ["_law_source_here", "_law_many"]) fun _ _ _ _ _ _ us hl => match us, hl with | [_, _], _ => rfl
  have F_side := fun_mk (st := s_side) l_side c_side k_side
  have b_side := F_side.binds (ps := ["_law_place", "_law_stretches_here", "_law_side_here"]) fun _ _ _ _ _ _ us hl => match us, hl with | [_, _, _], _ => rfl
  have F_part := fun_mk (st := s_part) l_part c_part k_part
  have b_part := F_part.binds (ps := ["_law_items", "_law_stretches_here", "_law_side_here"]) fun _ _ _ _ _ _ us hl => match us, hl with | [_, _, _], _ => rfl
  have F_loop := fun_mk (st := s_loop) l_loop c_loop k_loop
  have b_loop := F_loop.binds (ps := ["_law_items", "_law_stretches_here"]) fun _ _ _ _ _ _ us hl => match us, hl with | [_, _], _ => rfl
  have F_tuples := fun_mk (st := s_tuples) l_tuples c_tuples k_tuples
  have b_tuples := F_tuples.binds (ps := ["_law_told"]) fun _ _ _ _ _ _ us hl => match us, hl with | [_], _ => rfl
  have F_law := fun_mk (st := s_law) l_law c_law k_law
  have b_law := F_law.binds (ps := ["_law_script"]) fun _ _ _ _ _ _ us hl => match us, hl with | [_], _ => rfl
  have T : Σ' T : Txt K mg, T.a_law = fa ∧ T.d_law = PySem.W.fnOf "law" "law" (defArgs s_law) (defBody s_law) (defScope s_law) .none kV_law dc_law pm_law an_law cd_law ct_law :=
    ⟨{ C := xC, gC := PySem.W.mg_of X G aC, clC := ⟨pg, hd, po, sa⟩, mc := .type "type", rd := ⟨rd, ga⟩, uP := _, uS := _, vP := ⟨vP, ⟨_, rfl⟩⟩, vS := ⟨vS, ⟨_, rfl⟩⟩, nL := nL, nR := nR, nH := nH, nN := nN,
        a_is_whole := _, d_is_whole := _, F_is_whole := F_is_whole, b_is_whole := b_is_whole, g_is_whole := PySem.W.mg_of X G a_is_whole,
        a_is_whole_within := _, d_is_whole_within := _, F_is_whole_within := F_is_whole_within, b_is_whole_within := b_is_whole_within, g_is_whole_within := PySem.W.mg_of X G a_is_whole_within,
        a_is_sequence := _, d_is_sequence := _, F_is_sequence := F_is_sequence, b_is_sequence := b_is_sequence, g_is_sequence := PySem.W.mg_of X G a_is_sequence,
        a_is_number := _, d_is_number := _, F_is_number := F_is_number, b_is_number := b_is_number, g_is_number := PySem.W.mg_of X G a_is_number,
        a_is_sort := _, d_is_sort := _, F_is_sort := F_is_sort, b_is_sort := b_is_sort, g_is_sort := PySem.W.mg_of X G a_is_sort,
        a_has_double := _, d_has_double := _, F_has_double := F_has_double, b_has_double := b_has_double, g_has_double := PySem.W.mg_of X G a_has_double,
        a_are_loops := _, d_are_loops := _, F_are_loops := F_are_loops, b_are_loops := b_are_loops, g_are_loops := PySem.W.mg_of X G a_are_loops,
        a_check_boxes := _, d_check_boxes := _, F_check_boxes := F_check_boxes, b_check_boxes := b_check_boxes, g_check_boxes := PySem.W.mg_of X G a_check_boxes,
        a_check_town := _, d_check_town := _, F_check_town := F_check_town, b_check_town := b_check_town, g_check_town := PySem.W.mg_of X G a_check_town,
        a_init := _, d_init := _, F_init := F_init, mk_init := ⟨mk, a_init, i_init, kc⟩,
        a_wire := _, d_wire := _, F_wire := F_wire, b_wire := b_wire, m_wire := ⟨a_wire, i_wire, k_wire⟩,
        a_near_part := _, d_near_part := _, F_near_part := F_near_part, b_near_part := b_near_part, g_near_part := PySem.W.mg_of X G a_near_part,
        a_far_part := _, d_far_part := _, F_far_part := F_far_part, b_far_part := b_far_part, g_far_part := PySem.W.mg_of X G a_far_part,
        a_dumb_part := _, d_dumb_part := _, F_dumb_part := F_dumb_part, b_dumb_part := b_dumb_part, g_dumb_part := PySem.W.mg_of X G a_dumb_part,
        a_loop_numbers := _, d_loop_numbers := _, F_loop_numbers := F_loop_numbers, b_loop_numbers := b_loop_numbers, g_loop_numbers := PySem.W.mg_of X G a_loop_numbers,
        a_wires := _, d_wires := _, F_wires := F_wires, b_wires := b_wires, g_wires := PySem.W.mg_of X G a_wires,
        a_dumb_numbers := _, d_dumb_numbers := _, F_dumb_numbers := F_dumb_numbers, b_dumb_numbers := b_dumb_numbers, g_dumb_numbers := PySem.W.mg_of X G a_dumb_numbers,
        a_source := _, d_source := _, F_source := F_source, b_source := b_source, g_source := PySem.W.mg_of X G a_source,
        a_draw := _, d_draw := _, F_draw := F_draw, b_draw := b_draw, g_draw := PySem.W.mg_of X G a_draw,
        a_number := _, d_number := _, F_number := F_number, b_number := b_number, g_number := PySem.W.mg_of X G a_number,
        a_fresh := _, d_fresh := _, F_fresh := F_fresh, b_fresh := b_fresh, g_fresh := PySem.W.mg_of X G a_fresh,
        a_loops := _, d_loops := _, F_loops := F_loops, b_loops := b_loops, g_loops := PySem.W.mg_of X G a_loops,
        a_numbers := _, d_numbers := _, F_numbers := F_numbers, b_numbers := b_numbers, g_numbers := PySem.W.mg_of X G a_numbers,
        a_stretches := _, d_stretches := _, F_stretches := F_stretches, b_stretches := b_stretches, g_stretches := PySem.W.mg_of X G a_stretches,
        a_side := _, d_side := _, F_side := F_side, b_side := b_side, g_side := PySem.W.mg_of X G a_side,
        a_part := _, d_part := _, F_part := F_part, b_part := b_part, g_part := PySem.W.mg_of X G a_part,
        a_loop := _, d_loop := _, F_loop := F_loop, b_loop := b_loop, g_loop := PySem.W.mg_of X G a_loop,
        a_tuples := _, d_tuples := _, F_tuples := F_tuples, b_tuples := b_tuples, g_tuples := PySem.W.mg_of X G a_tuples,
        a_law := _, d_law := _, F_law := F_law, b_law := b_law, g_law := PySem.W.mg_of X G a_law,
        t_DIGITS := _, c_DIGITS := PySem.W.mg_of X G n_DIGITS,
        t_MOST_DIGITS := _, c_MOST_DIGITS := PySem.W.mg_of X G n_MOST_DIGITS,
        t_GREATEST_SUM := _, c_GREATEST_SUM := PySem.W.mg_of X G n_GREATEST_SUM,
        t_MOST_LOOPS := _, c_MOST_LOOPS := PySem.W.mg_of X G n_MOST_LOOPS,
        t_MOST_BOXES := _, c_MOST_BOXES := PySem.W.mg_of X G n_MOST_BOXES,
        t_MOST_ROUNDS := _, c_MOST_ROUNDS := PySem.W.mg_of X G n_MOST_ROUNDS,
        z_abs := PySem.W.mg_none_of X G z_abs,
        z_all := PySem.W.mg_none_of X G z_all,
        z_bool := PySem.W.mg_none_of X G z_bool,
        z_enumerate := PySem.W.mg_none_of X G z_enumerate,
        z_int := PySem.W.mg_none_of X G z_int,
        z_isinstance := PySem.W.mg_none_of X G z_isinstance,
        z_len := PySem.W.mg_none_of X G z_len,
        z_list := PySem.W.mg_none_of X G z_list,
        z_min := PySem.W.mg_none_of X G z_min,
        z_range := PySem.W.mg_none_of X G z_range,
        z_set := PySem.W.mg_none_of X G z_set,
        z_sorted := PySem.W.mg_none_of X G z_sorted,
        z_str := PySem.W.mg_none_of X G z_str,
        z_sum := PySem.W.mg_none_of X G z_sum,
        z_tuple := PySem.W.mg_none_of X G z_tuple,
        z_zip := PySem.W.mg_none_of X G z_zip,
        mv := mv, kb := kb }, rfl, rfl⟩
  obtain ⟨T, e1, e2⟩ := T
  subst e1
  refine ⟨T.d_law, fun s v => by rw [e2]; exact .of_eq rfl, fun base _ _ => ok_law T⟩
theorem walk {l : PySem.W.OpenLaw} {q : Program} {loose : List Str} {XP : (Str → Option Value) → Heap → Prop} {YP : World → Heap → Prop} {d : DefRec} {K : Params → PySem.W.Frag} (hn : l.most = some 63) (hdf : d.params.defaults = [])
    (hY : ∀ (w : World) (h : Heap), YP w h → (K w.params).In h)
    (F : ∀ (w : World) (mg : Str → Option Value) (fa : Addr) (h : Heap), (K w.params).In h → h.Ns mainGlobals mg → mg d.name = some (.ref fa) →
      ∃ fd : FuncData, (∀ (s : Shared) (u : Value), BindsTo s fd ⟨[u], []⟩ [("_law_script", u)]) ∧ ∀ base : Heap, (K w.params).In base → base.Ns mainGlobals mg → FnOk l.prog w (K w.params) mg base CX0 7 fa fd ["_law_script"] (sp_law (K w.params))) :
    PySem.W.WalkO q loose XP YP l.row.toRowW d [] (fun f vs => PySem.call f vs) :=
  L2.walk_of (n := 63) (k := 7) (x := "_law_script") (CX := fun _ => CX0) (sp := fun w => sp_law (K w.params)) hn (by decide) hdf ⟨rfl, by decide, by decide⟩ hY F (fun _ _ a ns hl _ hS => ⟨a, ns, rfl, hS, hl, fun _ => rfl⟩) fun _ _ _ _ _ z => z
end K18

open PySem PySem.W PyProof.Rows in
set_option maxRecDepth 100000 in
set_option maxHeartbeats 0 in
theorem PySem.Challenge.cw_wheelchorus_k18_parts_of_wire_holds : PySem.Challenge.rw_wheelchorus_k18_parts_of_wire.Holds := by
  w_on; o_law; k_head; (case hw => w_witness2)
  k_fill
  refine K18.walk (l := PySem.Challenge.rw_wheelchorus_k18_parts_of_wire) rfl rfl (fun w h Y => PySem.W.kIn_of Y) ?F
  case F =>
    intro w mg fa h KX G hmg
    refine' K18.all_mk KX G hmg ?aC ?a_is_whole ?l_is_whole ?c_is_whole ?k_is_whole ?a_is_whole_within ?l_is_whole_within ?c_is_whole_within ?k_is_whole_within ?a_is_sequence ?l_is_sequence ?c_is_sequence ?k_is_sequence ?a_is_number ?l_is_number ?c_is_number ?k_is_number ?a_is_sort ?l_is_sort ?c_is_sort ?k_is_sort ?a_has_double ?l_has_double ?c_has_double ?k_has_double ?a_are_loops ?l_are_loops ?c_are_loops ?k_are_loops ?a_check_boxes ?l_check_boxes ?c_check_boxes ?k_check_boxes ?a_check_town ?l_check_town ?c_check_town ?k_check_town ?a_init ?i_init ?l_init ?c_init ?k_init ?e_init ?a_wire ?i_wire ?l_wire ?c_wire ?k_wire ?e_wire ?a_near_part ?l_near_part ?c_near_part ?k_near_part ?a_far_part ?l_far_part ?c_far_part ?k_far_part ?a_dumb_part ?l_dumb_part ?c_dumb_part ?k_dumb_part ?a_loop_numbers ?l_loop_numbers ?c_loop_numbers ?k_loop_numbers ?a_wires ?l_wires ?c_wires ?k_wires ?a_dumb_numbers ?l_dumb_numbers ?c_dumb_numbers ?k_dumb_numbers ?a_source ?l_source ?c_source ?k_source ?a_draw ?l_draw ?c_draw ?k_draw ?a_number ?l_number ?c_number ?k_number ?a_fresh ?l_fresh ?c_fresh ?k_fresh ?a_loops ?l_loops ?c_loops ?k_loops ?a_numbers ?l_numbers ?c_numbers ?k_numbers ?a_stretches ?l_stretches ?c_stretches ?k_stretches ?a_side ?l_side ?c_side ?k_side ?a_part ?l_part ?c_part ?k_part ?a_loop ?l_loop ?c_loop ?k_loop ?a_tuples ?l_tuples ?c_tuples ?k_tuples ?a_law ?l_law ?c_law ?k_law ?pg ?hd ?po ?sa ?mk ?kc ?nL ?nR ?nH ?nN ?rd ?ga ?vP ?vS ?n_DIGITS ?n_MOST_DIGITS ?n_GREATEST_SUM ?n_MOST_LOOPS ?n_MOST_BOXES ?n_MOST_ROUNDS ?z_abs ?z_all ?z_bool ?z_enumerate ?z_int ?z_isinstance ?z_len ?z_list ?z_min ?z_range ?z_set ?z_sorted ?z_str ?z_sum ?z_tuple ?z_zip
    (case aC => k_is)
    (case a_is_whole => k_is)
    (case l_is_whole => k_is)
    (case c_is_whole => k_is)
    (case k_is_whole => k_is)
    (case a_is_whole_within => k_is)
    (case l_is_whole_within => k_is)
    (case c_is_whole_within => k_is)
    (case k_is_whole_within => k_is)
    (case a_is_sequence => k_is)
    (case l_is_sequence => k_is)
    (case c_is_sequence => k_is)
    (case k_is_sequence => k_is)
    (case a_is_number => k_is)
    (case l_is_number => k_is)
    (case c_is_number => k_is)
    (case k_is_number => k_is)
    (case a_is_sort => k_is)
    (case l_is_sort => k_is)
    (case c_is_sort => k_is)
    (case k_is_sort => k_is)
    (case a_has_double => k_is)
    (case l_has_double => k_is)
    (case c_has_double => k_is)
    (case k_has_double => k_is)
    (case a_are_loops => k_is)
    (case l_are_loops => k_is)
    (case c_are_loops => k_is)
    (case k_are_loops => k_is)
    (case a_check_boxes => k_is)
    (case l_check_boxes => k_is)
    (case c_check_boxes => k_is)
    (case k_check_boxes => k_is)
    (case a_check_town => k_is)
    (case l_check_town => k_is)
    (case c_check_town => k_is)
    (case k_check_town => k_is)
    (case a_init => k_is)
    (case i_init => k_is)
    (case l_init => k_is)
    (case c_init => k_is)
    (case k_init => k_is)
    (case e_init => k_is)
    (case a_wire => k_is)
    (case i_wire => k_is)
    (case l_wire => k_is)
    (case c_wire => k_is)
    (case k_wire => k_is)
    (case e_wire => k_is)
    (case a_near_part => k_is)
    (case l_near_part => k_is)
    (case c_near_part => k_is)
    (case k_near_part => k_is)
    (case a_far_part => k_is)
    (case l_far_part => k_is)
    (case c_far_part => k_is)
    (case k_far_part => k_is)
    (case a_dumb_part => k_is)
    (case l_dumb_part => k_is)
    (case c_dumb_part => k_is)
    (case k_dumb_part => k_is)
    (case a_loop_numbers => k_is)
    (case l_loop_numbers => k_is)
    (case c_loop_numbers => k_is)
    (case k_loop_numbers => k_is)
    (case a_wires => k_is)
    (case l_wires => k_is)
    (case c_wires => k_is)
    (case k_wires => k_is)
    (case a_dumb_numbers => k_is)
    (case l_dumb_numbers => k_is)
    (case c_dumb_numbers => k_is)
    (case k_dumb_numbers => k_is)
    (case a_source => k_is)
    (case l_source => k_is)
    (case c_source => k_is)
    (case k_source => k_is)
    (case a_draw => k_is)
    (case l_draw => k_is)
    (case c_draw => k_is)
    (case k_draw => k_is)
    (case a_number => k_is)
    (case l_number => k_is)
    (case c_number => k_is)
    (case k_number => k_is)
    (case a_fresh => k_is)
    (case l_fresh => k_is)
    (case c_fresh => k_is)
    (case k_fresh => k_is)
    (case a_loops => k_is)
    (case l_loops => k_is)
    (case c_loops => k_is)
    (case k_loops => k_is)
    (case a_numbers => k_is)
    (case l_numbers => k_is)
    (case c_numbers => k_is)
    (case k_numbers => k_is)
    (case a_stretches => k_is)
    (case l_stretches => k_is)
    (case c_stretches => k_is)
    (case k_stretches => k_is)
    (case a_side => k_is)
    (case l_side => k_is)
    (case c_side => k_is)
    (case k_side => k_is)
    (case a_part => k_is)
    (case l_part => k_is)
    (case c_part => k_is)
    (case k_part => k_is)
    (case a_loop => k_is)
    (case l_loop => k_is)
    (case c_loop => k_is)
    (case k_loop => k_is)
    (case a_tuples => k_is)
    (case l_tuples => k_is)
    (case c_tuples => k_is)
    (case k_tuples => k_is)
    (case a_law => k_is)
    (case l_law => k_is)
    (case c_law => k_is)
    (case k_law => k_is)
    (case pg => k_is)
    (case hd => k_is)
    (case po => k_is)
    (case sa => k_is)
    (case mk => k_is)
    (case kc => k_is)
    (case nL => k_is)
    (case nR => k_is)
    (case nH => k_is)
    (case nN => k_is)
    (case rd => k_is)
    (case ga => k_is)
    (case vP => k_is)
    (case vS => k_is)
    (case n_DIGITS => k_is)
    (case n_MOST_DIGITS => k_is)
    (case n_GREATEST_SUM => k_is)
    (case n_MOST_LOOPS => k_is)
    (case n_MOST_BOXES => k_is)
    (case n_MOST_ROUNDS => k_is)
    (case z_abs => k_is)
    (case z_all => k_is)
    (case z_bool => k_is)
    (case z_enumerate => k_is)
    (case z_int => k_is)
    (case z_isinstance => k_is)
    (case z_len => k_is)
    (case z_list => k_is)
    (case z_min => k_is)
    (case z_range => k_is)
    (case z_set => k_is)
    (case z_sorted => k_is)
    (case z_str => k_is)
    (case z_sum => k_is)
    (case z_tuple => k_is)
    (case z_zip => k_is)
