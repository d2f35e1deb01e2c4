import PyProof.Rows.All
import Wide.All
import OpenK.AllK
import Wide.FinOn
import HandS.ForMost
import HandS.IsInst
import HandS.Style
import HandS.Zip
import HandS.Walk
import HandS.Codes
import KE.KDictZip
import PySem.Challenge.RW_wheelchorus_k02_whole_who_goes_ahead
set_option Elab.async false
set_option linter.all false
set_option maxRecDepth 100000
set_option maxHeartbeats 4000000
/-! Numbers as lists of digits, their rows, and where two rows part. -/
namespace Wm
open PySem L2
def codes (ds : List Nat) : List Nat := ds.map (· + 48)
def numS (ds : List Nat) : Str := ⟨(codes ds).toArray⟩
structure Dig (ds : List Nat) : Prop where
  dig : ∀ d ∈ ds, 1 ≤ d ∧ d ≤ 9
structure Num (ds : List Nat) : Prop where
  pos : 1 ≤ ds.length
  len : ds.length ≤ 4
  dig : ∀ d ∈ ds, 1 ≤ d ∧ d ≤ 9
  sum : ds.sum ≤ 24
def blk (d : Nat) : List Int := (List.replicate d [1, 0]).flatten
def rowL : List Nat → List Int
  | [] => [0, 0]
  | d :: ds => blk d ++ ([0, 0] ++ rowL ds)
structure Diff (xs ys : List Int) (k : Nat) (a b : Int) : Prop where
  one : xs[k]? = some a
  two : ys[k]? = some b
  ne : a ≠ b
  eq : ∀ j, j < k → xs[j]? = ys[j]?
theorem Diff.symm {xs ys : List Int} {k : Nat} {a b : Int} (h : Diff xs ys k a b) : Diff ys xs k b a :=
  ⟨h.two, h.one, h.ne.symm, fun j l => (h.eq j l).symm⟩
theorem Diff.cons {xs ys : List Int} {k : Nat} {a b : Int} (z : Int) (h : Diff xs ys k a b) : Diff (z :: xs) (z :: ys) (k + 1) a b := by
  refine ⟨by simpa using h.one, by simpa using h.two, h.ne, fun j l => ?_⟩
  cases j with
  | zero => rfl
  | succ j => simpa using h.eq j (by omega)
theorem Diff.app {xs ys : List Int} {k : Nat} {a b : Int} : ∀ (p : List Int), Diff xs ys k a b → Diff (p ++ xs) (p ++ ys) (p.length + k) a b
  | [], h => by simpa using h
  | z :: p, h => by
    have ih := (Diff.app p h).cons z
    have e : (z :: p).length + k = p.length + k + 1 := by simp only [List.length_cons]; omega
    rw [e]
    exact ih
theorem Diff.uniq {xs ys : List Int} {k l : Nat} {a b c d : Int} (h : Diff xs ys k a b) (g : Diff xs ys l c d) : k = l ∧ a = c ∧ b = d := by
  have e : k = l := by
    rcases Nat.lt_trichotomy k l with x | x | x
    · exact absurd (by have q := g.eq k x; rw [h.one, h.two] at q; exact Option.some.inj q) h.ne
    · exact x
    · exact absurd (by have q := h.eq l x; rw [g.one, g.two] at q; exact Option.some.inj q) g.ne
  subst e
  exact ⟨rfl, Option.some.inj (h.one.symm.trans g.one), Option.some.inj (h.two.symm.trans g.two)⟩
theorem Diff.lt1 {xs ys : List Int} {k : Nat} {a b : Int} (h : Diff xs ys k a b) : k < xs.length := (List.getElem?_eq_some_iff.mp h.one).1
theorem Diff.lt2 {xs ys : List Int} {k : Nat} {a b : Int} (h : Diff xs ys k a b) : k < ys.length := (List.getElem?_eq_some_iff.mp h.two).1
theorem blk_add (d e : Nat) : blk (d + e) = blk d ++ blk e := by
  unfold blk
  rw [← List.replicate_append_replicate, List.flatten_append]
theorem blk_succ (e : Nat) : blk (e + 1) = [1, 0] ++ blk e := by
  rw [Nat.add_comm, blk_add]
  rfl
theorem blk_len (d : Nat) : (blk d).length = 2 * d := by
  induction d with
  | zero => rfl
  | succ d ih => rw [blk_succ, List.length_append, ih]; simp only [List.length_cons, List.length_nil]; omega
theorem row_less (d e : Nat) (ds es : List Nat) (h : d < e) : Diff (rowL (d :: ds)) (rowL (e :: es)) (2 * d) 0 1 := by
  obtain ⟨f, rfl⟩ : ∃ f, e = d + (f + 1) := ⟨e - d - 1, by omega⟩
  have h0 : Diff ([0, 0] ++ rowL ds) ([1, 0] ++ (blk f ++ ([0, 0] ++ rowL es))) 0 0 1 := ⟨rfl, rfl, by decide, fun j l => absurd l (Nat.not_lt_zero _)⟩
  have h1 := h0.app (blk d)
  rw [blk_len, Nat.add_zero] at h1
  have e1 : rowL ((d + (f + 1)) :: es) = blk d ++ ([1, 0] ++ (blk f ++ ([0, 0] ++ rowL es))) := by
    show blk (d + (f + 1)) ++ _ = _
    rw [blk_add, blk_succ, List.append_assoc, List.append_assoc]
  rw [e1]
  exact h1
theorem rows_part : ∀ (ds es : List Nat), (∀ d ∈ ds, 1 ≤ d) → (∀ e ∈ es, 1 ≤ e) →
    ds = es ∨ (∃ k, Diff (rowL ds) (rowL es) k 1 0 ∧ es < ds) ∨ (∃ k, Diff (rowL ds) (rowL es) k 0 1 ∧ ds < es)
  | [], [], _, _ => .inl rfl
  | [], e :: es, _, h => by
    obtain ⟨f, rfl⟩ : ∃ f, e = f + 1 := ⟨e - 1, by have := h e (by simp); omega⟩
    refine .inr (.inr ⟨0, ⟨rfl, ?_, by decide, fun j l => absurd l (Nat.not_lt_zero _)⟩, List.nil_lt_cons _ _⟩)
    show (blk (f + 1) ++ _)[0]? = _
    rw [blk_succ]
    rfl
  | d :: ds, [], h, _ => by
    obtain ⟨f, rfl⟩ : ∃ f, d = f + 1 := ⟨d - 1, by have := h d (by simp); omega⟩
    refine .inr (.inl ⟨0, ⟨?_, rfl, by decide, fun j l => absurd l (Nat.not_lt_zero _)⟩, List.nil_lt_cons _ _⟩)
    show (blk (f + 1) ++ _)[0]? = _
    rw [blk_succ]
    rfl
  | d :: ds, e :: es, h, g => by
    rcases Nat.lt_trichotomy d e with x | x | x
    · exact .inr (.inr ⟨_, row_less d e ds es x, List.cons_lt_cons_iff.mpr (.inl x)⟩)
    · subst x
      rcases rows_part ds es (fun y m => h y (List.mem_cons_of_mem _ m)) (fun y m => g y (List.mem_cons_of_mem _ m)) with q | ⟨k, q, l⟩ | ⟨k, q, l⟩
      · exact .inl (by rw [q])
      · exact .inr (.inl ⟨_, (q.app [0, 0]).app (blk d), List.cons_lt_cons_iff.mpr (.inr ⟨rfl, l⟩)⟩)
      · exact .inr (.inr ⟨_, (q.app [0, 0]).app (blk d), List.cons_lt_cons_iff.mpr (.inr ⟨rfl, l⟩)⟩)
    · exact .inr (.inl ⟨_, (row_less e d es ds x).symm, List.cons_lt_cons_iff.mpr (.inl x)⟩)
theorem codes_lt : ∀ (ds es : List Nat), ds < es → codes ds < codes es
  | [], [], h => absurd h (List.lt_irrefl _)
  | [], _ :: _, _ => List.nil_lt_cons _ _
  | _ :: _, [], h => absurd h (List.not_lt_nil _)
  | d :: ds, e :: es, h => by
    rcases List.cons_lt_cons_iff.mp h with x | ⟨x, y⟩
    · exact List.cons_lt_cons_iff.mpr (.inl (Nat.add_lt_add_right x 48))
    · exact List.cons_lt_cons_iff.mpr (.inr ⟨by rw [x], codes_lt ds es y⟩)
theorem codes_inj : ∀ (ds es : List Nat), codes ds = codes es → ds = es
  | [], [], _ => rfl
  | [], _ :: _, h => by simp [codes] at h
  | _ :: _, [], h => by simp [codes] at h
  | d :: ds, e :: es, h => by
    have h1 : d + 48 = e + 48 := (List.cons.inj h).1
    have h2 : codes ds = codes es := (List.cons.inj h).2
    rw [codes_inj ds es h2, show d = e by omega]
theorem numS_cps (ds : List Nat) : (numS ds).cps.toList = codes ds := rfl
theorem numS_inj {ds es : List Nat} (h : numS ds = numS es) : ds = es := codes_inj _ _ (by rw [← numS_cps, h, numS_cps])
theorem numS_len (ds : List Nat) : (numS ds).length = ds.length := by
  show (codes ds).toArray.size = _
  simp [codes]
theorem lt_asymm' {a b : List Nat} (h : a < b) : ¬ b < a := fun g => List.lt_irrefl _ (List.lt_trans h g)
theorem rowL_le : ∀ ds : List Nat, (∀ d ∈ ds, d ≤ 9) → (rowL ds).length ≤ 20 * ds.length + 2
  | [], _ => by decide
  | d :: ds, h => by
    have ih := rowL_le ds fun y m => h y (List.mem_cons_of_mem _ m)
    have hd := h d (by simp)
    show (blk d ++ ([0, 0] ++ rowL ds)).length ≤ _
    rw [List.length_append, List.length_append, blk_len]
    simp only [List.length_cons, List.length_nil]
    omega
end Wm
/-! Digits as signs, texts of digits cut and joined; what a heap keeps. -/
namespace Wm
open PySem L2
theorem dig_cases {d : Nat} (h : 1 ≤ d ∧ d ≤ 9) : d = 1 ∨ d = 2 ∨ d = 3 ∨ d = 4 ∨ d = 5 ∨ d = 6 ∨ d = 7 ∨ d = 8 ∨ d = 9 := by omega
theorem dig_int {d : Nat} (h : 1 ≤ d ∧ d ≤ 9) : PySem.intText? ⟨#[d + 48]⟩ = some (d : Int) := by
  rcases dig_cases h with e | e | e | e | e | e | e | e | e <;> subst e <;> decide +kernel
theorem dig_in {d : Nat} (h : 1 ≤ d ∧ d ≤ 9) : (d + 48) ∈ ("123456789" : Str).cps.toList := by
  rcases dig_cases h with e | e | e | e | e | e | e | e | e <;> subst e <;> decide +kernel
theorem dig_str {d : Nat} (h : 1 ≤ d ∧ d ≤ 9) : ((toString (d : Int) : String) : Str) = numS [d] := by
  rcases dig_cases h with e | e | e | e | e | e | e | e | e <;> subst e <;> decide +kernel
theorem numS_app (ds es : List Nat) : numS ds ++ numS es = numS (ds ++ es) := by
  refine PyProof.Rows.ext_toList ?_
  show ((numS ds).cps ++ (numS es).cps).toList = _
  rw [Array.toList_append, numS_cps, numS_cps, numS_cps]
  simp [codes]
theorem numS_nil : numS [] = ("" : Str) := by decide +kernel
theorem numS_take (ds : List Nat) (k : Nat) : cutS (numS ds) none (some (k : Int)) = numS (ds.take k) := by
  refine PyProof.Rows.ext_toList ?_
  show ((codes ds).drop 0).take (HT.sIx (numS ds).length (numS ds).length (some (k : Int)) - 0) = codes (ds.take k)
  rw [numS_len, HT.sIx_nat, List.drop_zero, Nat.sub_zero]
  simp only [codes, ← List.map_take]
  congr 1
  rw [List.take_eq_take_iff]
  omega
theorem numS_last (ds : List Nat) : cutS (numS ds) none (some (-1)) = numS ds.dropLast := by
  refine PyProof.Rows.ext_toList ?_
  show ((codes ds).drop 0).take (HT.sIx (numS ds).length (numS ds).length (some (-1)) - 0) = codes ds.dropLast
  rw [numS_len, List.drop_zero, Nat.sub_zero, List.dropLast_eq_take]
  simp only [codes, ← List.map_take]
  have e : HT.sIx ds.length ds.length (some (-1)) = ds.length - 1 := by
    unfold HT.sIx
    simp only [show (-1 : Int) < 0 by decide, if_true]
    omega
  rw [e]
theorem numS_at (ds : List Nat) (i : Nat) (hi : i < ds.length) : (numS ds).cps[i]? = some (ds[i] + 48) := by
  show ((codes ds).toArray)[i]? = _
  simp [codes, hi]
theorem numS_size (ds : List Nat) : (numS ds).cps.size = ds.length := numS_len ds

/-! heaps -/
theorem same_new {H : Hp} {p : Addr} {o : HO} (n : H p = none) : Same H (upd H p o) := fun b u e => by
  rw [upd_ne (ne_of_none e n)]
  exact e
theorem at_old {H : Hp} {p q : Addr} {o u : HO} (h : H p = some o) (n : H q = none) : upd H q u p = some o := by
  rw [upd_ne (ne_of_none h n)]
  exact h
theorem sameT {K : PySem.W.Frag} {H H' : Hp} {a : Addr} {xs : List V} (e : Same H H') (h : SqT K H a xs) : SqT K H' a xs := by
  rcases h with (h | ⟨o, h⟩) | h
  · exact .inl (.inl (e _ _ h))
  · exact .inl (.inr ⟨o, e _ _ h⟩)
  · exact .inr h
/-- what stood stands, but for what H did not know and the object at p, which is new since -/
theorem same_mut {H H' : Hp} {p : Addr} {o : HO} (s : Same H H') (n : H p = none) : Same H (upd H' p o) := fun b u e => by
  rw [upd_ne (ne_of_none e n)]
  exact s b u e
def But (b : Addr) (H H' : Hp) : Prop := ∀ p o, p ≠ b → H p = some o → H' p = some o
theorem But.refl (b : Addr) (H : Hp) : But b H H := fun _ _ _ h => h
theorem But.trans {b : Addr} {H H1 H2 : Hp} (x : But b H H1) (y : But b H1 H2) : But b H H2 := fun p o n h => y p o n (x p o n h)
theorem But.of {b : Addr} {H H' : Hp} (s : Same H H') : But b H H' := fun p o _ h => s p o h
theorem But.set {b : Addr} {H : Hp} {o : HO} : But b H (upd H b o) := fun p u n h => by
  rw [upd_ne n]
  exact h
/-- the bag of draws: its cells' list and its four numbers -/
def Bag (H : Hp) (b : Addr) (n : Nat) : Prop :=
  ∃ (c : Addr) (x k m z : Int) (ns : List Int), H b = some (.lst [.int x, .ref c, .int k, .int m, .int z]) ∧ H c = some (.lst (ns.map V.int)) ∧ 0 ≤ k ∧ 0 ≤ m ∧ m ≤ (n : Int)
theorem bag_ne {H : Hp} {b c : Addr} {x k m z : Int} {ns : List Int} (hb : H b = some (.lst [.int x, .ref c, .int k, .int m, .int z])) (hc : H c = some (.lst (ns.map V.int))) : c ≠ b := by
  intro e
  subst e
  rw [hb] at hc
  have q := Option.some.inj hc
  have q2 : ([.int x, .ref c, .int k, .int m, .int z] : List V) = ns.map V.int := by injection q
  cases ns with
  | nil => simp at q2
  | cons u r => cases r with
    | nil => simp at q2
    | cons v r => simp at q2
theorem Bag.mono {H : Hp} {b : Addr} {n m : Nat} (h : Bag H b n) (l : n ≤ m) : Bag H b m := by
  obtain ⟨c, x, k, q, z, ns, h1, h2, h3, h4, h5⟩ := h
  exact ⟨c, x, k, q, z, ns, h1, h2, h3, h4, by omega⟩
theorem Bag.keep {H H' : Hp} {b : Addr} {n : Nat} (h : Bag H b n) (s : Same H H') : Bag H' b n := by
  obtain ⟨c, x, k, q, z, ns, h1, h2, h3, h4, h5⟩ := h
  exact ⟨c, x, k, q, z, ns, s _ _ h1, s _ _ h2, h3, h4, h5⟩
end Wm
namespace Wm
open PySem L2
theorem yesT {σ : L2.St} {H : Hp} {A B : Hp → Prop} (h : A H) : tYes σ H (fun b H3 => if b = true then A H3 else B H3) := by
  show (if true = true then A H else B H)
  rw [if_pos rfl]
  exact h
end Wm
/-! enumerate over a zip of two tuples, the zip's own tuple being held by the pair that enumerate gives out. -/
namespace Ez
open PySem
open PySem.Sem (wp)
/-- a zip's record, whatever its tuple's state -/
abbrev ZRec (h : Heap) (z TI TO : Addr) (f0 : Value) (f : Bool) : Prop :=
  h.get? z = some { cls := .type "zip", dict := none, data := .fields #[f0, .bool f, .bool false, .ref TI, .ref TO], slots := #[] }
def Own (f0 : Value) : Prop := f0 = .none ∨ ∃ T : Addr, f0 = rawInt T
section
variable {prog : Program} {w : World} {A : Around} {E : Value → Shared → Prop} {s : Shared}
theorem lia {T : Addr} {Q : Option Obj → Shared → Prop} (h : Q (s.heap.get? T) s) : wpAny (model prog w) A (loadIfAlive T) Q E s := fun _ _ _ => h
theorem own_look {z TI TO : Addr} {f0 : Value} {f : Bool} {Q : Bool → Shared → Prop} (zr : ZRec s.heap z TI TO f0 f) (ow : Own f0) (yes : Q true s)
    (no : ∀ h', ZRec h' z TI TO f0 true → Heap.SameBut z s.heap h' → Q false { s with heap := h' }) : wpAny (model prog w) A (Builtin.SmallTypes.ownedTupleIsFree (.ref z)) Q E s := by
  unfold Builtin.SmallTypes.ownedTupleIsFree
  rcases ow with rfl | ⟨T, rfl⟩
  · exact wpAny_bind (wpAny_field zr rfl (x := .none) rfl (wpAny_pure yes))
  · refine wpAny_bind (wpAny_field zr rfl (x := rawInt T) rfl ?_)
    show wpAny _ _ (loadIfAlive (Int.toNat (T : Int)) >>= _) _ _ _
    rw [Int.toNat_natCast]
    refine wpAny_bind (lia ?_)
    cases s.heap.get? T with
    | none =>
      simp only [Option.isNone_none, if_true]
      exact wpAny_pure yes
    | some o =>
      simp only [Option.isNone_some, Bool.false_eq_true, if_false]
      refine wpAny_bind (wpAny_field zr rfl (x := .bool f) rfl ?_)
      cases f with
      | true =>
        rw [if_neg (by decide)]
        exact wpAny_pure (no s.heap zr (Heap.SameBut.refl _ _))
      | false =>
        rw [if_pos (by decide)]
        exact wpAny_bind (wpAny_setField_rec zr (by simp) fun g1 zr1 sb1 => wpAny_pure (no g1 zr1 sb1))

theorem zstep {z TI TO i1 i2 l1 l2 : Addr} {k1 k2 : Nat} {xs ys : Array Value} {x y a b f0 : Value} {f : Bool} {Q : Value → Shared → Prop} (D : ZipApart z TI TO i1 i2 l1 l2)
    (zr : ZRec s.heap z TI TO f0 f) (ow : Own f0) (pi : IsPair s.heap TI (.ref i1) (.ref i2)) (po : IsPair s.heap TO a b)
    (j1 : s.heap.IsTupleIter i1 l1 k1) (j2 : s.heap.IsTupleIter i2 l2 k2) (t1 : s.heap.IsTuple l1 xs) (t2 : s.heap.IsTuple l2 ys) (hx : xs[k1]? = some x) (hy : ys[k2]? = some y)
    (q : ∀ g c d e0 e1, ZRec g z TI TO e0 e1 → Own e0 → IsPair g TO c d → g.IsTupleIter i1 l1 (k1 + 1) → g.IsTupleIter i2 l2 (k2 + 1) → IsPair g s.heap.objs.size x y → g.objs.size = s.heap.objs.size + 1 →
      (∀ u o, u ≠ z → u ≠ TO → u ≠ i1 → u ≠ i2 → s.heap.get? u = some o → g.get? u = some o) → Q (.ref s.heap.objs.size) { s with heap := g }) :
    wpAny (model prog w) A (Builtin.«zip.__next__» ⟨[.ref z], []⟩) (fun fin t => ∃ v, fin = .done (.ret v) ∧ Q v t) E s := by
  show wpAny _ _ (field (.ref z) 2 >>= _) _ _ _
  refine wpAny_bind (wpAny_field zr rfl (x := .bool false) rfl ?_)
  show wpAny _ _ (field (.ref z) 3 >>= _) _ _ _
  refine wpAny_bind (wpAny_field zr rfl (x := .ref TI) rfl ?_)
  refine wpAny_bind (wpAny_seqItems pi rfl ?_)
  show wpAny _ _ (Builtin.SmallTypes.ownedTupleIsFree (.ref z) >>= _) _ _ _
  refine wpAny_bind (own_look zr ow ?_ fun g1 z1 b1 => ?_)
  · simp only [if_true]
    refine wpAny_bind (wpAny_rule ?_)
    refine wpAny_bind (wpAny_field zr rfl (x := .ref TO) rfl ?_)
    refine wpAny_bind (wpAny_setField_rec zr (by simp) fun g1 z1 b1 => ?_)
    replace z1 : ZRec g1 z TI TO .ellipsis f := z1
    refine wpAny_bind ?_
    simp only [List.zipIdx_cons, List.zipIdx_nil, List.forIn_cons, List.forIn_nil]
    -- the first one's item
    refine wpAny_bind (wpAny_bind (wpAny_onRaise ?_))
    show wpAny _ _ (Builtin.SmallTypes.nextOf (.ref i1) >>= _) _ _ _
    refine wpAny_bind (RZ.nextOf_tuple_item (j1.extBut b1.extBut D.i1z) (t1.extBut b1.extBut D.l1z) hx fun g2 m1 b2 => wpAny_pure ?_)
    have po2 : IsPair g2 TO a b := b2.extBut _ _ D.TOi1 (b1.extBut _ _ D.TOz po)
    refine wpAny_bind (wpAny_seqItems po2 rfl ?_)
    refine wpAny_bind (wpAny_updateSeq_pair po2 fun g3 po3 b3 => ?_)
    replace po3 : IsPair g3 TO x b := po3
    refine wpAny_bind (wpAny_letGo (wpAny_pure ?_))
    -- the other one's
    refine wpAny_bind (wpAny_bind (wpAny_onRaise ?_))
    show wpAny _ _ (Builtin.SmallTypes.nextOf (.ref i2) >>= _) _ _ _
    refine wpAny_bind (RZ.nextOf_tuple_item (((j2.extBut b1.extBut D.i2z).extBut b2.extBut D.i12.symm).extBut b3.extBut D.TOi2.symm)
      (((t2.extBut b1.extBut D.l2z).extBut b2.extBut D.l2i1).extBut b3.extBut D.l2TO) hy fun g4 m2 b4 => wpAny_pure ?_)
    have po4 : IsPair g4 TO x b := b4.extBut _ _ D.TOi2 po3
    refine wpAny_bind (wpAny_seqItems po4 rfl ?_)
    refine wpAny_bind (wpAny_updateSeq_pair po4 fun g5 po5 b5 => ?_)
    replace po5 : IsPair g5 TO x y := po5
    refine wpAny_bind (wpAny_letGo (wpAny_pure (wpAny_pure ?_)))
    refine wpAny_bind (wpAny_seqItems po5 rfl ?_)
    refine wpAny_bind (wpAny_newTuple ?_)
    have sz : g5.objs.size = s.heap.objs.size := by rw [b5.1, b4.1, b3.1, b2.1, b1.1]
    have z5 : ZRec g5 z TI TO .ellipsis f := b5.extBut _ _ D.TOz.symm (b4.extBut _ _ D.i2z.symm (b3.extBut _ _ D.TOz.symm (b2.extBut _ _ D.i1z.symm z1)))
    have kp : ∀ u o, u ≠ z → u ≠ TO → u ≠ i1 → u ≠ i2 → s.heap.get? u = some o → g5.get? u = some o := fun u o c1 c2 c3 c4 e =>
      b5.extBut _ _ c2 (b4.extBut _ _ c4 (b3.extBut _ _ c2 (b2.extBut _ _ c3 (b1.extBut _ _ c1 e))))
    have n1 : g5.IsTupleIter i1 l1 (k1 + 1) := ((m1.extBut b3.extBut D.TOi1.symm).extBut b4.extBut D.i12).extBut b5.extBut D.TOi1.symm
    have n2 : g5.IsTupleIter i2 l2 (k2 + 1) := m2.extBut b5.extBut D.TOi2.symm
    have zl : z < g5.objs.size := Heap.lt_size z5
    show wpAny _ _ (Builtin.SmallTypes.ownedTupleHandOut (.ref z) (.ref g5.objs.size) >>= _) _ _ _
    refine wpAny_bind ?_
    unfold Builtin.SmallTypes.ownedTupleHandOut
    have z6 : ZRec (g5.push { cls := .type "tuple", data := .seq #[x, y] }) z TI TO .ellipsis f := Heap.get?_push_of_some _ z5
    refine wpAny_bind (wpAny_setField_rec z6 (by simp) fun g7 z7 b7 => ?_)
    replace z7 : ZRec g7 z TI TO (rawInt g5.objs.size) f := z7
    refine wpAny_setField_rec z7 (by simp) fun g8 z8 b8 => ?_
    replace z8 : ZRec g8 z TI TO (rawInt g5.objs.size) false := z8
    have up : ∀ u o, u ≠ z → g5.get? u = some o → g8.get? u = some o := fun u o c e => b8.extBut _ _ c (b7.extBut _ _ c (Heap.get?_push_of_some _ e))
    have pn : IsPair g8 g5.objs.size x y := b8.extBut _ _ (Nat.ne_of_gt zl) (b7.extBut _ _ (Nat.ne_of_gt zl) (Heap.get?_push_size _ rfl))
    have s8 : g8.objs.size = g5.objs.size + 1 := by rw [b8.1, b7.1, Heap.size_push]
    rw [sz] at pn s8
    refine wpAny_pure ⟨_, rfl, ?_⟩
    show Q (.ref g5.objs.size) _
    rw [sz]
    exact q g8 x y _ _ z8 (.inr ⟨_, rfl⟩) (up _ _ D.TOz po5) (n1.at fun o e => up _ o D.i1z e) (n2.at fun o e => up _ o D.i2z e) pn s8 fun u o c1 c2 c3 c4 e => up u o c1 (kp u o c1 c2 c3 c4 e)
  · simp only [Bool.false_eq_true, if_false]
    refine wpAny_bind ?_
    rw [← Array.forIn_toList]
    simp only [List.forIn_cons, List.forIn_nil]
    refine wpAny_bind (wpAny_bind (wpAny_holding ?_))
    show wpAny _ _ (Builtin.SmallTypes.nextOf (.ref i1) >>= _) _ _ _
    refine wpAny_bind (RZ.nextOf_tuple_item (s := { s with heap := g1 }) (j1.extBut b1.extBut D.i1z) (t1.extBut b1.extBut D.l1z) hx fun g2 m1 b2 => wpAny_pure ?_)
    refine wpAny_pure ?_
    refine wpAny_bind (wpAny_bind (wpAny_holding ?_))
    show wpAny _ _ (Builtin.SmallTypes.nextOf (.ref i2) >>= _) _ _ _
    refine wpAny_bind (RZ.nextOf_tuple_item (s := { s with heap := g2 }) ((j2.extBut b1.extBut D.i2z).extBut b2.extBut D.i12.symm) ((t2.extBut b1.extBut D.l2z).extBut b2.extBut D.l2i1) hy fun g3 m2 b3 => wpAny_pure ?_)
    refine wpAny_pure (wpAny_pure ?_)
    show wpAny _ _ (newTuple [x, y] >>= _) _ _ _
    refine wpAny_bind (wpAny_newTuple ?_)
    have sz : g3.objs.size = s.heap.objs.size := by rw [b3.1, b2.1, b1.1]
    have z3 : ZRec g3 z TI TO f0 true := b3.extBut _ _ D.i2z.symm (b2.extBut _ _ D.i1z.symm z1)
    have kp : ∀ u o, u ≠ z → u ≠ i1 → u ≠ i2 → s.heap.get? u = some o → g3.get? u = some o := fun u o c1 c2 c3 e => b3.extBut _ _ c3 (b2.extBut _ _ c2 (b1.extBut _ _ c1 e))
    have n1 : g3.IsTupleIter i1 l1 (k1 + 1) := m1.extBut b3.extBut D.i12
    refine wpAny_pure ⟨_, rfl, ?_⟩
    show Q (.ref g3.objs.size) _
    have pn : IsPair (g3.push { cls := .type "tuple", data := .seq #[x, y] }) g3.objs.size x y := Heap.get?_push_size _ rfl
    have s4 : (g3.push { cls := .type "tuple", data := .seq #[x, y] }).objs.size = g3.objs.size + 1 := Heap.size_push ..
    rw [sz] at pn s4 ⊢
    exact q _ a b _ _ (Heap.get?_push_of_some _ z3) ow (Heap.get?_push_of_some _ (kp _ _ D.TOz D.TOi1 D.TOi2 po)) (n1.at fun o e => Heap.get?_push_of_some _ e) (m2.at fun o e => Heap.get?_push_of_some _ e) pn s4
      fun u o c1 _ c3 c4 e => Heap.get?_push_of_some _ (kp u o c1 c3 c4 e)

theorem zstop {z TI TO i1 i2 l1 l2 : Addr} {k1 k2 : Nat} {xs ys : Array Value} {a b f0 : Value} {f : Bool} {Q : Fin → Shared → Prop} (hh : A.handled = none) (D : ZipApart z TI TO i1 i2 l1 l2)
    (zr : ZRec s.heap z TI TO f0 f) (ow : Own f0) (pi : IsPair s.heap TI (.ref i1) (.ref i2)) (po : IsPair s.heap TO a b)
    (j1 : s.heap.IsTupleIter i1 l1 k1) (j2 : s.heap.IsTupleIter i2 l2 k2) (t1 : s.heap.IsTuple l1 xs) (t2 : s.heap.IsTuple l2 ys) (ends : xs[k1]? = none ∨ ys[k2]? = none)
    (q : ∀ g e, (∀ u o, u ≠ z → u ≠ TO → u ≠ i1 → u ≠ i2 → s.heap.get? u = some o → g.get? u = some o) → (∃ o, g.get? e = some o ∧ o.cls = .type "StopIteration") → E (.ref e) { s with heap := g }) :
    wpAny (model prog w) A (Builtin.«zip.__next__» ⟨[.ref z], []⟩) Q E s := by
  show wpAny _ _ (field (.ref z) 2 >>= _) _ _ _
  refine wpAny_bind (wpAny_field zr rfl (x := .bool false) rfl ?_)
  show wpAny _ _ (field (.ref z) 3 >>= _) _ _ _
  refine wpAny_bind (wpAny_field zr rfl (x := .ref TI) rfl ?_)
  refine wpAny_bind (wpAny_seqItems pi rfl ?_)
  show wpAny _ _ (Builtin.SmallTypes.ownedTupleIsFree (.ref z) >>= _) _ _ _
  refine wpAny_bind (own_look zr ow ?_ fun g1 z1 b1 => ?_)
  · simp only [if_true]
    refine wpAny_bind (wpAny_rule ?_)
    refine wpAny_bind (wpAny_field zr rfl (x := .ref TO) rfl ?_)
    refine wpAny_bind (wpAny_setField_rec zr (by simp) fun g1 z1 b1 => ?_)
    replace z1 : ZRec g1 z TI TO .ellipsis f := z1
    refine wpAny_bind ?_
    simp only [List.zipIdx_cons, List.zipIdx_nil, List.forIn_cons, List.forIn_nil]
    refine wpAny_bind (wpAny_bind (wpAny_onRaise ?_))
    show wpAny _ _ (Builtin.SmallTypes.nextOf (.ref i1) >>= _) _ _ _
    cases hx : xs[k1]? with
    | none =>
      refine wpAny_bind (RZ.nextOf_tuple_end hh (j1.extBut b1.extBut D.i1z) (t1.extBut b1.extBut D.l1z) hx fun g2 e b2 st => ?_)
      obtain ⟨oe, ge, ce⟩ := st
      have z2 : ZRec g2 z TI TO .ellipsis f := b2 _ _ D.i1z.symm z1
      have ez : e ≠ z := fun x => by
        subst x
        rw [z2] at ge
        cases ge
        simp at ce
      refine wpAny_setField_rec z2 (by simp) fun g3 _ b3 => q g3 e (fun u o c1 _ c3 _ x => b3.extBut _ _ c1 (b2 _ _ c3 (b1.extBut _ _ c1 x))) ⟨oe, b3.extBut _ _ ez ge, ce⟩
    | some x =>
      have hy : ys[k2]? = none := by
        rcases ends with c | c
        · rw [hx] at c
          cases c
        · exact c
      refine wpAny_bind (RZ.nextOf_tuple_item (j1.extBut b1.extBut D.i1z) (t1.extBut b1.extBut D.l1z) hx fun g2 m1 b2 => wpAny_pure ?_)
      have po2 : IsPair g2 TO a b := b2.extBut _ _ D.TOi1 (b1.extBut _ _ D.TOz po)
      refine wpAny_bind (wpAny_seqItems po2 rfl ?_)
      refine wpAny_bind (wpAny_updateSeq_pair po2 fun g3 po3 b3 => ?_)
      refine wpAny_bind (wpAny_letGo (wpAny_pure ?_))
      refine wpAny_bind (wpAny_bind (wpAny_onRaise ?_))
      show wpAny _ _ (Builtin.SmallTypes.nextOf (.ref i2) >>= _) _ _ _
      refine wpAny_bind (RZ.nextOf_tuple_end hh (((j2.extBut b1.extBut D.i2z).extBut b2.extBut D.i12.symm).extBut b3.extBut D.TOi2.symm)
        (((t2.extBut b1.extBut D.l2z).extBut b2.extBut D.l2i1).extBut b3.extBut D.l2TO) hy fun g4 e b4 st => ?_)
      obtain ⟨oe, ge, ce⟩ := st
      have z4 : ZRec g4 z TI TO .ellipsis f := b4 _ _ D.i2z.symm (b3.extBut _ _ D.TOz.symm (b2.extBut _ _ D.i1z.symm z1))
      have ez : e ≠ z := fun x => by
        subst x
        rw [z4] at ge
        cases ge
        simp at ce
      refine wpAny_setField_rec z4 (by simp) fun g5 _ b5 => q g5 e (fun u o c1 c2 c3 c4 x => b5.extBut _ _ c1 (b4 _ _ c4 (b3.extBut _ _ c2 (b2.extBut _ _ c3 (b1.extBut _ _ c1 x))))) ⟨oe, b5.extBut _ _ ez ge, ce⟩
  · simp only [Bool.false_eq_true, if_false]
    refine wpAny_bind ?_
    rw [← Array.forIn_toList]
    simp only [List.forIn_cons, List.forIn_nil]
    refine wpAny_bind (wpAny_bind (wpAny_holding ?_))
    show wpAny _ _ (Builtin.SmallTypes.nextOf (.ref i1) >>= _) _ _ _
    cases hx : xs[k1]? with
    | none =>
      refine wpAny_bind (RZ.nextOf_tuple_end (s := { s with heap := g1 }) hh (j1.extBut b1.extBut D.i1z) (t1.extBut b1.extBut D.l1z) hx fun g2 e b2 st => ?_)
      exact q g2 e (fun u o c1 _ c3 _ x => b2 _ _ c3 (b1.extBut _ _ c1 x)) st
    | some x =>
      have hy : ys[k2]? = none := by
        rcases ends with c | c
        · rw [hx] at c
          cases c
        · exact c
      refine wpAny_bind (RZ.nextOf_tuple_item (s := { s with heap := g1 }) (j1.extBut b1.extBut D.i1z) (t1.extBut b1.extBut D.l1z) hx fun g2 m1 b2 => wpAny_pure ?_)
      refine wpAny_pure ?_
      refine wpAny_bind (wpAny_bind (wpAny_holding ?_))
      show wpAny _ _ (Builtin.SmallTypes.nextOf (.ref i2) >>= _) _ _ _
      refine wpAny_bind (RZ.nextOf_tuple_end (s := { s with heap := g2 }) hh ((j2.extBut b1.extBut D.i2z).extBut b2.extBut D.i12.symm) ((t2.extBut b1.extBut D.l2z).extBut b2.extBut D.l2i1) hy fun g3 e b3 st => ?_)
      exact q g3 e (fun u o c1 _ c3 c4 x => b3 _ _ c4 (b2.extBut _ _ c3 (b1.extBut _ _ c1 x))) st

/-- enumerate's step over such a zip: two new tuples, the zip's and its own -/
theorem ebody {e z TI TO i1 i2 l1 l2 : Addr} {i k1 k2 : Nat} {xs ys : Array Value} {x y a b f0 old : Value} {f : Bool} {Q : Value → Shared → Prop} (D : ZipApart z TI TO i1 i2 l1 l2)
    (ez : e ≠ z) (eTO : e ≠ TO) (e1 : e ≠ i1) (e2 : e ≠ i2) (er : IsEnum s.heap e z (i : Int) old)
    (zr : ZRec s.heap z TI TO f0 f) (ow : Own f0) (pi : IsPair s.heap TI (.ref i1) (.ref i2)) (po : IsPair s.heap TO a b)
    (j1 : s.heap.IsTupleIter i1 l1 k1) (j2 : s.heap.IsTupleIter i2 l2 k2) (t1 : s.heap.IsTuple l1 xs) (t2 : s.heap.IsTuple l2 ys) (hx : xs[k1]? = some x) (hy : ys[k2]? = some y)
    (q : ∀ g c d g0 g1 tk, IsEnumOut g e z ((i : Int) + 1) (.ref s.heap.objs.size) (s.heap.objs.size + 1) → ZRec g z TI TO g0 g1 → Own g0 → IsPair g TO c d → g.IsTupleIter i1 l1 (k1 + 1) → g.IsTupleIter i2 l2 (k2 + 1) →
      IsPair g s.heap.objs.size x y → IsPair g (s.heap.objs.size + 1) (.int i tk) (.ref s.heap.objs.size) →
      (∀ u o, u ≠ e → u ≠ z → u ≠ TO → u ≠ i1 → u ≠ i2 → s.heap.get? u = some o → g.get? u = some o) → Q (.ref (s.heap.objs.size + 1)) { s with heap := g, toks := tk + 1 }) :
    wpAny (model prog w) A (Builtin.«enumerate.__next__» ⟨[.ref e], []⟩) (fun fin t => ∃ v, fin = .done (.ret v) ∧ Q v t) E s := by
  obtain ⟨hp, gn, dr, tk, os⟩ := s
  have el : e < hp.objs.size := Heap.lt_size er
  have zl : z < hp.objs.size := Heap.lt_size zr
  show wpAny _ _ (field (.ref e) 2 >>= _) _ _ _
  refine wpAny_bind (wpAny_field er rfl (x := .ref z) rfl ?_)
  have tz : (⟨hp, gn, dr, tk, os⟩ : Shared).TypeIs (.ref z) "zip" := ⟨_, zr, rfl⟩
  refine wpAny_bind ?_
  unfold Builtin.SmallTypes.nextOf
  refine wpAny_bind (wpAny_callSpecial?_slot (name := Str.ofString "__next__") tz F.slot_zip_next
    (wpAny_call_entry F.slot_zip_next tz F.entry_zip_next (zstep D zr ow pi po j1 j2 t1 t2 hx hy fun g c d g0 g1 zg og pg n1 n2 pn sg kp => wpAny_pure ?_) (F.args_zip_next_1 _)))
  change Addr at e
  have s1 : g.objs.size = hp.objs.size + 1 := sg
  have er1 : IsEnum g e z (i : Int) old := kp _ _ ez eTO e1 e2 er
  show wpAny _ _ (field (.ref e) 3 >>= _) _ _ ⟨g, gn, dr, tk, os⟩
  refine wpAny_bind (wpAny_field er1 rfl (x := rawInt i) rfl ?_)
  show wpAny _ _ (field (.ref e) 4 >>= _) _ _ ⟨g, gn, dr, tk, os⟩
  refine wpAny_bind (wpAny_field er1 rfl (x := .none) rfl ?_)
  show wpAny _ _ (mkInt i >>= _) _ _ ⟨g, gn, dr, tk, os⟩
  refine wpAny_bind (wpAny_mkInt ?_)
  show wpAny _ _ (setField (.ref e) 3 (rawInt ((i : Int) + 1)) >>= _) _ _ ⟨g, gn, dr, tk + 1, os⟩
  refine wpAny_bind (wpAny_setField_rec er1 (by simp) fun g2 er2 b2 => ?_)
  replace er2 : IsEnum g2 e z ((i : Int) + 1) old := er2
  replace b2 : Heap.SameBut e g g2 := b2
  show wpAny _ _ (setField (.ref e) 4 .none >>= _) _ _ ⟨g2, gn, dr, tk + 1, os⟩
  refine wpAny_bind (wpAny_setField_rec er2 (by simp) fun g3 er3 b3 => ?_)
  replace er3 : IsEnum g3 e z ((i : Int) + 1) old := er3
  replace b3 : Heap.SameBut e g2 g3 := b3
  show wpAny _ _ (newTuple [.int i tk, .ref hp.objs.size] >>= _) _ _ ⟨g3, gn, dr, tk + 1, os⟩
  refine wpAny_bind (wpAny_newTuple ?_)
  have er4 : IsEnum (g3.push { cls := .type "tuple", data := .seq #[.int i tk, .ref hp.objs.size] }) e z ((i : Int) + 1) old := Heap.get?_push_of_some _ er3
  generalize eg4 : g3.push { cls := .type "tuple", data := .seq #[.int i tk, .ref hp.objs.size] } = g4 at er4
  have s3 : g3.objs.size = hp.objs.size + 1 := by rw [b3.1, b2.1, s1]
  have nt4 : IsPair g4 (hp.objs.size + 1) (.int i tk) (.ref hp.objs.size) := by
    rw [← eg4, ← s3]
    exact Heap.get?_push_size _ rfl
  have up4 : ∀ u o, u ≠ e → g.get? u = some o → g4.get? u = some o := fun u o c h => by
    rw [← eg4]
    exact Heap.get?_push_of_some _ (b3.extBut u o c (b2.extBut u o c h))
  show wpAny _ _ (Builtin.SmallTypes.ownedTupleIsFree (.ref e) >>= _) _ _ ⟨g4, gn, dr, tk + 1, os⟩
  rw [s3]
  refine wpAny_bind ?_
  unfold Builtin.SmallTypes.ownedTupleIsFree
  refine wpAny_bind (wpAny_field er4 rfl (x := .none) rfl (wpAny_pure ?_))
  simp only [if_true]
  refine wpAny_bind (wpAny_rule ?_)
  refine wpAny_bind (wpAny_field er4 rfl (x := old) rfl ?_)
  refine wpAny_bind (wpAny_setField_rec er4 (by simp) fun g5 er5 b5 => ?_)
  replace er5 : IsEnum g5 e z ((i : Int) + 1) (.ref hp.objs.size) := er5
  replace b5 : Heap.SameBut e g4 g5 := b5
  show wpAny _ _ (Builtin.SmallTypes.ownedTupleHandOut (.ref e) (.ref (hp.objs.size + 1)) >>= _) _ _ ⟨g5, gn, dr, tk + 1, os⟩
  refine wpAny_bind ?_
  unfold Builtin.SmallTypes.ownedTupleHandOut
  refine wpAny_bind (wpAny_setField_rec er5 (by simp) fun g6 er6 b6 => ?_)
  replace er6 : IsEnumOut g6 e z ((i : Int) + 1) (.ref hp.objs.size) (hp.objs.size + 1) := er6
  replace b6 : Heap.SameBut e g5 g6 := b6
  refine wpAny_setField_rec er6 (by simp) fun g7 er7 b7 => ?_
  replace er7 : IsEnumOut g7 e z ((i : Int) + 1) (.ref hp.objs.size) (hp.objs.size + 1) := er7
  replace b7 : Heap.SameBut e g6 g7 := b7
  have up : ∀ u o, u ≠ e → g4.get? u = some o → g7.get? u = some o := fun u o c h => b7.extBut u o c (b6.extBut u o c (b5.extBut u o c h))
  have Ne : hp.objs.size ≠ e := Nat.ne_of_gt el
  have Ne1 : hp.objs.size + 1 ≠ e := Nat.ne_of_gt (Nat.lt_succ_of_lt el)
  refine wpAny_bind (wpAny_letGo (wpAny_pure ⟨_, rfl, q g7 c d g0 g1 tk er7 ?_ og ?_ ?_ ?_ ?_ ?_ ?_⟩))
  · exact up _ _ ez.symm (up4 _ _ ez.symm zg)
  · exact up _ _ eTO.symm (up4 _ _ eTO.symm pg)
  · exact n1.at fun o h => up _ o e1.symm (up4 _ o e1.symm h)
  · exact n2.at fun o h => up _ o e2.symm (up4 _ o e2.symm h)
  · exact up _ _ Ne (up4 _ _ Ne pn)
  · exact up _ _ Ne1 nt4
  · exact fun u o c0 c1 c2 c3 c4 h => up u o c0 (up4 u o c0 (kp u o c1 c2 c3 c4 h))
theorem estep {e z TI TO i1 i2 l1 l2 : Addr} {i k1 k2 : Nat} {xs ys : Array Value} {x y a b f0 old : Value} {f : Bool} {Q : Option Value → Shared → Prop} (D : ZipApart z TI TO i1 i2 l1 l2)
    (ez : e ≠ z) (eTO : e ≠ TO) (e1 : e ≠ i1) (e2 : e ≠ i2) (er : IsEnum s.heap e z (i : Int) old)
    (zr : ZRec s.heap z TI TO f0 f) (ow : Own f0) (pi : IsPair s.heap TI (.ref i1) (.ref i2)) (po : IsPair s.heap TO a b)
    (j1 : s.heap.IsTupleIter i1 l1 k1) (j2 : s.heap.IsTupleIter i2 l2 k2) (t1 : s.heap.IsTuple l1 xs) (t2 : s.heap.IsTuple l2 ys) (hx : xs[k1]? = some x) (hy : ys[k2]? = some y)
    (q : ∀ g c d g0 g1 tk, IsEnumOut g e z ((i : Int) + 1) (.ref s.heap.objs.size) (s.heap.objs.size + 1) → ZRec g z TI TO g0 g1 → Own g0 → IsPair g TO c d → g.IsTupleIter i1 l1 (k1 + 1) → g.IsTupleIter i2 l2 (k2 + 1) →
      IsPair g s.heap.objs.size x y → IsPair g (s.heap.objs.size + 1) (.int i tk) (.ref s.heap.objs.size) →
      (∀ u o, u ≠ e → u ≠ z → u ≠ TO → u ≠ i1 → u ≠ i2 → s.heap.get? u = some o → g.get? u = some o) → Q (some (.ref (s.heap.objs.size + 1))) { s with heap := g, toks := tk + 1 }) :
    wpAny (model prog w) A (pyNext (.ref e)) Q E s := by
  have ty : s.TypeIs (.ref e) "enumerate" := ⟨_, er, rfl⟩
  unfold pyNext
  exact wpAny_bind (wpAny_attempt (wpAny_callSpecial?_slot (name := Str.ofString "__next__") ty F.slot_enumerate_next
    (wpAny_call_entry F.slot_enumerate_next ty F.entry_enumerate_next
      (ebody D ez eTO e1 e2 er zr ow pi po j1 j2 t1 t2 hx hy fun g c d g0 g1 tk x1 x2 x3 x4 x5 x6 x7 x8 x9 => wpAny_pure (q g c d g0 g1 tk x1 x2 x3 x4 x5 x6 x7 x8 x9)) (F.args_enumerate_next_1 _))))
theorem estop {e z TI TO i1 i2 l1 l2 : Addr} {i : Int} {k1 k2 : Nat} {xs ys : Array Value} {a b f0 old : Value} {f : Bool} {Q : Option Value → Shared → Prop} (hh : A.handled = none) (D : ZipApart z TI TO i1 i2 l1 l2)
    (er : IsEnum s.heap e z i old)
    (zr : ZRec s.heap z TI TO f0 f) (ow : Own f0) (pi : IsPair s.heap TI (.ref i1) (.ref i2)) (po : IsPair s.heap TO a b)
    (j1 : s.heap.IsTupleIter i1 l1 k1) (j2 : s.heap.IsTupleIter i2 l2 k2) (t1 : s.heap.IsTuple l1 xs) (t2 : s.heap.IsTuple l2 ys) (ends : xs[k1]? = none ∨ ys[k2]? = none)
    (q : ∀ g, (∀ u o, u ≠ z → u ≠ TO → u ≠ i1 → u ≠ i2 → s.heap.get? u = some o → g.get? u = some o) → Q none { s with heap := g }) :
    wpAny (model prog w) A (pyNext (.ref e)) Q E s := by
  have ty : s.TypeIs (.ref e) "enumerate" := ⟨_, er, rfl⟩
  have tz : s.TypeIs (.ref z) "zip" := ⟨_, zr, rfl⟩
  unfold pyNext
  refine wpAny_bind (wpAny_attempt (wpAny_callSpecial?_slot (name := Str.ofString "__next__") ty F.slot_enumerate_next
    (wpAny_call_entry F.slot_enumerate_next ty F.entry_enumerate_next ?_ (F.args_enumerate_next_1 _))))
  show wpAny _ _ (field (.ref e) 2 >>= _) _ _ _
  refine wpAny_bind (wpAny_field er rfl (x := .ref z) rfl ?_)
  refine wpAny_bind ?_
  unfold Builtin.SmallTypes.nextOf
  refine wpAny_bind (wpAny_callSpecial?_slot (name := Str.ofString "__next__") tz F.slot_zip_next
    (wpAny_call_entry F.slot_zip_next tz F.entry_zip_next (zstop hh D zr ow pi po j1 j2 t1 t2 ends fun g x kp st => ?_) (F.args_zip_next_1 _)))
  obtain ⟨o, ho, hc⟩ := st
  refine wpAny_bind (wpAny_isInstance (T := "StopIteration") (b := true) ⟨o, ho, hc⟩ isSubtype_stop ?_)
  exact wpAny_pure (q _ kp)

theorem meets_enz (z TI TO : Addr) :
    Meets (Builtin.«enumerate.__new__» ⟨[.type "enumerate", .ref z], []⟩) (fun _ R s => IsZip s.heap z TI TO .none ∧
      R (.ok (.ret (.ref s.heap.objs.size))) { s with heap := s.heap.push { cls := .type "enumerate", data := .fields #[.none, .bool false, .ref z, rawInt 0, .none, .none] } }) :=
  .of_wp fun prog w A R s h => by
    obtain ⟨hp, gn, dr, tk, os⟩ := s
    obtain ⟨zr, h⟩ := h
    have hsub := sub_enumerate
    have zr' : IsZip (Shared.heap ⟨hp, gn, dr, tk, os⟩) z TI TO .none := zr
    wp_walk using AutoSeq1.wpAny_loadPart' zr
    refine wpAny_stack_any fun st => wpAny_pure ?_
    split
    · rename_i c _ _ _ _ _
      cases (c == Value.type "enumerate")
      · wp_walk using AutoSeq1.wpAny_loadPart' zr, wpAny_pyIter_zip zr'
        exact ⟨_, rfl, h⟩
      · wp_walk using AutoSeq1.wpAny_loadPart' zr, wpAny_pyIter_zip zr'
        exact ⟨_, rfl, h⟩
    · wp_walk using AutoSeq1.wpAny_loadPart' zr, wpAny_pyIter_zip zr'
      exact ⟨_, rfl, h⟩
theorem call_enz {z TI TO : Addr} {Q : Value → Shared → Prop} (zr : IsZip s.heap z TI TO .none)
    (h : ∀ g, IsEnum g s.heap.objs.size z 0 .none → g.objs.size = s.heap.objs.size + 1 → (∀ b o, s.heap.get? b = some o → g.get? b = some o) → Q (.ref s.heap.objs.size) { s with heap := g }) :
    wpAny (model prog w) A (call (.type "enumerate") [.ref z]) Q E s := by
  refine callType_new F.called_enumerate (by decide) (F.typeCall_enumerate_1 _) (F.newCall_enumerate_1 _) (fun obj => F.args_object_init_2 obj _) F.entry_enumerate_new
    (meets_enz z TI TO) ⟨zr, ?_⟩
  have er : IsEnum (s.heap.push { cls := .type "enumerate", data := .fields #[.none, .bool false, .ref z, rawInt 0, .none, .none] }) s.heap.objs.size z 0 .none := Heap.get?_push_size _ rfl
  exact ⟨⟨_, er, rfl⟩, h _ er (Heap.size_push ..) fun b o x => Heap.get?_push_of_some _ x⟩
end
end Ez
/-! The same as a thing that a for walks. -/
namespace Ez
open PySem PySem.Spec PyProof.Rows L2 RZ
def Ite2 (K : PySem.W.Frag) (a b : Addr) : It :=
  ⟨fun i H => ∃ (xs ys : List V) (x y : V), SqT K H a xs ∧ SqT K H b ys ∧ xs[i]? = some x ∧ ys[i]? = some y,
    fun i H v H' => ∃ T U x y, v = .ref U ∧ H T = none ∧ upd H T (.tup [x, y]) U = none ∧ H' = upd (upd H T (.tup [x, y])) U (.tup [.int (i : Nat), .ref T]) ∧ (∀ xs, SqT K H a xs → xs[i]? = some x) ∧ ∀ ys, SqT K H b ys → ys[i]? = some y,
    fun i H => ∃ xs ys : List V, SqT K H a xs ∧ SqT K H b ys ∧ (xs.length ≤ i ∨ ys.length ≤ i)⟩
theorem turn_ez {P : Program} {w : World} {K : PySem.W.Frag} {elts : List Expr} {kk : Nat} {tpos : Pos} {a b e z TI TO i1 i2 : Addr} (D : ZipApart z TI TO i1 i2 a b) (ez : e ≠ z) (eTI : e ≠ TI) (eTO : e ≠ TO) (e1 : e ≠ i1) (e2 : e ≠ i2) :
    Turn P w K (.Tuple elts kk tpos) (Ite2 K a b) [e, z, TI, TO, i1, i2] e (fun i h => (∃ old, IsEnum h e z ((i : Nat) : Int) old) ∧ (∃ f0 f, ZRec h z TI TO f0 f ∧ Own f0) ∧ PySem.IsPair h TI (.ref i1) (.ref i2) ∧ (∃ x y, PySem.IsPair h TO x y) ∧ h.IsTupleIter i1 a i ∧ h.IsTupleIter i2 b i) where
  mem := by simp
  obj := fun i h st c hc => by
    obtain ⟨⟨old, er⟩, ⟨f0, f, zr, _⟩, pi, ⟨x, y, po⟩, ⟨o1, q1, _, d1⟩, ⟨o2, q2, _, d2⟩⟩ := st
    have c' : c = e ∨ c = z ∨ c = TI ∨ c = TO ∨ c = i1 ∨ c = i2 := by simpa using hc
    rcases c' with q | q | q | q | q | q
    · rw [q]; exact ⟨_, er, fun v r => nomatch r⟩
    · rw [q]; exact ⟨_, zr, fun v r => nomatch r⟩
    · rw [q]; exact ⟨_, pi, fun v r => nomatch r⟩
    · rw [q]; exact ⟨_, po, fun v r => nomatch r⟩
    · rw [q]; exact ⟨o1, q1, fun v r => by rw [d1] at r; cases r⟩
    · rw [q]; exact ⟨o2, q2, fun v r => by rw [d2] at r; cases r⟩
  keep := fun i h g st k => by
    obtain ⟨⟨old, er⟩, ⟨f0, f, zr, ow⟩, pi, ⟨x, y, po⟩, j1, j2⟩ := st
    exact ⟨⟨old, k e (by simp) _ er⟩, ⟨f0, f, k z (by simp) _ zr, ow⟩, k TI (by simp) _ pi, ⟨x, y, k TO (by simp) _ po⟩, j1.at fun o q => k i1 (by simp) o q, j2.at fun o q => k i2 (by simp) o q⟩
  item := by
    intro X hP hw hK hc i pins s σ H E I hf st hg
    subst hP hw hK
    obtain ⟨⟨old, er⟩, ⟨f0, f, zr, ow⟩, pi, ⟨x0, y0, po⟩, j1, j2⟩ := st
    obtain ⟨xs, ys, x, y, qx, qy, hx, hy⟩ := hg
    obtain ⟨us, ru, pu, _⟩ := I.tuple qx
    obtain ⟨ws, rw', pw, _⟩ := I.tuple qy
    obtain ⟨u, hu, r1⟩ := ru.get hx
    obtain ⟨v, hv, r2⟩ := rw'.get hy
    have el : e < s.heap.objs.size := Heap.lt_size er
    have lts : ∀ c, c ∈ [e, z, TI, TO, i1, i2] → c < s.heap.objs.size := fun c hcm => by
      have c' : c = e ∨ c = z ∨ c = TI ∨ c = TO ∨ c = i1 ∨ c = i2 := by simpa using hcm
      rcases c' with q | q | q | q | q | q
      · rw [q]; exact el
      · rw [q]; exact Heap.lt_size zr
      · rw [q]; exact Heap.lt_size pi
      · rw [q]; exact Heap.lt_size po
      · rw [q]; obtain ⟨_, t, _⟩ := j1; exact Heap.lt_size t
      · rw [q]; obtain ⟨_, t, _⟩ := j2; exact Heap.lt_size t
    refine estep (k1 := i) (k2 := i) D ez eTO e1 e2 er zr ow pi po j1 j2 pu pw (x := u) (y := v) (by simpa using hu) (by simpa using hv) fun g c d g0 g1 tk eo zg og pg n1 n2 pn pm kp => ?_
    refine ⟨_, rfl, wpAny_letOwnedTupleGo_enum (s := { s with heap := g, toks := tk + 1 }) eo fun h1 er1 sb => ?_⟩
    have fr : H s.heap.objs.size = none := I.hok.fresh (Nat.le_refl _)
    have fr1 : upd H s.heap.objs.size (.tup [x, y]) (s.heap.objs.size + 1) = none := by
      rw [upd_ne (Nat.succ_ne_self _)]
      exact I.hok.fresh (Nat.le_succ _)
    have pn1 : PySem.IsPair h1 s.heap.objs.size u v := (sb.2 _ (Nat.ne_of_gt el)).trans pn
    have pm1 : PySem.IsPair h1 (s.heap.objs.size + 1) (.int i tk) (.ref s.heap.objs.size) := (sb.2 _ (Nat.ne_of_gt (Nat.lt_succ_of_lt el))).trans pm
    -- a heap in between, with the zip's pair alone
    have Im : Inv X pins σ (upd H s.heap.objs.size (.tup [x, y])) { s with heap := s.heap.push { cls := .type "tuple", data := .seq #[u, v] } } :=
      I.turnedNew (t' := s.toks) (ch := []) (fun b o _ q => Heap.get?_push_of_some _ q) (fun b hb => absurd hb List.not_mem_nil) (Nat.le_refl _)
        ⟨by show 2 ≤ sizeLine; decide, [u, v], .cons r1 (.cons r2 .nil), ⟨_, Heap.get?_push_size _ rfl, rfl, _, rfl⟩⟩
    have szm : (s.heap.push { cls := .type "tuple", data := .seq #[u, v] }).objs.size = s.heap.objs.size + 1 := Heap.size_push ..
    have I1 : Inv X pins σ (upd (upd H s.heap.objs.size (.tup [x, y])) (s.heap.objs.size + 1) (.tup [.int (i : Nat), .ref s.heap.objs.size])) { s with heap := h1, toks := tk + 1 } := by
      refine Im.turnedNew (t' := tk + 1) (ch := [e, z, TI, TO, i1, i2]) (fun b o hb q => ?_) (fun b hb => ?_) (by show (s.heap.push _).objs.size ≤ _; rw [szm]; exact Nat.le_refl _) ⟨by show 2 ≤ sizeLine; decide, [.int i tk, .ref s.heap.objs.size], .cons ⟨_, rfl⟩ (.cons rfl .nil), ⟨_, pm1, rfl, _, rfl⟩⟩
      · by_cases hN : b = s.heap.objs.size
        · subst hN
          have q2 : (s.heap.push { cls := .type "tuple", data := .seq #[u, v] }).get? s.heap.objs.size = some o := q
          rw [Heap.get?_push_size _ rfl] at q2
          rw [← Option.some.inj q2]
          exact pn1
        · have q2 : (s.heap.push { cls := .type "tuple", data := .seq #[u, v] }).get? b = some o := q
          have q3 : s.heap.get? b = some o := by
            rw [← q2]
            exact (Heap.get?_push_ne s.heap b _ hN).symm
          exact (sb.2 b fun t => hb (by simp [t])).trans (kp b o (fun t => hb (by simp [t])) (fun t => hb (by simp [t])) (fun t => hb (by simp [t])) (fun t => hb (by simp [t])) (fun t => hb (by simp [t])) q3)
      · obtain ⟨f0, f1⟩ := hf b hb
        exact ⟨by rw [upd_ne (Nat.ne_of_lt (lts b hb))]; exact f0, f1⟩
    refine ⟨.ref (s.heap.objs.size + 1), _, I1, rfl, ⟨s.heap.objs.size, s.heap.objs.size + 1, x, y, rfl, fr, fr1, rfl, fun l hl => by rw [I.tuple_inj hl qx]; exact hx, fun l hl => by rw [I.tuple_inj hl qy]; exact hy⟩,
      ⟨⟨_, by have ei : ((i + 1 : Nat) : Int) = (i : Int) + 1 := by omega
              rw [ei]; exact er1⟩, ⟨g0, g1, (sb.2 _ ez.symm).trans zg, og⟩, ?_, ⟨c, d, (sb.2 _ eTO.symm).trans pg⟩, n1.at fun o q => (sb.2 _ e1.symm).trans q, n2.at fun o q => (sb.2 _ e2.symm).trans q⟩, fun b hb => ?_⟩
    · exact (sb.2 _ eTI.symm).trans (kp _ _ eTI.symm D.TIz D.TITO D.TIi1 D.TIi2 pi)
    · have lb := lts b hb
      rw [upd_ne (Nat.ne_of_lt (Nat.lt_succ_of_lt lb)), upd_ne (Nat.ne_of_lt lb)]
      exact (hf b hb).1
  done := by
    intro X hP hw hK hc i pins s σ H E I hf st hg
    subst hP hw hK
    obtain ⟨⟨old, er⟩, ⟨f0, f, zr, ow⟩, pi, ⟨x0, y0, po⟩, j1, j2⟩ := st
    obtain ⟨xs, ys, qx, qy, ends⟩ := hg
    obtain ⟨us, ru, pu, _⟩ := I.tuple qx
    obtain ⟨ws, rw', pw, _⟩ := I.tuple qy
    have l1 := ru.length
    have l2 := rw'.length
    have en : us.toArray[i]? = none ∨ ws.toArray[i]? = none := by
      rcases ends with q | q
      · exact .inl (by simp; omega)
      · exact .inr (by simp; omega)
    exact estop (I.ok.hd hc) D er zr ow pi po j1 j2 pu pw en fun g kp => ⟨rfl, I.turnedL (t' := s.toks) (ch := [e, z, TI, TO, i1, i2]) (fun b o hb q =>
      kp b o (fun t => hb (by simp [t])) (fun t => hb (by simp [t])) (fun t => hb (by simp [t])) (fun t => hb (by simp [t])) q) hf⟩
  self := fun A i s Q E st h => let ⟨⟨_, er⟩, _⟩ := st; wpAny_pyIter_enum er h

theorem ne_off {n : Nat} (i j : Nat) (h : i ≠ j) : n + i ≠ n + j := fun e => h (Nat.add_left_cancel e)
def iEz (K : PySem.W.Frag) (ta : TA) : TI := fun σ H R => ta σ H fun vs H1 => ∃ a b xs ys, vs = [.ref a, .ref b] ∧ SqT K H1 a xs ∧ SqT K H1 b ys ∧ R (Ite2 K a b) H1
theorem pi_enumzip {X : Cx} {d1 d2 : Expr} {ta : TA} {p p2 pos pos2 tpos : Pos} {elts : List Expr} {kk : Nat} (hg : Gl X "enumerate") (hm : X.mg "enumerate" = none) (hg2 : Gl X "zip") (hm2 : X.mg "zip" = none) (ha : PA X [d1, d2] ta)
    (hs : starEach [.Call (.Name "zip" p2) [d1, d2] [] pos2] X.env = [(false, eval (.Call (.Name "zip" p2) [d1, d2] [] pos2) X.env)] := by rfl)
    (hs2 : starEach [d1, d2] X.env = (false, eval d1 X.env) :: starEach [d2] X.env := by rfl) (hpl : (backTo pos2 (starEach [d2] X.env)).any (·.1) = false := by rfl) :
    PI X (.Tuple elts kk tpos) (.Call (.Name "enumerate" p) [.Call (.Name "zip" p2) [d1, d2] [] pos2] [] pos) (iEz X.K ta) := by
  refine ⟨fun pins s σ H R I h => ?_⟩
  refine Call_ (ld_blt I hg hm boot_enumerate (PyProof.Rows.callWith_type1 ?_ hs rfl))
  rw [hs]
  show wpAny _ _ (spliced [(false, eval (.Call (.Name "zip" p2) [d1, d2] [] pos2) X.env)]) _ _ s
  refine Calls.spliced_cons ?_
  refine Call_ (ld_blt I hg2 hm2 PyProof.Rows.boot_zip (PyProof.Rows.callWith_type1 (thn (ha.run pos2 pins s σ H _ I h) fun us s1 ⟨vs, H1, I1, r1, q1⟩ => ?_) hs2 hpl))
  obtain ⟨a, b, xs, ys, ev, qx, qy, q⟩ := q1
  subst ev
  cases r1 with
  | cons r rr =>
    cases rr with
    | cons r' rr =>
      cases rr
      cases r
      cases r'
      obtain ⟨us, ru, pu, _⟩ := I1.tuple qx
      obtain ⟨ws, rw', pw, _⟩ := I1.tuple qy
      obtain ⟨o1, ho1, _⟩ := id pu
      obtain ⟨o2, ho2, _⟩ := id pw
      refine RZ.call_zipT (show s1.heap.IsTuple a us.toArray from pu) (show s1.heap.IsTuple b ws.toArray from pw) fun g zr pi po j1 j2 sg kg => ?_
      refine Calls.spliced_nil ?_
      refine call_enz zr fun g2 er s2 kg2 => wpAny_pyIter_enum er ?_
      have s6 : g.objs.size = s1.heap.objs.size + 5 := sg
      have I2 : Inv X pins σ H1 { s1 with heap := g2 } := I1.kept (t' := s1.toks) fun c o q => kg2 c o (kg c o q)
      have er' : IsEnum g2 (s1.heap.objs.size + 5) (s1.heap.objs.size + 4) 0 .none := by
        rw [← s6]
        exact er
      have ee : (g.objs.size : Addr) = s1.heap.objs.size + 5 := s6
      show PIE X pins σ _ R (.ref g.objs.size) _
      rw [ee]
      refine ⟨s1.heap.objs.size + 5, [s1.heap.objs.size + 5, s1.heap.objs.size + 4, s1.heap.objs.size + 2, s1.heap.objs.size + 3, s1.heap.objs.size, s1.heap.objs.size + 1], _, _, H1, rfl, I2,
        turn_ez (PySem.W.ktu_apart s1.heap.objs.size a b (Heap.lt_size ho1) (Heap.lt_size ho2)) (ne_off 5 4 (by decide)) (ne_off 5 2 (by decide)) (ne_off 5 3 (by decide)) (ne_off 5 0 (by decide)) (ne_off 5 1 (by decide)),
        ⟨⟨_, er'⟩, ⟨_, _, kg2 _ _ zr, .inl rfl⟩, kg2 _ _ pi, ⟨_, _, kg2 _ _ po⟩, j1.at fun o q => kg2 _ o q, j2.at fun o q => kg2 _ o q⟩, fun c hcm => ?_, q⟩
      have c' : c = s1.heap.objs.size + 5 ∨ c = s1.heap.objs.size + 4 ∨ c = s1.heap.objs.size + 2 ∨ c = s1.heap.objs.size + 3 ∨ c = s1.heap.objs.size ∨ c = s1.heap.objs.size + 1 := by simpa using hcm
      have le : s1.heap.objs.size ≤ c := by
        rcases c' with t | t | t | t | t | t
        · rw [t]; exact Nat.le_add_right _ _
        · rw [t]; exact Nat.le_add_right _ _
        · rw [t]; exact Nat.le_add_right _ _
        · rw [t]; exact Nat.le_add_right _ _
        · rw [t]; exact Nat.le_refl _
        · rw [t]; exact Nat.le_add_right _ _
      exact I1.fpOk le (I1.hok.fresh le)
end Ez
namespace K02
open PySem L2
def top (i : Nat) : Stmt := PySem.Challenge.pw_wheelchorus_k02_whole_who_goes_ahead.main.body.getD i (.Pass ⟨0, 0, 0, 0⟩)
abbrev s_is_number : Stmt := top 7
abbrev s_check_number : Stmt := top 8
abbrev s_blocks : Stmt := top 9
abbrev s_row_of : Stmt := top 10
abbrev s_first_difference : Stmt := top 11
abbrev s_goes_ahead : Stmt := top 12
abbrev s_bag : Stmt := top 14
abbrev s_says : Stmt := top 15
abbrev s_draw : Stmt := top 16
abbrev s_number : Stmt := top 17
abbrev s_sum : Stmt := top 18
abbrev s_kin : Stmt := top 19
abbrev s_first : Stmt := top 20
abbrev s_pair : Stmt := top 21
abbrev s_law : Stmt := top 22
abbrev nm_is_number : List Str := ["thing", "letter"]
theorem sc_is_number : FnScope nm_is_number ["thing"] (defScope s_is_number) :=
  ⟨rfl, rfl, rfl, by decide +kernel, rfl, by decide +kernel, by decide +kernel⟩
abbrev nm_check_number : List Str := ["thing"]
theorem sc_check_number : FnScope nm_check_number ["thing"] (defScope s_check_number) :=
  ⟨rfl, rfl, rfl, by decide +kernel, rfl, by decide +kernel, by decide +kernel⟩
abbrev nm_blocks : List Str := ["number", "letter"]
theorem sc_blocks : FnScope nm_blocks ["number"] (defScope s_blocks) :=
  ⟨rfl, rfl, rfl, by decide +kernel, rfl, by decide +kernel, by decide +kernel⟩
abbrev nm_row_of : List Str := ["number", "row", "strokes"]
theorem sc_row_of : FnScope nm_row_of ["number"] (defScope s_row_of) :=
  ⟨rfl, rfl, rfl, by decide +kernel, rfl, by decide +kernel, by decide +kernel⟩
abbrev nm_first_difference : List Str := ["one", "other", "row", "offset", "sign", "other_sign"]
theorem sc_first_difference : FnScope nm_first_difference ["one", "other"] (defScope s_first_difference) :=
  ⟨rfl, rfl, rfl, by decide +kernel, rfl, by decide +kernel, by decide +kernel⟩
abbrev nm_goes_ahead : List Str := ["one", "other", "offset", "row"]
theorem sc_goes_ahead : FnScope nm_goes_ahead ["one", "other"] (defScope s_goes_ahead) :=
  ⟨rfl, rfl, rfl, by decide +kernel, rfl, by decide +kernel, by decide +kernel⟩
abbrev nm_bag : List Str := ["_law_script", "_law_cells", "_law_cell"]
theorem sc_bag : FnScope nm_bag ["_law_script"] (defScope s_bag) :=
  ⟨rfl, rfl, rfl, by decide +kernel, rfl, by decide +kernel, by decide +kernel⟩
abbrev nm_says : List Str := ["_law_told", "_law_due"]
theorem sc_says : FnScope nm_says ["_law_told", "_law_due"] (defScope s_says) :=
  ⟨rfl, rfl, rfl, by decide +kernel, rfl, by decide +kernel, by decide +kernel⟩
abbrev nm_draw : List Str := ["_law_bag_here", "_law_limit", "_law_digit"]
theorem sc_draw : FnScope nm_draw ["_law_bag_here", "_law_limit"] (defScope s_draw) :=
  ⟨rfl, rfl, rfl, by decide +kernel, rfl, by decide +kernel, by decide +kernel⟩
abbrev nm_number : List Str := ["_law_bag_here", "_law_many", "_law_way", "_law_top", "_law_word", "_law_left", "_law_k", "_law_digit"]
theorem sc_number : FnScope nm_number ["_law_bag_here"] (defScope s_number) :=
  ⟨rfl, rfl, rfl, by decide +kernel, rfl, by decide +kernel, by decide +kernel⟩
abbrev nm_sum : List Str := ["_law_word", "_law_sign"]
theorem sc_sum : FnScope nm_sum ["_law_word"] (defScope s_sum) :=
  ⟨rfl, rfl, rfl, by decide +kernel, rfl, by decide +kernel, by decide +kernel⟩
abbrev nm_kin : List Str := ["_law_bag_here", "_law_number_here", "_law_start", "_law_word", "_law_k"]
theorem sc_kin : FnScope nm_kin ["_law_bag_here", "_law_number_here"] (defScope s_kin) :=
  ⟨rfl, rfl, rfl, by decide +kernel, rfl, by decide +kernel, by decide +kernel⟩
abbrev nm_first : List Str := ["_law_one", "_law_other", "_law_at"]
theorem sc_first : FnScope nm_first ["_law_one", "_law_other"] (defScope s_first) :=
  ⟨rfl, rfl, rfl, by decide +kernel, rfl, by decide +kernel, by decide +kernel⟩
abbrev nm_pair : List Str := ["_law_one", "_law_other", "_law_first_here", "_law_second", "_law_at", "_law_told", "_law_back"]
theorem sc_pair : FnScope nm_pair ["_law_one", "_law_other"] (defScope s_pair) :=
  ⟨rfl, rfl, rfl, by decide +kernel, rfl, by decide +kernel, by decide +kernel⟩
abbrev nm_law : List Str := ["_law_script", "_law_bag_here", "_law_first_here", "_law_numbers", "_law_one", "_law_other"]
theorem sc_law : FnScope nm_law ["_law_script"] (defScope s_law) :=
  ⟨rfl, rfl, rfl, by decide +kernel, rfl, by decide +kernel, by decide +kernel⟩
structure Txt (K : PySem.W.Frag) (mg : Str → Option Value) where
  a_is_number : Addr
  d_is_number : FuncData
  F_is_number : Fun K "is_number" "is_number" s_is_number a_is_number d_is_number
  b_is_number : Binds K d_is_number ["thing"] []
  g_is_number : mg "is_number" = some (.ref a_is_number)
  a_check_number : Addr
  d_check_number : FuncData
  F_check_number : Fun K "check_number" "check_number" s_check_number a_check_number d_check_number
  b_check_number : Binds K d_check_number ["thing"] []
  g_check_number : mg "check_number" = some (.ref a_check_number)
  a_blocks : Addr
  d_blocks : FuncData
  F_blocks : Fun K "blocks" "blocks" s_blocks a_blocks d_blocks
  b_blocks : Binds K d_blocks ["number"] []
  g_blocks : mg "blocks" = some (.ref a_blocks)
  a_row_of : Addr
  d_row_of : FuncData
  F_row_of : Fun K "row_of" "row_of" s_row_of a_row_of d_row_of
  b_row_of : Binds K d_row_of ["number"] []
  g_row_of : mg "row_of" = some (.ref a_row_of)
  a_first_difference : Addr
  d_first_difference : FuncData
  F_first_difference : Fun K "first_difference" "first_difference" s_first_difference a_first_difference d_first_difference
  b_first_difference : Binds K d_first_difference ["one", "other"] []
  g_first_difference : mg "first_difference" = some (.ref a_first_difference)
  a_goes_ahead : Addr
  d_goes_ahead : FuncData
  F_goes_ahead : Fun K "goes_ahead" "goes_ahead" s_goes_ahead a_goes_ahead d_goes_ahead
  b_goes_ahead : Binds K d_goes_ahead ["one", "other"] []
  g_goes_ahead : mg "goes_ahead" = some (.ref a_goes_ahead)
  a_bag : Addr
  d_bag : FuncData
  F_bag : Fun K "_law_bag" "_law_bag" s_bag a_bag d_bag
  b_bag : Binds K d_bag ["_law_script"] []
  g_bag : mg "_law_bag" = some (.ref a_bag)
  a_says : Addr
  d_says : FuncData
  F_says : Fun K "_law_says" "_law_says" s_says a_says d_says
  b_says : Binds K d_says ["_law_told", "_law_due"] []
  g_says : mg "_law_says" = some (.ref a_says)
  a_draw : Addr
  d_draw : FuncData
  F_draw : Fun K "_law_draw" "_law_draw" s_draw a_draw d_draw
  b_draw : Binds K d_draw ["_law_bag_here", "_law_limit"] []
  g_draw : mg "_law_draw" = some (.ref a_draw)
  a_number : Addr
  d_number : FuncData
  F_number : Fun K "_law_number" "_law_number" s_number a_number d_number
  b_number : Binds K d_number ["_law_bag_here"] []
  g_number : mg "_law_number" = some (.ref a_number)
  a_sum : Addr
  d_sum : FuncData
  F_sum : Fun K "_law_sum" "_law_sum" s_sum a_sum d_sum
  b_sum : Binds K d_sum ["_law_word"] []
  g_sum : mg "_law_sum" = some (.ref a_sum)
  a_kin : Addr
  d_kin : FuncData
  F_kin : Fun K "_law_kin" "_law_kin" s_kin a_kin d_kin
  b_kin : Binds K d_kin ["_law_bag_here", "_law_number_here"] []
  g_kin : mg "_law_kin" = some (.ref a_kin)
  a_first : Addr
  d_first : FuncData
  F_first : Fun K "_law_first" "_law_first" s_first a_first d_first
  b_first : Binds K d_first ["_law_one", "_law_other"] []
  g_first : mg "_law_first" = some (.ref a_first)
  a_pair : Addr
  d_pair : FuncData
  F_pair : Fun K "_law_pair" "_law_pair" s_pair a_pair d_pair
  b_pair : Binds K d_pair ["_law_one", "_law_other"] []
  g_pair : mg "_law_pair" = some (.ref a_pair)
  a_law : Addr
  d_law : FuncData
  F_law : Fun K "law" "law" s_law a_law d_law
  b_law : Binds K d_law ["_law_script"] []
  g_law : mg "law" = some (.ref a_law)
  t_DIGITS : Tok
  c_DIGITS : mg "DIGITS" = some (.str "123456789" t_DIGITS)
  t_MOST_DIGITS : Tok
  c_MOST_DIGITS : mg "MOST_DIGITS" = some (.int 4 t_MOST_DIGITS)
  t_GREATEST_SUM : Tok
  c_GREATEST_SUM : mg "GREATEST_SUM" = some (.int 24 t_GREATEST_SUM)
  z_all : mg "all" = none
  z_bool : mg "bool" = none
  z_enumerate : mg "enumerate" = none
  z_int : mg "int" = none
  z_isinstance : mg "isinstance" = none
  z_len : mg "len" = none
  z_min : mg "min" = none
  z_range : mg "range" = none
  z_str : mg "str" = none
  z_sum : mg "sum" = none
  z_tuple : mg "tuple" = none
  z_zip : mg "zip" = none
end K02
/-! The promises. -/
namespace K02
open PySem L2 Wm
def sp_is_number (K : PySem.W.Frag) : Sp := fun vs H Q _ => ∃ (ds : List Nat), Num ds ∧ vs = [.str (numS ds)] ∧ ∀ H', Same H H' → Q (.bl true) H'
def sp_check_number (K : PySem.W.Frag) : Sp := fun vs H Q _ => ∃ (ds : List Nat), Num ds ∧ vs = [.str (numS ds)] ∧ ∀ H', Same H H' → Q .non H'
def sp_blocks (K : PySem.W.Frag) : Sp := fun vs H Q _ => ∃ (ds : List Nat), Num ds ∧ vs = [.str (numS ds)] ∧ ∀ H' p, Same H H' → H p = none → H' p = some (.tup (ds.map fun (d : Nat) => V.int (d : Int))) → Q (.ref p) H'
def sp_row_of (K : PySem.W.Frag) : Sp := fun vs H Q _ => ∃ (ds : List Nat), Num ds ∧ vs = [.str (numS ds)] ∧ ∀ H' p, Same H H' → H p = none → H' p = some (.tup ((rowL ds).map V.int)) → Q (.ref p) H'
/-- where the rows part, or the first row's length -/
def Parts (ds es : List Nat) (k : Nat) : Prop := (ds = es ∧ k = (rowL ds).length) ∨ ∃ a b, Diff (rowL ds) (rowL es) k a b
def sp_first_difference (K : PySem.W.Frag) : Sp := fun vs H Q _ => ∃ (ds es : List Nat), Num ds ∧ Num es ∧ vs = [.str (numS ds), .str (numS es)] ∧ ∀ H' k, Same H H' → Parts ds es k → Q (.int (k : Nat)) H'
def Ahead (ds es : List Nat) (b : Bool) : Prop := b = true ↔ es < ds
def sp_goes_ahead (K : PySem.W.Frag) : Sp := fun vs H Q _ => ∃ (ds es : List Nat), Num ds ∧ Num es ∧ vs = [.str (numS ds), .str (numS es)] ∧ ∀ H' b, Same H H' → Ahead ds es b → Q (.bl b) H'
def sp_bag (K : PySem.W.Frag) : Sp := fun vs H Q _ => ∃ (a : Addr) (ns : List Int), vs = [.ref a] ∧ SqL K H a (ns.map V.int) ∧ ns.length ≤ 63 ∧ ∀ H' b, Same H H' → Bag H' b 0 → Q (.ref b) H'
def sp_says (K : PySem.W.Frag) : Sp := fun vs H Q _ => ∃ a b : Bool, vs = [.bl a, .bl b] ∧ Q (.bl (decide (V.bl a = V.bl b))) H
def sp_draw (K : PySem.W.Frag) : Sp := fun vs H Q _ => ∃ (b : Addr) (n : Nat) (lim : Int), vs = [.ref b, .int lim] ∧ 0 < lim ∧ lim < 1073741824 ∧ Bag H b n ∧ n ≤ 1000000 ∧
  ∀ H' d, 0 ≤ d → d < lim → Bag H' b (n + 1) → But b H H' → Q (.int d) H'
def sp_number (K : PySem.W.Frag) : Sp := fun vs H Q _ => ∃ (b : Addr) (n : Nat), vs = [.ref b] ∧ Bag H b n ∧ n ≤ 900000 ∧ ∀ H' (ds : List Nat), Num ds → Bag H' b (n + 6) → But b H H' → Q (.str (numS ds)) H'
def sp_sum (K : PySem.W.Frag) : Sp := fun vs H Q _ => ∃ (ds : List Nat), (∀ d ∈ ds, 1 ≤ d ∧ d ≤ 9) ∧ ds.length ≤ 8 ∧ vs = [.str (numS ds)] ∧ ∀ H', Same H H' → Q (.int (ds.sum : Nat)) H'
def sp_kin (K : PySem.W.Frag) : Sp := fun vs H Q _ => ∃ (b : Addr) (n : Nat) (ds : List Nat), vs = [.ref b, .str (numS ds)] ∧ Num ds ∧ Bag H b n ∧ n ≤ 800000 ∧ ∀ H' (es : List Nat), Num es → Bag H' b (n + 7) → But b H H' → Q (.str (numS es)) H'
/-- the first place where two lists of ints part, within both -/
def FirstAt (xs ys : List Int) (v : V) : Prop := (v = .non ∧ ∀ j, j < min xs.length ys.length → xs[j]? = ys[j]?) ∨ ∃ k a b, v = .int (k : Nat) ∧ Diff xs ys k a b
def sp_first (K : PySem.W.Frag) : Sp := fun vs H Q _ => ∃ (p q : Addr) (xs ys : List Int), vs = [.ref p, .ref q] ∧ SqT K H p (xs.map V.int) ∧ SqT K H q (ys.map V.int) ∧ xs.length ≤ 1000 ∧ ys.length ≤ 1000 ∧ ∀ v, FirstAt xs ys v → Q v H
def sp_pair (K : PySem.W.Frag) : Sp := fun vs H Q _ => ∃ (ds es : List Nat), Num ds ∧ Num es ∧ vs = [.str (numS ds), .str (numS es)] ∧ ∀ H', Same H H' → Q (.bl true) H'
def sp_law (K : PySem.W.Frag) : Sp := fun vs H Q _ => ∃ (a : Addr) (ns : List Int), vs = [.ref a] ∧ SqL K H a (ns.map V.int) ∧ ns.length ≤ 63 ∧ ∀ H', Q (.bl true) H'
end K02
namespace K02
open PySem L2 Wm
section
variable {P : Program} {w : World} {K : PySem.W.Frag} {mg : Str → Option Value} {base : Heap}
theorem sz_num {ds : List Nat} (h : ds.length ≤ 1000) : (numS ds).length ≤ sizeLine := by
  rw [numS_len]
  exact Nat.le_of_lt (small1000 h)
theorem all_rep (n : Nat) : (List.replicate n true).all id = true := by
  induction n with
  | zero => rfl
  | succ n ih => rw [List.replicate_succ, List.all_cons, ih]; rfl
theorem take_succ_map {α β : Type} {l : List α} {i : Nat} {x : α} (f : α → β) (h : l[i]? = some x) : (l.take i).map f ++ [f x] = (l.take (i + 1)).map f := by
  rw [List.take_add_one, h, List.map_append]
  rfl
theorem sum_cast : ∀ ds : List Nat, (ds.map fun (d : Nat) => (d : Int)).sum = ((ds.sum : Nat) : Int)
  | [] => rfl
  | d :: ds => by
    rw [List.map_cons, List.sum_cons, List.sum_cons, sum_cast ds]
    omega
theorem ok_is_number (T : Txt K mg) : FnOk P w K mg base CX0 1 T.a_is_number T.d_is_number ["thing"] (sp_is_number K) := by
  refine T.F_is_number.ok sc_is_number (fun vs H Q E h => ?_) (fun cdv A outer s H vs Q E hr h => ?_)
  · obtain ⟨ds, _, rfl, _⟩ := h
    rfl
  · obtain ⟨ds, N, rfl, k⟩ := h
    have hlen := N.len
    have hpos := N.pos
    have hz : (numS ds).length ≤ sizeLine := sz_num (by omega)
    refine ⟨_, (pss_cons (ps_if (PW.pt (pw_or (pt_not (pt_val (pe_callB call_isi (by rfl) T.z_isinstance (by decide +kernel) (pa_cons (pv 0) (pa_cons (pe_bltn (v := V.ty "str") (by rfl) T.z_str (by decide +kernel) rfl) pa_nil))))) (pw_or1 (pt_not (pt_chain op_le op_le pe_int (pe_callB call_len_str (by rfl) T.z_len PySem.boot_len (pa_cons (pv 0) pa_nil)) (pe_glob (v := V.int 4) rfl T.c_MOST_DIGITS ⟨_, rfl⟩))))))
        (pss_one (ps_ret pe_bl))
        pss_nil)
      (pss_cons (ps_if (pt_not (pt_val (pe_callB (cr_all rfl) (by rfl) T.z_all (by decide +kernel) (pa_cons (pe_lc (own := [("letter", 1)]) (g := gName 1) (tt := tYes) rfl sc_is_number.nd (pi_str (pv 0)) (blkOk_by (own := [("letter", 1)]) (N := nm_is_number) (sc := defScope s_is_number) (by decide +kernel)) (fun _ _ _ _ _ => pg_name (i := 1) sc_is_number.nd rfl (Or.inl rfl)) (fun _ _ _ _ _ => pts_nil) (fun _ _ _ _ _ => (pe_cmpR op_in_sign (pv 1) (pe_glob (v := V.str "123456789") rfl T.c_DIGITS ⟨_, rfl⟩) rfl))) pa_nil))))
        (pss_one (ps_ret pe_bl))
        pss_nil)
      (pss_one (ps_ret (pe_cmpR op_le (pe_callB (cr_sum rfl) (by rfl) T.z_sum (by decide +kernel) (pa_cons (pe_lc (own := [("letter", 1)]) (g := gName 1) (tt := tYes) rfl sc_is_number.nd (pi_str (pv 0)) (blkOk_by (own := [("letter", 1)]) (N := nm_is_number) (sc := defScope s_is_number) (by decide +kernel)) (fun _ _ _ _ _ => pg_name (i := 1) sc_is_number.nd rfl (Or.inl rfl)) (fun _ _ _ _ _ => pts_nil) (fun _ _ _ _ _ => (pe_callTy call_int_str (by rfl) T.z_int (by decide +kernel) (pa_cons (pv 1) pa_nil)))) pa_nil)) (pe_glob (v := V.int 24) rfl T.c_GREATEST_SUM ⟨_, rfl⟩) (nomark _)))))), ?_⟩
    refine ⟨_, rfl, _, _, _, _, true, rfl, .ty "str", .base (.str _), kit_ty (by decide +kernel), true, rfl, ?_⟩
    refine iteF ?_
    refine ⟨_, rfl, _, rfl, hz, _, _, rfl, rfl, _, rfl, ?_⟩
    have e1 : decide ((1 : Int) ≤ ((numS ds).length : Nat)) = true := decide_eq_true (by rw [numS_len]; omega)
    rw [e1]
    refine iteT ?_
    refine ⟨_, _, rfl, rfl, _, rfl, ?_⟩
    refine iteNS (by rw [numS_len]; omega) ?_
    refine ⟨_, rfl, _, rfl, fun D hD => ?_⟩
    refine lc_it walk_str (fun i H' => Same H H' ∧ H' D = some (.lst ((List.replicate i true).map V.bl))) ⟨same_new hD, upd_same⟩ (fun _ _ _ _ => trivial) (fun i x H1 H' hi hP hY => ?_) (fun H1 hP => ?_)
    · obtain ⟨sm, hl⟩ := hP
      obtain ⟨rfl, c, hc, rfl⟩ := hY
      rw [numS_size] at hi
      rw [numS_at ds i hi] at hc
      have hc' := (Option.some.inj hc).symm
      subst hc'
      refine ⟨rfl, yesT ?_⟩
      refine ⟨_, rfl, _, _, rfl, rfl, _, hl, by rw [List.length_map, List.length_replicate]; exact small1000 (by omega), ?_⟩
      have e2 : decide ((ds[i] + 48) ∈ ("123456789" : Str).cps.toList) = true := decide_eq_true (dig_in (N.dig _ (List.getElem_mem hi)))
      rw [e2]
      refine ⟨same_mut sm hD, ?_⟩
      rw [upd_same, List.replicate_succ', List.map_append]
      rfl
    · obtain ⟨sm, hl⟩ := hP
      refine ⟨D, List.replicate (numS ds).cps.size true, rfl, SqL.of hl, _, rfl, ?_⟩
      rw [all_rep]
      refine iteF ?_
      refine ⟨_, rfl, _, rfl, fun D2 hD2 => ?_⟩
      refine lc_it walk_str (fun i H' => Same H H' ∧ H' D2 = some (.lst ((ds.take i).map fun (d : Nat) => V.int (d : Int)))) ⟨sm.trans (same_new hD2), upd_same⟩ (fun _ _ _ _ => trivial) (fun i x H2 H' hi hP hY => ?_) (fun H2 hP => ?_)
      · obtain ⟨sm2, hl2⟩ := hP
        obtain ⟨rfl, c, hc, rfl⟩ := hY
        rw [numS_size] at hi
        rw [numS_at ds i hi] at hc
        have hc' := (Option.some.inj hc).symm
        subst hc'
        refine ⟨rfl, yesT ?_⟩
        refine ⟨_, rfl, _, _, rfl, dig_int (N.dig _ (List.getElem_mem hi)), (by show 1 ≤ 640; decide), _, hl2, by rw [List.length_map, List.length_take]; exact small1000 (by omega), ?_⟩
        refine ⟨same_mut sm2 (sm.free hD2), ?_⟩
        rw [upd_same, take_succ_map _ (List.getElem?_eq_getElem hi)]
      · obtain ⟨sm2, hl2⟩ := hP
        rw [numS_size, List.take_length] at hl2
        refine ⟨D2, ds.map fun (d : Nat) => (d : Int), rfl, SqL.of (by rw [hl2, List.map_map]; rfl), _, _, rfl, rfl, ?_⟩
        rw [sum_cast]
        have e3 : decide (((ds.sum : Nat) : Int) ≤ 24) = true := decide_eq_true (by have := N.sum; omega)
        show Q (V.bl (decide (((ds.sum : Nat) : Int) ≤ 24))) H2
        rw [e3]
        exact k _ sm2
theorem ok_check_number (T : Txt K mg) : FnOk P w K mg base CX0 2 T.a_check_number T.d_check_number ["thing"] (sp_check_number K) := by
  refine T.F_check_number.ok sc_check_number (fun vs H Q E h => ?_) (fun cdv A outer s H vs Q E hr h => ?_)
  · obtain ⟨ds, _, rfl, _⟩ := h
    rfl
  · obtain ⟨ds, N, rfl, k⟩ := h
    refine ⟨_, (pss_one (ps_if (pt_not (pt_val (pe_call (ok_is_number T) (hr.mono (by decide)) (by rfl) T.g_is_number T.F_is_number.kp T.b_is_number .nil pass0 (pa_cons (pv 0) pa_nil))))
        (pss_one ps_never)
        pss_nil)), ?_⟩
    refine ⟨_, rfl, ds, N, rfl, fun H1 s1 => ?_⟩
    refine ⟨true, rfl, iteF ?_⟩
    exact k _ s1
theorem ok_blocks (T : Txt K mg) : FnOk P w K mg base CX0 3 T.a_blocks T.d_blocks ["number"] (sp_blocks K) := by
  refine T.F_blocks.ok sc_blocks (fun vs H Q E h => ?_) (fun cdv A outer s H vs Q E hr h => ?_)
  · obtain ⟨ds, _, rfl, _⟩ := h
    rfl
  · obtain ⟨ds, N, rfl, k⟩ := h
    have hlen := N.len
    refine ⟨_, (pss_cons (ps_expr (pe_call (ok_check_number T) (hr.mono (by decide)) (by rfl) T.g_check_number T.F_check_number.kp T.b_check_number .nil pass0 (pa_cons (pv 0) pa_nil)))
      (pss_one (ps_ret (pe_callTy call_tuple_of (by rfl) T.z_tuple (by decide +kernel) (pa_cons (pe_lc (own := [("letter", 1)]) (g := gName 1) (tt := tYes) rfl sc_blocks.nd (pi_str (pv 0)) (blkOk_by (own := [("letter", 1)]) (N := nm_blocks) (sc := defScope s_blocks) (by decide +kernel)) (fun _ _ _ _ _ => pg_name (i := 1) sc_blocks.nd rfl (Or.inl rfl)) (fun _ _ _ _ _ => pts_nil) (fun _ _ _ _ _ => (pe_callTy call_int_str (by rfl) T.z_int (by decide +kernel) (pa_cons (pv 1) pa_nil)))) pa_nil))))), ?_⟩
    refine ⟨_, rfl, ds, N, rfl, fun H1 s1 => ?_⟩
    refine ⟨_, rfl, _, rfl, fun D hD => ?_⟩
    refine lc_it walk_str (fun i H' => Same H1 H' ∧ H' D = some (.lst ((ds.take i).map fun (d : Nat) => V.int (d : Int)))) ⟨same_new hD, upd_same⟩ (fun _ _ _ _ => trivial) (fun i x H2 H' hi hP hY => ?_) (fun H2 hP => ?_)
    · obtain ⟨sm2, hl2⟩ := hP
      obtain ⟨rfl, c, hc, rfl⟩ := hY
      rw [numS_size] at hi
      rw [numS_at ds i hi] at hc
      have hc' := (Option.some.inj hc).symm
      subst hc'
      refine ⟨rfl, yesT ?_⟩
      refine ⟨_, rfl, _, _, rfl, dig_int (N.dig _ (List.getElem_mem hi)), (by show 1 ≤ 640; decide), _, hl2, by rw [List.length_map, List.length_take]; exact small1000 (by omega), ?_⟩
      refine ⟨same_mut sm2 hD, ?_⟩
      rw [upd_same, take_succ_map _ (List.getElem?_eq_getElem hi)]
    · obtain ⟨sm2, hl2⟩ := hP
      rw [numS_size, List.take_length] at hl2
      refine ⟨D, _, rfl, .inl ⟨SqL.of hl2, fun p hp => ?_⟩⟩
      exact k _ p ((s1.trans sm2).trans (same_new hp)) ((s1.trans sm2).free hp) upd_same
theorem row_cons (d : Nat) (ds : List Nat) : (rowL (d :: ds)) = blk d ++ ([0, 0] ++ rowL ds) := rfl
/-- the rows of the first digits, without the two ticks at the end -/
def pre : List Nat → List Int
  | [] => []
  | d :: ds => blk d ++ ([0, 0] ++ pre ds)
theorem pre_app : ∀ (ds : List Nat) (d : Nat), pre (ds ++ [d]) = pre ds ++ (blk d ++ [0, 0])
  | [], d => by show blk d ++ ([0, 0] ++ []) = [] ++ _; simp
  | e :: ds, d => by
    show blk e ++ ([0, 0] ++ pre (ds ++ [d])) = (blk e ++ ([0, 0] ++ pre ds)) ++ _
    rw [pre_app ds d]
    simp only [List.append_assoc]
theorem pre_row : ∀ ds : List Nat, pre ds ++ [0, 0] = rowL ds
  | [] => rfl
  | d :: ds => by
    show (blk d ++ ([0, 0] ++ pre ds)) ++ _ = blk d ++ ([0, 0] ++ rowL ds)
    rw [← pre_row ds]
    simp only [List.append_assoc]
theorem blk_V (d : Nat) : (List.replicate d [V.int 1, V.int 0]).flatten = (blk d).map V.int := by
  unfold blk
  rw [List.map_flatten, List.map_replicate]
  rfl
theorem pre_le : ∀ ds : List Nat, (∀ d ∈ ds, d ≤ 9) → (pre ds).length ≤ 20 * ds.length
  | [], _ => by decide
  | d :: ds, h => by
    have ih := pre_le ds fun y m => h y (List.mem_cons_of_mem _ m)
    have hd := h d (by simp)
    show (blk d ++ ([0, 0] ++ pre ds)).length ≤ _
    rw [List.length_append, List.length_append, blk_len]
    simp only [List.length_cons, List.length_nil]
    omega
theorem take_succ_app {α : Type} {l : List α} {i : Nat} {x : α} (h : l[i]? = some x) : l.take (i + 1) = l.take i ++ [x] := by
  rw [List.take_add_one, h]
  rfl
theorem ok_row_of (T : Txt K mg) : FnOk P w K mg base CX0 4 T.a_row_of T.d_row_of ["number"] (sp_row_of K) := by
  refine T.F_row_of.ok sc_row_of (fun vs H Q E h => ?_) (fun cdv A outer s H vs Q E hr h => ?_)
  · obtain ⟨ds, _, rfl, _⟩ := h
    rfl
  · obtain ⟨ds, N, rfl, k⟩ := h
    have hlen := N.len
    refine ⟨_, (pss_cons (ps_set (i := 1) sc_row_of.nd rfl (Or.inl rfl) (pe_lst pa_nil))
      (pss_cons (ps_for PassesOwn.never rfl (pi_tup (pe_call (ok_blocks T) (hr.mono (by decide)) (by rfl) T.g_blocks T.F_blocks.kp T.b_blocks .nil pass0 (pa_cons (pv 0) pa_nil))) (pg_name (i := 2) sc_row_of.nd rfl (Or.inl rfl))
        (pss_cons (ps_expr (pe_bm PySem.F.plainAttrs_list PySem.F.slot_list_extend PySem.F.type_list_extend mt_extend (pv 1) (pa_cons (pe_op op_rep (pe_lst (pa_cons pe_int (pa_cons pe_int pa_nil))) (pv 2)) pa_nil)))
        (pss_one (ps_expr (pe_bm PySem.F.plainAttrs_list PySem.F.slot_list_extend PySem.F.type_list_extend mt_extend (pv 1) (pa_cons (pe_lst (pa_cons pe_int (pa_cons pe_int pa_nil))) pa_nil))))))
      (pss_cons (ps_expr (pe_bm PySem.F.plainAttrs_list PySem.F.slot_list_extend PySem.F.type_list_extend mt_extend (pv 1) (pa_cons (pe_lst (pa_cons pe_int (pa_cons pe_int pa_nil))) pa_nil)))
      (pss_one (ps_ret (pe_callTy call_tuple_of (by rfl) T.z_tuple (by decide +kernel) (pa_cons (pv 1) pa_nil))))))), ?_⟩
    refine ⟨Nat.zero_le _, fun r hr0 => ?_⟩
    refine ⟨_, rfl, ds, N, rfl, fun H1 t s1 ht0 ht => ?_⟩
    have hrt : r ≠ t := fun e => by
      rw [e] at hr0
      have := ne_of_none (upd_same (H := H) (a := r) (o := .lst [])) ht0
      exact this e
    have hr1 : H1 r = some (.lst []) := s1 _ _ upd_same
    have sH : Same H H1 := (same_new hr0).trans s1
    refine ⟨t, rfl, ⟨_, SqT.of ht⟩, ?_⟩
    refine for_tup (xs := ds.map fun (d : Nat) => V.int (d : Int)) (fun i σ H2 => ∃ v, σ = [some (.str (numS ds)), some (.ref r), v] ∧ Same H H2 ∧ H2 t = some (.tup (ds.map fun (d : Nat) => V.int (d : Int))) ∧ H2 r = some (.lst ((pre (ds.take i)).map V.int)))
      ⟨_, rfl, sH, ht, hr1⟩ (fun i σ H2 _ hP => ?_) (fun i x σ H2 hx hP => ?_) (fun σ H2 hP => ?_)
    · obtain ⟨v, rfl, _, h2, _⟩ := hP
      exact SqT.of h2
    · obtain ⟨v, rfl, sm, h2, h3⟩ := hP
      have hi : i < ds.length := by
        have := (List.getElem?_eq_some_iff.mp hx).1
        rw [List.length_map] at this
        exact this
      have ex : x = .int (ds[i] : Nat) := by
        rw [List.getElem?_map, List.getElem?_eq_getElem hi] at hx
        exact (Option.some.inj hx).symm
      subst ex
      have hd := N.dig _ (List.getElem_mem hi)
      have hp9 := pre_le (ds.take i) fun d m => (N.dig d (List.mem_of_mem_take m)).2
      rw [List.length_take] at hp9
      have hrn : H r = none := hr0
      -- row.extend([1, 0] * strokes)
      refine ⟨.ref r, rfl, .inl ⟨rfl, _, SqL.of h3⟩, by decide, fun a ha => ?_⟩
      refine ⟨_, rfl, a, _, _, rfl, rfl, upd_same, by omega, by omega, by rw [Int.toNat_natCast]; show 2 * ds[i] ≤ _; exact Nat.le_of_lt (small1000 (by omega)), fun b hb => ?_⟩
      rw [Int.toNat_natCast, blk_V]
      have ra : r ≠ a := ne_of_none h3 ha
      have rb : r ≠ b := ne_of_none (at_old h3 ha) hb
      refine ⟨r, b, _, _, rfl, rfl, at_old (at_old h3 ha) hb, upd_same, ?_, ?_⟩
      · rw [List.length_map, List.length_map, blk_len]
        exact Nat.le_of_lt (small1000 (by omega))
      -- row.extend([0, 0])
      have h4 : upd (upd (upd H2 a (.lst [.int 1, .int 0])) b (.lst ((blk ds[i]).map V.int))) r (.lst ((pre (ds.take i)).map V.int ++ (blk ds[i]).map V.int)) r = some (.lst ((pre (ds.take i)).map V.int ++ (blk ds[i]).map V.int)) := upd_same
      refine ⟨.ref r, rfl, .inl ⟨rfl, _, SqL.of h4⟩, by decide, fun c hc => ?_⟩
      refine ⟨r, c, _, _, rfl, rfl, at_old h4 hc, upd_same, ?_, ?_⟩
      · rw [List.length_append, List.length_map, List.length_map, blk_len]
        exact Nat.le_of_lt (small1000 (by simp only [List.length_cons, List.length_nil]; omega))
      refine ⟨_, rfl, ?_, ?_, ?_⟩
      · have s2 : Same H2 (upd (upd H2 a (.lst [.int 1, .int 0])) b (.lst ((blk ds[i]).map V.int))) := (same_new ha).trans (same_new hb)
        have s3 : Same H (upd (upd (upd H2 a (.lst [.int 1, .int 0])) b (.lst ((blk ds[i]).map V.int))) r (.lst ((pre (ds.take i)).map V.int ++ (blk ds[i]).map V.int))) := same_mut (sm.trans s2) hrn
        exact same_mut (s3.trans (same_new hc)) hrn
      · rw [upd_ne hrt.symm]
        refine at_old ?_ hc
        rw [upd_ne hrt.symm]
        exact at_old (at_old h2 ha) hb
      · rw [upd_same, take_succ_app (List.getElem?_eq_getElem hi), pre_app]
        simp only [List.map_append, List.append_assoc]
        rfl
    · obtain ⟨v, rfl, sm, h2, h3⟩ := hP
      rw [List.length_map, List.take_length] at h3
      have hp9 := pre_le ds fun d m => (N.dig d m).2
      refine ⟨.ref r, rfl, .inl ⟨rfl, _, SqL.of h3⟩, by decide, fun a ha => ?_⟩
      refine ⟨r, a, _, _, rfl, rfl, at_old h3 ha, upd_same, ?_, ?_⟩
      · rw [List.length_map]
        exact Nat.le_of_lt (small1000 (by simp only [List.length_cons, List.length_nil]; omega))
      refine ⟨.ref r, rfl, r, _, rfl, .inl ⟨SqL.of upd_same, fun p hp => ?_⟩⟩
      have s2 : Same H (upd (upd H2 a (.lst [.int 0, .int 0])) r (.lst ((pre ds).map V.int ++ [.int 0, .int 0]))) := same_mut (sm.trans (same_new ha)) hr0
      refine k _ p (s2.trans (same_new hp)) (s2.free hp) ?_
      rw [upd_same, ← pre_row ds, List.map_append]
      rfl
end
end K02
namespace K02
open PySem L2 Wm
section
variable {P : Program} {w : World} {K : PySem.W.Frag} {mg : Str → Option Value} {base : Heap}
theorem ok_says (T : Txt K mg) : FnOk P w K mg base CX0 1 T.a_says T.d_says ["_law_told", "_law_due"] (sp_says K) := by
  refine T.F_says.ok sc_says (fun vs H Q E h => ?_) (fun cdv A outer s H vs Q E hr h => ?_)
  · obtain ⟨a, b, rfl, _⟩ := h
    rfl
  · obtain ⟨a, b, rfl, k⟩ := h
    refine ⟨_, (pss_one (ps_ret (pe_and (pe_callB call_isi (by rfl) T.z_isinstance (by decide +kernel) (pa_cons (pv 0) (pa_cons (pe_bltn (v := V.ty "bool") (by rfl) T.z_bool (by decide +kernel) rfl) pa_nil))) (pe_one (pe_cmpR op_eq (pv 0) (pv 1) (nomark _)))))), ?_⟩
    refine ⟨_, rfl, _, _, _, _, true, rfl, .ty "bool", .base (.bl _), kit_ty (by decide +kernel), true, rfl, iteT ?_⟩
    exact ⟨_, rfl, _, rfl, rfl, k⟩
theorem ok_sum (T : Txt K mg) : FnOk P w K mg base CX0 1 T.a_sum T.d_sum ["_law_word"] (sp_sum K) := by
  refine T.F_sum.ok sc_sum (fun vs H Q E h => ?_) (fun cdv A outer s H vs Q E hr h => ?_)
  · obtain ⟨ds, _, _, rfl, _⟩ := h
    rfl
  · obtain ⟨ds, N, hlen, rfl, k⟩ := h
    refine ⟨_, (pss_one (ps_ret (pe_callB (cr_sum rfl) (by rfl) T.z_sum (by decide +kernel) (pa_cons (pe_lc (own := [("_law_sign", 1)]) (g := gName 1) (tt := tYes) rfl sc_sum.nd (pi_str (pv 0)) (blkOk_by (own := [("_law_sign", 1)]) (N := nm_sum) (sc := defScope s_sum) (by decide +kernel)) (fun _ _ _ _ _ => pg_name (i := 1) sc_sum.nd rfl (Or.inl rfl)) (fun _ _ _ _ _ => pts_nil) (fun _ _ _ _ _ => (pe_callTy call_int_str (by rfl) T.z_int (by decide +kernel) (pa_cons (pv 1) pa_nil)))) pa_nil)))), ?_⟩
    refine ⟨_, rfl, _, rfl, fun D2 hD2 => ?_⟩
    refine lc_it walk_str (fun i H' => Same H H' ∧ H' D2 = some (.lst ((ds.take i).map fun (d : Nat) => V.int (d : Int)))) ⟨same_new hD2, upd_same⟩ (fun _ _ _ _ => trivial) (fun i x H2 H' hi hP hY => ?_) (fun H2 hP => ?_)
    · obtain ⟨sm2, hl2⟩ := hP
      obtain ⟨rfl, c, hc, rfl⟩ := hY
      rw [numS_size] at hi
      rw [numS_at ds i hi] at hc
      have hc' := (Option.some.inj hc).symm
      subst hc'
      refine ⟨rfl, yesT ?_⟩
      refine ⟨_, rfl, _, _, rfl, dig_int (N _ (List.getElem_mem hi)), (by show 1 ≤ 640; decide), _, hl2, by rw [List.length_map, List.length_take]; exact small1000 (by omega), ?_⟩
      refine ⟨same_mut sm2 hD2, ?_⟩
      rw [upd_same, take_succ_map _ (List.getElem?_eq_getElem hi)]
    · obtain ⟨sm2, hl2⟩ := hP
      rw [numS_size, List.take_length] at hl2
      refine ⟨D2, ds.map fun (d : Nat) => (d : Int), rfl, SqL.of (by rw [hl2, List.map_map]; rfl), ?_⟩
      rw [sum_cast]
      exact k _ sm2
theorem cut_some (ns : List Int) (hi : Option Int) : ∃ m, cutV (ns.map V.int) none hi = (ns.take m).map V.int := by
  refine ⟨HT.sIx (ns.map V.int).length (ns.map V.int).length hi - HT.sIx (ns.map V.int).length 0 none, ?_⟩
  unfold cutV
  rw [HT.sIx_none, List.drop_zero, List.map_take]
theorem ok_bag (T : Txt K mg) : FnOk P w K mg base CX0 1 T.a_bag T.d_bag ["_law_script"] (sp_bag K) := by
  refine T.F_bag.ok sc_bag (fun vs H Q E h => ?_) (fun cdv A outer s H vs Q E hr h => ?_)
  · obtain ⟨a, ns, rfl, _⟩ := h
    rfl
  · obtain ⟨a, ns, rfl, hS, hlen, k⟩ := h
    refine ⟨_, (pss_cons (ps_setLc (i := 1) (own := [("_law_cell", 2)]) (g := gName 2) (tt := tYes) rfl sc_bag.nd rfl rfl (sw_true rfl rfl rfl (by decide +kernel)) (pi_list (pe_slice sl_list (pv 0) po_none (po_some pe_int))) (blkOk_by (own := [("_law_cell", 2)]) (N := nm_bag) (sc := defScope s_bag) (by decide +kernel)) (fun _ _ _ _ _ => pg_name (i := 2) sc_bag.nd rfl (Or.inl rfl)) (fun _ _ _ _ _ => pts_nil) (fun _ _ _ _ _ => (pe_ifExp (pt_cmpR op_ge (pv 2) pe_int (nomark _)) (pv 2) (pe_op op_sub pe_int (pv 2)))))
      (pss_one (ps_ret (pe_lst (pa_cons pe_int (pa_cons (pv 1) (pa_cons pe_int (pa_cons pe_int (pa_cons pe_int pa_nil))))))))), ?_⟩
    refine ⟨.ref a, rfl, 63, rfl, a, _, rfl, hS, fun p hp => ?_⟩
    obtain ⟨m, em⟩ := cut_some ns (some 63)
    rw [em]
    have hml : (ns.take m).length ≤ 63 := by rw [List.length_take]; omega
    generalize ns.take m = ms at hml
    refine ⟨p, rfl, ⟨_, SqL.of upd_same⟩, fun D hD => ?_⟩
    refine lc_list (xs := ms.map V.int) (fun i H' => Same (upd H p (.lst (ms.map V.int))) H' ∧ ∃ qs : List Int, qs.length = i ∧ H' D = some (.lst (qs.map V.int))) ⟨same_new hD, [], rfl, upd_same⟩ (fun i H2 _ hP => SqL.of (hP.1 _ _ upd_same)) (fun i x H2 hx hP => ?_) (fun H2 hP => ?_)
    · obtain ⟨sm, qs, eq, hq⟩ := hP
      have hi : i < ms.length := by
        have := (List.getElem?_eq_some_iff.mp hx).1
        rw [List.length_map] at this
        exact this
      have ex : x = .int ms[i] := by
        rw [List.getElem?_map, List.getElem?_eq_getElem hi] at hx
        exact (Option.some.inj hx).symm
      subst ex
      have small : (qs.map V.int).length < sizeLine := by rw [List.length_map]; exact small1000 (by omega)
      refine ⟨rfl, yesT ?_⟩
      refine ⟨_, rfl, _, _, rfl, rfl, _, rfl, ite2 (fun _ => ?_) (fun _ => ?_)⟩
      · exact ⟨_, rfl, _, hq, small, same_mut sm hD, qs ++ [ms[i]], by rw [List.length_append, eq]; rfl, by rw [upd_same, List.map_append]; rfl⟩
      · exact ⟨_, rfl, _, _, rfl, rfl, _, hq, small, same_mut sm hD, qs ++ [1 - ms[i]], by rw [List.length_append, eq]; rfl, by rw [upd_same, List.map_append]; rfl⟩
    · obtain ⟨sm, qs, eq, hq⟩ := hP
      refine ⟨_, rfl, by show 5 ≤ sizeLine; decide, fun b hb => ?_⟩
      refine k _ b (((same_new hp).trans sm).trans (same_new hb)) ⟨D, 0, 0, 0, 20261, qs, upd_same, at_old hq hb, by decide, by decide, by decide⟩
theorem ok_first (T : Txt K mg) : FnOk P w K mg base CX0 1 T.a_first T.d_first ["_law_one", "_law_other"] (sp_first K) := by
  refine T.F_first.ok sc_first (fun vs H Q E h => ?_) (fun cdv A outer s H vs Q E hr h => ?_)
  · obtain ⟨p, q, xs, ys, rfl, _⟩ := h
    rfl
  · obtain ⟨p, q, xs, ys, rfl, hp, hq, hx, hy, k⟩ := h
    refine ⟨_, (pss_cons (ps_for PassesOwn.never rfl (pi_range1 (by rfl) T.z_range (pa_cons (pe_callB (call_min2 rfl) (by rfl) T.z_min (by decide +kernel) (pa_cons (pe_callB call_len_seq (by rfl) T.z_len PySem.boot_len (pa_cons (pv 0) pa_nil)) (pa_cons (pe_callB call_len_seq (by rfl) T.z_len PySem.boot_len (pa_cons (pv 1) pa_nil)) pa_nil))) pa_nil)) (pg_name (i := 2) sc_first.nd rfl (Or.inl rfl))
        (pss_one (ps_if (pt_cmpR op_ne (pe_ix ix_tup (pv 0) (pv 2) (fun _ _ => rfl)) (pe_ix ix_tup (pv 1) (pv 2) (fun _ _ => rfl)) (nomark _))
          (pss_one (ps_ret (pv 2)))
          pss_nil)))
      (pss_one (ps_ret pe_non))), ?_⟩
    have e : (if ((ys.map V.int).length : Int) < ((xs.map V.int).length : Int) then ((ys.map V.int).length : Int) else ((xs.map V.int).length : Int)) = ((min xs.length ys.length : Nat) : Int) := by
      rw [List.length_map, List.length_map]
      by_cases c : (ys.length : Int) < xs.length
      · rw [if_pos c]; omega
      · rw [if_neg c]; omega
    refine ⟨_, rfl, p, _, rfl, .inr hp, _, rfl, q, _, rfl, .inr hq, _, _, rfl, ?_⟩
    rw [e]
    refine ⟨_, rfl, by omega, by omega, ?_⟩
    rw [Int.toNat_natCast]
    refine for_range (fun i σ H2 => H2 = H ∧ (∃ v, σ = [some (.ref p), some (.ref q), v]) ∧ ∀ j, j < i → xs[j]? = ys[j]?) ⟨rfl, ⟨_, rfl⟩, fun j l => absurd l (Nat.not_lt_zero _)⟩ (fun i σ H2 hi hP => ?_) (fun σ H2 hP => ?_)
    · obtain ⟨rfl, ⟨v, rfl⟩, hj⟩ := hP
      have h1 : i < xs.length := by omega
      have h2 : i < ys.length := by omega
      have g1 : (xs.map V.int)[i]? = some (.int xs[i]) := by rw [List.getElem?_map, List.getElem?_eq_getElem h1]; rfl
      have g2 : (ys.map V.int)[i]? = some (.int ys[i]) := by rw [List.getElem?_map, List.getElem?_eq_getElem h2]; rfl
      refine ⟨_, rfl, _, rfl, p, _, _, _, rfl, rfl, hp, at_of (by omega) g1, _, rfl, _, rfl, q, _, _, _, rfl, rfl, hq, at_of (by omega) g2, rfl, _, rfl, ?_⟩
      by_cases c : xs[i] = ys[i]
      · rw [c, decide_eq_true rfl]
        refine iteF ⟨rfl, ⟨_, rfl⟩, fun j l => ?_⟩
        by_cases z : j < i
        · exact hj j z
        · have ej : j = i := by omega
          subst ej
          rw [List.getElem?_eq_getElem h1, List.getElem?_eq_getElem h2, c]
      · rw [decide_eq_false (fun z => c (V.int.inj z))]
        refine iteT ⟨_, rfl, ?_⟩
        have ei : (0 : Int) + (i : Nat) = (i : Nat) := by omega
        rw [ei]
        exact k _ (.inr ⟨i, _, _, rfl, List.getElem?_eq_getElem h1, List.getElem?_eq_getElem h2, c, hj⟩)
    · obtain ⟨rfl, ⟨v, rfl⟩, hj⟩ := hP
      exact k _ (.inl ⟨rfl, hj⟩)
end
end K02
namespace K02
open PySem L2 Wm
section
variable {P : Program} {w : World} {K : PySem.W.Frag} {mg : Str → Option Value} {base : Heap}
theorem fmod_in {x l : Int} (h : 0 < l) : 0 ≤ x.fmod l ∧ x.fmod l < l := by
  rw [Int.fmod_eq_emod_of_nonneg x (Int.le_of_lt h)]
  exact ⟨Int.emod_nonneg x (by omega), Int.emod_lt_of_pos x h⟩
theorem ok_draw (T : Txt K mg) : FnOk P w K mg base CX0 1 T.a_draw T.d_draw ["_law_bag_here", "_law_limit"] (sp_draw K) := by
  refine T.F_draw.ok sc_draw (fun vs H Q E h => ?_) (fun cdv A outer s H vs Q E hr h => ?_)
  · obtain ⟨b, n, lim, rfl, _⟩ := h
    rfl
  · obtain ⟨b, n, lim, rfl, l0, l1, ⟨c, x, k, m, z, ns, hb, hc, k0, m0, mn⟩, hn, kk⟩ := h
    have hcb := bag_ne hb hc
    refine ⟨_, (C8.pss_cut (ps_if (PW.pt (pw_and (pt_cmpR op_lt (pe_ix ix_list (pv 0) pe_int (fun _ _ => rfl)) (pe_op op_pow pe_int pe_int) (nomark _)) (pw_and1 (pt_cmpR op_lt (pe_ix ix_list (pv 0) pe_int (fun _ _ => rfl)) (pe_callB call_len_seq (by rfl) T.z_len PySem.boot_len (pa_cons (pe_ix ix_list (pv 0) pe_int (fun _ _ => rfl)) pa_nil)) (nomark _)))))
        (pss_cons (ps_asg (pe_ix ix_list (pe_ix ix_list (pv 0) pe_int (fun _ _ => rfl)) (pe_ix ix_list (pv 0) pe_int (fun _ _ => rfl)) (fun _ _ => rfl)) (pg_sub (pv 0) pe_int set_list))
        (pss_one (ps_asg (pe_op op_add (pe_ix ix_list (pv 0) pe_int (fun _ _ => rfl)) pe_int) (pg_sub (pv 0) pe_int set_list))))
        pss_nil)
      (pss_cons (ps_if (pt_cmpR op_ge (pe_ix ix_list (pv 0) pe_int (fun _ _ => rfl)) (pe_op op_pow pe_int pe_int) (nomark _))
        (pss_cons (ps_set (i := 2) sc_draw.nd rfl (Or.inl rfl) (pe_op op_modN (pe_callTy call_int1 (by rfl) T.z_int (by decide +kernel) (pa_cons (pe_ix ix_list (pv 0) pe_int (fun _ _ => rfl)) pa_nil)) (pv 1)))
        (pss_cons (ps_asg (pe_op op_fdivN (pe_callTy call_int1 (by rfl) T.z_int (by decide +kernel) (pa_cons (pe_ix ix_list (pv 0) pe_int (fun _ _ => rfl)) pa_nil)) (pv 1)) (pg_sub (pv 0) pe_int set_list))
        (pss_one (ps_ret (pv 2)))))
        pss_nil)
      (pss_cons (ps_asg (pe_op op_add (pe_ix ix_list (pv 0) pe_int (fun _ _ => rfl)) pe_int) (pg_sub (pv 0) pe_int set_list))
      (pss_cons (ps_asg (pe_op op_modN (pe_callTy call_int1 (by rfl) T.z_int (by decide +kernel) (pa_cons (pe_op op_add (pe_op op_add (pe_op op_mul (pe_ix ix_list (pv 0) pe_int (fun _ _ => rfl)) pe_int) (pe_op op_mul (pe_op op_modN (pe_callTy call_int1 (by rfl) T.z_int (by decide +kernel) (pa_cons (pe_ix ix_list (pv 0) pe_int (fun _ _ => rfl)) pa_nil)) pe_int) pe_int)) (pe_op op_mul (pe_ix ix_list (pv 0) pe_int (fun _ _ => rfl)) pe_int)) pa_nil)) pe_int) (pg_sub (pv 0) pe_int set_list))
      (pss_one (ps_ret (pe_op op_modN (pe_op op_fdivN (pe_op op_modN (pe_callTy call_int1 (by rfl) T.z_int (by decide +kernel) (pa_cons (pe_op op_add (pe_op op_mul (pe_ix ix_list (pv 0) pe_int (fun _ _ => rfl)) pe_int) (pe_op op_mul (pe_ix ix_list (pv 0) pe_int (fun _ _ => rfl)) (pe_ix ix_list (pv 0) pe_int (fun _ _ => rfl)))) pa_nil)) pe_int) pe_int) (pv 1)))))))), ?_⟩
    refine ⟨fun σ H1 => ∃ x k : Int, σ = [some (.ref b), some (.int lim), none] ∧ 0 ≤ k ∧ But b H H1 ∧ H1 b = some (.lst [.int x, .ref c, .int k, .int m, .int z]), ?_, ?_⟩
    · refine ⟨_, rfl, b, _, 0, _, rfl, rfl, SqL.of hb, atI_nat (j := 0) rfl, _, _, rfl, rfl, ⟨by decide, by decide, by decide⟩, _, _, rfl, rfl, _, rfl, ite2 (fun h1 => ?_) (fun h1 => ?_)⟩
      · refine ⟨_, rfl, b, _, 2, _, rfl, rfl, SqL.of hb, atI_nat (j := 2) rfl, _, rfl, b, _, 1, _, rfl, rfl, SqL.of hb, atI_nat (j := 1) rfl, c, _, rfl, .inl (SqL.of hc), _, _, rfl, rfl, _, rfl, ite2 (fun h2 => ?_) (fun h2 => ?_)⟩
        · have h3 := of_decide_eq_true h2
          rw [List.length_map] at h3
          have h4 : k.toNat < ns.length := by omega
          have g : (ns.map V.int)[k.toNat]? = some (.int ns[k.toNat]) := by rw [List.getElem?_map, List.getElem?_eq_getElem h4]; rfl
          refine ⟨_, rfl, b, _, 1, _, rfl, rfl, SqL.of hb, atI_nat (j := 1) rfl, _, rfl, b, _, 2, _, rfl, rfl, SqL.of hb, atI_nat (j := 2) rfl, c, _, k, _, rfl, rfl, SqL.of hc, at_of (by omega) g, ?_⟩
          refine ⟨_, rfl, b, _, 0, 0, rfl, rfl, hb, rfl, ?_⟩
          refine ⟨_, rfl, b, _, 2, _, rfl, rfl, SqL.of upd_same, atI_nat (j := 2) rfl, _, _, rfl, rfl, ?_⟩
          refine ⟨_, rfl, b, _, 2, 2, rfl, rfl, upd_same, rfl, ?_⟩
          exact ⟨_, _, rfl, by omega, But.trans But.set But.set, upd_same⟩
        · exact ⟨x, k, rfl, k0, But.refl _ _, hb⟩
      · exact ⟨x, k, rfl, k0, But.refl _ _, hb⟩
    · rintro σ H1 ⟨x, k, rfl, k0, but, hb⟩
      have hc1 : H1 c = some (.lst (ns.map V.int)) := but _ _ hcb hc
      refine ⟨_, rfl, b, _, 0, _, rfl, rfl, SqL.of hb, atI_nat (j := 0) rfl, _, _, rfl, rfl, ⟨by decide, by decide, by decide⟩, _, _, rfl, rfl, _, rfl, ite2 (fun h1 => ?_) (fun h1 => ?_)⟩
      · refine ⟨_, rfl, b, _, 0, _, rfl, rfl, SqL.of hb, atI_nat (j := 0) rfl, .inl ⟨_, rfl, _, rfl, _, _, rfl, rfl, by omega, ?_⟩⟩
        refine ⟨_, rfl, b, _, 0, _, rfl, rfl, SqL.of hb, atI_nat (j := 0) rfl, .inl ⟨_, rfl, _, rfl, _, _, rfl, rfl, ⟨by omega, by omega⟩, ?_⟩⟩
        refine ⟨_, rfl, b, _, 0, 0, rfl, rfl, hb, rfl, ?_⟩
        refine ⟨_, rfl, kk _ _ (fmod_in l0).1 (fmod_in l0).2 ⟨c, _, k, m, z, ns, upd_same, ?_, k0, m0, by omega⟩ (but.trans But.set)⟩
        rw [upd_ne hcb]
        exact hc1
      · refine ⟨_, rfl, b, _, 3, _, rfl, rfl, SqL.of hb, atI_nat (j := 3) rfl, _, _, rfl, rfl, ?_⟩
        refine ⟨_, rfl, b, _, 3, 3, rfl, rfl, hb, rfl, ?_⟩
        -- the two reckonings
        refine ⟨_, rfl, b, _, 4, _, rfl, rfl, SqL.of upd_same, atI_nat (j := 4) rfl, _, _, rfl, rfl, .inr ⟨by decide, by decide⟩, ?_⟩
        refine ⟨_, rfl, b, _, 0, _, rfl, rfl, SqL.of upd_same, atI_nat (j := 0) rfl, .inl ⟨_, rfl, _, _, rfl, rfl, by omega, _, _, rfl, rfl, .inr ⟨by decide, by decide⟩, _, _, rfl, rfl, ?_⟩⟩
        refine ⟨_, rfl, b, _, 3, _, rfl, rfl, SqL.of upd_same, atI_nat (j := 3) rfl, _, _, rfl, rfl, .inr ⟨by decide, by decide⟩, _, _, rfl, rfl, .inl ⟨_, rfl, _, _, rfl, rfl, by omega, ?_⟩⟩
        refine ⟨_, rfl, b, _, 4, 4, rfl, rfl, upd_same, rfl, ?_⟩
        refine ⟨_, rfl, b, _, 4, _, rfl, rfl, SqL.of upd_same, atI_nat (j := 4) rfl, _, _, rfl, rfl, .inr ⟨by decide, by decide⟩, ?_⟩
        refine ⟨_, rfl, b, _, 3, _, rfl, rfl, SqL.of upd_same, atI_nat (j := 3) rfl, _, rfl, b, _, 3, _, rfl, rfl, SqL.of upd_same, atI_nat (j := 3) rfl, _, _, rfl, rfl, .inl ⟨by omega, by omega⟩, _, _, rfl, rfl, .inl ⟨_, rfl, _, _, rfl, rfl, by omega, _, _, rfl, rfl, ⟨by decide, by decide⟩, _, rfl, _, _, rfl, rfl, by omega, ?_⟩⟩
        refine kk _ _ (fmod_in l0).1 (fmod_in l0).2 ⟨c, x, k, m + 1, _, ns, upd_same, ?_, k0, by omega, by omega⟩ ((but.trans But.set).trans But.set)
        rw [upd_ne hcb, upd_ne hcb]
        exact hc1
end
end K02
namespace K02
open PySem L2 Wm
section
variable {P : Program} {w : World} {K : PySem.W.Frag} {mg : Str → Option Value} {base : Heap}
theorem dig_log {d : Nat} (h : 1 ≤ d ∧ d ≤ 9) : ((d : Int)).natAbs.log2 < 1920 := by
  rcases dig_cases h with e | e | e | e | e | e | e | e | e <;> subst e <;> decide +kernel
theorem top_at {way : Int} (h0 : 0 ≤ way) (h1 : way < 6) : ∃ top : Int, atI [V.int 3, V.int 3, V.int 3, V.int 3, V.int 9, V.int 9] way = some (.int top) ∧ 3 ≤ top ∧ top ≤ 9 := by
  have c : way = 0 ∨ way = 1 ∨ way = 2 ∨ way = 3 ∨ way = 4 ∨ way = 5 := by omega
  rcases c with e | e | e | e | e | e <;> subst e
  · exact ⟨3, rfl, by decide, by decide⟩
  · exact ⟨3, rfl, by decide, by decide⟩
  · exact ⟨3, rfl, by decide, by decide⟩
  · exact ⟨3, rfl, by decide, by decide⟩
  · exact ⟨9, rfl, by decide, by decide⟩
  · exact ⟨9, rfl, by decide, by decide⟩
theorem sum_snoc (ds : List Nat) (d : Nat) : (ds ++ [d]).sum = ds.sum + d := by
  rw [List.sum_append]
  simp
theorem len_snoc (ds : List Nat) (d : Nat) : (ds ++ [d]).length = ds.length + 1 := by simp
theorem dig_snoc {ds : List Nat} {d : Nat} (h : ∀ y ∈ ds, 1 ≤ y ∧ y ≤ 9) (g : 1 ≤ d ∧ d ≤ 9) : ∀ y ∈ ds ++ [d], 1 ≤ y ∧ y ≤ 9 := fun y m => by
  rcases List.mem_append.mp m with m | m
  · exact h y m
  · rw [List.mem_singleton.mp m]
    exact g
theorem ok_number (T : Txt K mg) : FnOk P w K mg base CX0 2 T.a_number T.d_number ["_law_bag_here"] (sp_number K) := by
  refine T.F_number.ok sc_number (fun vs H Q E h => ?_) (fun cdv A outer s H vs Q E hr h => ?_)
  · obtain ⟨b, n, rfl, _⟩ := h
    rfl
  · obtain ⟨b, n, rfl, hbag, hn, kk⟩ := h
    refine ⟨_, (pss_cons (ps_set (i := 1) sc_number.nd rfl (Or.inl rfl) (pe_op op_add pe_int (pe_call (ok_draw T) (hr.mono (by decide)) (by rfl) T.g_draw T.F_draw.kp T.b_draw .nil pass0 (pa_cons (pv 0) (pa_cons pe_int pa_nil)))))
      (pss_cons (ps_set (i := 2) sc_number.nd rfl (Or.inl rfl) (pe_call (ok_draw T) (hr.mono (by decide)) (by rfl) T.g_draw T.F_draw.kp T.b_draw .nil pass0 (pa_cons (pv 0) (pa_cons pe_int pa_nil))))
      (pss_cons (ps_set (i := 3) sc_number.nd rfl (Or.inl rfl) (pe_ix ix_list (pe_lst (pa_cons pe_int (pa_cons pe_int (pa_cons pe_int (pa_cons pe_int (pa_cons pe_int (pa_cons pe_int pa_nil))))))) (pv 2) (fun _ _ => rfl)))
      (pss_cons (ps_set (i := 4) sc_number.nd rfl (Or.inl rfl) pe_str)
      (pss_cons (ps_set (i := 5) sc_number.nd rfl (Or.inl rfl) pe_int)
      (pss_cons (ps_for PassesOwn.never rfl (pi_range1 (by rfl) T.z_range (pa_cons (pv 1) pa_nil)) (pg_name (i := 6) sc_number.nd rfl (Or.inl rfl))
        (pss_cons (ps_set (i := 7) sc_number.nd rfl (Or.inl rfl) (pe_op op_add pe_int (pe_call (ok_draw T) (hr.mono (by decide)) (by rfl) T.g_draw T.F_draw.kp T.b_draw .nil pass0 (pa_cons (pv 0) (pa_cons (pe_callB (call_min2 rfl) (by rfl) T.z_min (by decide +kernel) (pa_cons (pv 3) (pa_cons (pe_op op_sub (pv 5) (pe_op op_sub (pe_op op_sub (pv 1) pe_int) (pv 6))) pa_nil))) pa_nil)))))
        (C8.pss_cut (ps_if (PW.pt (pw_and (pt_cmpR op_eq (pv 2) pe_int (nomark _)) (pw_and1 (pt_cmpR op_eq (pv 6) (pe_op op_sub (pv 1) pe_int) (nomark _)))))
          (pss_one (ps_set (i := 7) sc_number.nd rfl (Or.inl rfl) (pe_callB (call_min2 rfl) (by rfl) T.z_min (by decide +kernel) (pa_cons pe_int (pa_cons (pv 5) pa_nil)))))
          pss_nil)
        (pss_cons (ps_set (i := 4) sc_number.nd rfl (Or.inl rfl) (pe_op op_add_str (pv 4) (pe_callTy call_str_int (by rfl) T.z_str (by decide +kernel) (pa_cons (pv 7) pa_nil))))
        (pss_one (ps_set (i := 5) sc_number.nd rfl (Or.inl rfl) (pe_op op_sub (pv 5) (pv 7))))))))
      (pss_one (ps_ret (pv 4))))))))), ?_⟩
    refine ⟨_, rfl, b, n, 4, rfl, by decide, by decide, hbag, by omega, fun H1 d1 g0 g1 bag1 but1 => ?_⟩
    refine ⟨_, _, rfl, rfl, ?_⟩
    refine ⟨_, rfl, b, n + 1, 6, rfl, by decide, by decide, bag1, by omega, fun H2 way w0 w1 bag2 but2 => ?_⟩
    obtain ⟨top, et, t3, t9⟩ := top_at w0 w1
    refine ⟨by show 6 ≤ sizeLine; decide, fun t ht => ?_⟩
    refine ⟨_, rfl, t, _, _, _, rfl, rfl, SqL.of upd_same, et, ?_⟩
    have bag3 := bag2.keep (same_new (o := .lst [V.int 3, V.int 3, V.int 3, V.int 3, V.int 9, V.int 9]) ht)
    have but3 : But b H (upd H2 t (.lst [V.int 3, V.int 3, V.int 3, V.int 3, V.int 9, V.int 9])) := (but1.trans but2).trans (But.of (same_new ht))
    obtain ⟨many, em⟩ : ∃ many : Nat, (1 : Int) + d1 = (many : Nat) := ⟨(1 + d1).toNat, by omega⟩
    try dsimp only
    rw [em]
    have m1 : 1 ≤ many := by omega
    have m4 : many ≤ 4 := by omega
    refine ⟨_, rfl, _, rfl, by omega, by omega, ?_⟩
    rw [Int.toNat_natCast]
    refine for_range (fun i σ H' => ∃ (ds : List Nat) (vk vd : Option V), σ = [some (.ref b), some (.int (many : Nat)), some (.int way), some (.int top), some (.str (numS ds)), some (.int (24 - (ds.sum : Nat))), vk, vd] ∧
      ds.length = i ∧ (∀ d ∈ ds, 1 ≤ d ∧ d ≤ 9) ∧ ds.sum + (many - i) ≤ 24 ∧ Bag H' b (n + 2 + i) ∧ But b H H')
      ⟨[], none, none, by rw [numS_nil]; rfl, rfl, fun _ m => absurd m (List.not_mem_nil), by show 0 + (many - 0) ≤ 24; omega, bag3, but3⟩ (fun i σ H' hi hP => ?_) (fun σ H' hP => ?_)
    · obtain ⟨ds, vk, vd, rfl, el, hd, hs, bag, but⟩ := hP
      have eL : ((24 : Int) - (ds.sum : Nat)) - ((many : Nat) - 1 - (0 + (i : Nat))) = ((24 - ds.sum - (many - 1 - i) : Nat) : Int) := by omega
      -- the digit's draw
      refine ⟨_, rfl, _, rfl, _, rfl, _, rfl, _, _, rfl, rfl, _, rfl, _, _, rfl, rfl, _, _, rfl, rfl, _, _, rfl, ?_⟩
      (try dsimp only; rw [eL])
      generalize hlim : (if ((24 - ds.sum - (many - 1 - i) : Nat) : Int) < top then ((24 - ds.sum - (many - 1 - i) : Nat) : Int) else top) = lim
      have lim1 : 1 ≤ lim ∧ lim ≤ 9 ∧ lim ≤ ((24 - ds.sum - (many - 1 - i) : Nat) : Int) := by
        rw [← hlim]
        split <;> omega
      refine ⟨b, n + 2 + i, lim, rfl, by omega, by omega, bag, by omega, fun H3 g q0 q1 bag4 but4 => ?_⟩
      refine ⟨_, _, rfl, rfl, ?_⟩
      refine ⟨fun σ H4 => ∃ d : Nat, σ = [some (.ref b), some (.int (many : Nat)), some (.int way), some (.int top), some (.str (numS ds)), some (.int (24 - (ds.sum : Nat))), some (.int (0 + (i : Nat))), some (.int (d : Nat))] ∧
        (1 ≤ d ∧ d ≤ 9) ∧ ds.sum + d + (many - 1 - i) ≤ 24 ∧ H4 = H3, ?_, ?_⟩
      · have mid : ∃ d : Nat, (1 : Int) + g = (d : Nat) ∧ (1 ≤ d ∧ d ≤ 9) ∧ ds.sum + d + (many - 1 - i) ≤ 24 := ⟨(1 + g).toNat, by omega, by omega, by omega⟩
        obtain ⟨d, ed, hd9, hsum⟩ := mid
        (try dsimp only; rw [ed])
        refine ⟨_, rfl, rfl, _, rfl, ite2 (fun c1 => ?_) (fun c1 => ?_)⟩
        · refine ⟨_, rfl, _, rfl, _, _, rfl, rfl, rfl, _, rfl, ite2 (fun c2 => ?_) (fun c2 => ?_)⟩
          · refine ⟨_, rfl, _, _, rfl, ?_⟩
            have e2 : (0 : Int) + (i : Nat) = (many : Nat) - 1 := V.int.inj (of_decide_eq_true c2)
            have q : ∃ e : Nat, (if ((24 : Int) - (ds.sum : Nat)) < 9 then ((24 : Int) - (ds.sum : Nat)) else 9) = (e : Nat) ∧ (1 ≤ e ∧ e ≤ 9) ∧ ds.sum + e + (many - 1 - i) ≤ 24 := by
              split
              · exact ⟨24 - ds.sum, by omega, by omega, by omega⟩
              · exact ⟨9, rfl, by omega, by omega⟩
            obtain ⟨e, ee, he9, hes⟩ := q
            (try dsimp only; rw [ee])
            exact ⟨e, rfl, he9, hes, rfl⟩
          · exact ⟨d, rfl, hd9, hsum, rfl⟩
        · exact ⟨d, rfl, hd9, hsum, rfl⟩
      · rintro σ H4 ⟨d, rfl, hd9, hsum, rfl⟩
        refine ⟨_, rfl, _, rfl, _, rfl, dig_log hd9, _, _, rfl, rfl, ?_, ?_⟩
        · rw [dig_str hd9, numS_len, numS_len]
          exact Nat.le_of_lt (small1000 (by show ds.length + 1 ≤ 1000; omega))
        rw [dig_str hd9, numS_app]
        refine ⟨_, rfl, _, rfl, _, _, rfl, rfl, ?_⟩
        have e3 : (24 : Int) - (ds.sum : Nat) - (d : Nat) = 24 - ((ds ++ [d]).sum : Nat) := by rw [sum_snoc]; omega
        (try dsimp only; rw [e3])
        exact ⟨ds ++ [d], _, _, rfl, by rw [len_snoc, el], dig_snoc hd hd9, by rw [sum_snoc]; omega, bag4, but.trans but4⟩
    · obtain ⟨ds, vk, vd, rfl, el, hd, hs, bag, but⟩ := hP
      refine ⟨_, rfl, kk _ ds ⟨by omega, by omega, hd, by omega⟩ (bag.mono (by omega)) but⟩
end
end K02
namespace K02
open PySem L2 Wm
section
variable {P : Program} {w : World} {K : PySem.W.Frag} {mg : Str → Option Value} {base : Heap}
theorem sum_drop (es : List Nat) : es.dropLast.length = es.length - 1 := by simp
theorem ok_kin (T : Txt K mg) : FnOk P w K mg base CX0 3 T.a_kin T.d_kin ["_law_bag_here", "_law_number_here"] (sp_kin K) := by
  refine T.F_kin.ok sc_kin (fun vs H Q E h => ?_) (fun cdv A outer s H vs Q E hr h => ?_)
  · obtain ⟨b, n, ds, rfl, _⟩ := h
    rfl
  · obtain ⟨b, n, ds, rfl, N, hbag, hn, kk⟩ := h
    have hlen := N.len
    have hz : (numS ds).length ≤ sizeLine := sz_num (by omega)
    refine ⟨_, (pss_cons (ps_set (i := 2) sc_kin.nd rfl (Or.inl rfl) (pe_slice sl_str (pv 1) po_none (po_some (pe_call (ok_draw T) (hr.mono (by decide)) (by rfl) T.g_draw T.F_draw.kp T.b_draw .nil pass0 (pa_cons (pv 0) (pa_cons (pe_op op_add (pe_callB call_len_str (by rfl) T.z_len PySem.boot_len (pa_cons (pv 1) pa_nil)) pe_int) pa_nil))))))
      (pss_cons (ps_set (i := 3) sc_kin.nd rfl (Or.inl rfl) (pe_op op_add_str (pv 2) (pe_call (ok_number T) (hr.mono (by decide)) (by rfl) T.g_number T.F_number.kp T.b_number .nil pass0 (pa_cons (pv 0) pa_nil))))
      (pss_cons (ps_set (i := 3) sc_kin.nd rfl (Or.inl rfl) (pe_slice sl_str (pv 3) po_none (po_some pe_int)))
      (pss_cons (ps_for PassesOwn.never rfl (pi_range1 (by rfl) T.z_range (pa_cons pe_int pa_nil)) (pg_name (i := 4) sc_kin.nd rfl (Or.inl rfl))
        (pss_one (ps_if (pt_cmpR op_gt (pe_call (ok_sum T) (hr.mono (by decide)) (by rfl) T.g_sum T.F_sum.kp T.b_sum .nil pass0 (pa_cons (pv 3) pa_nil)) pe_int (nomark _))
          (pss_one (ps_set (i := 3) sc_kin.nd rfl (Or.inl rfl) (pe_slice sl_str (pv 3) po_none (po_some (pe_un un_neg pe_int)))))
          pss_nil)))
      (pss_cons (ps_if (pt_cmpR op_eq (pv 3) pe_str (nomark _))
        (pss_one (ps_ret (pv 1)))
        pss_nil)
      (pss_one (ps_ret (pv 3)))))))), ?_⟩
    refine ⟨_, rfl, _, rfl, _, rfl, _, rfl, hz, _, _, rfl, rfl, b, n, _, rfl, by omega, by rw [numS_len]; omega, hbag, by omega, fun H1 d d0 d1 bag1 but1 => ?_⟩
    refine ⟨d, rfl, _, rfl, hz, ?_⟩
    obtain ⟨m, em⟩ : ∃ m : Nat, d = (m : Nat) := ⟨d.toNat, by omega⟩
    subst em
    (try dsimp only)
    rw [numS_take]
    refine ⟨_, rfl, _, rfl, b, n + 1, rfl, bag1, by omega, fun H2 fs NF bag2 but2 => ?_⟩
    have hf := NF.len
    have ht : (ds.take m).length ≤ 4 := by rw [List.length_take]; omega
    refine ⟨_, _, rfl, rfl, ?_, ?_⟩
    · rw [numS_len, numS_len]
      exact Nat.le_of_lt (small1000 (by omega))
    rw [numS_app]
    refine ⟨_, rfl, 4, rfl, _, rfl, sz_num (by rw [List.length_append]; omega), ?_⟩
    have e4 : cutS (numS (ds.take m ++ fs)) none (some 4) = numS ((ds.take m ++ fs).take 4) := numS_take _ 4
    rw [e4]
    have hd0 : ∀ y ∈ (ds.take m ++ fs).take 4, 1 ≤ y ∧ y ≤ 9 := fun y hy => by
      rcases List.mem_append.mp (List.mem_of_mem_take hy) with q | q
      · exact N.dig y (List.mem_of_mem_take q)
      · exact NF.dig y q
    have hl0 : ((ds.take m ++ fs).take 4).length ≤ 4 := by rw [List.length_take]; omega
    generalize (ds.take m ++ fs).take 4 = gs at hd0 hl0
    refine ⟨4, rfl, by decide, by decide, ?_⟩
    refine for_range (fun i σ H' => ∃ (es : List Nat) (vk : Option V), σ = [some (.ref b), some (.str (numS ds)), some (.str (numS (ds.take m))), some (.str (numS es)), vk] ∧
      (∀ y ∈ es, 1 ≤ y ∧ y ≤ 9) ∧ es.length ≤ 4 ∧ (es.sum ≤ 24 ∨ es.length + i ≤ 4) ∧ Bag H' b (n + 7) ∧ But b H H')
      ⟨gs, none, rfl, hd0, hl0, .inr (by omega), bag2, but1.trans but2⟩ (fun i σ H' hi hP => ?_) (fun σ H' hP => ?_)
    · obtain ⟨es, vk, rfl, hd, hl, hs, bag, but⟩ := hP
      refine ⟨_, rfl, es, hd, by omega, rfl, fun H3 s3 => ?_⟩
      refine ⟨_, _, rfl, rfl, _, rfl, ite2 (fun c => ?_) (fun c => ?_)⟩
      · have c1 := of_decide_eq_true c
        refine ⟨_, rfl, 1, rfl, _, rfl, _, rfl, sz_num (by omega), ?_⟩
        have e5 : cutS (numS es) none (some (-1)) = numS es.dropLast := numS_last es
        (try dsimp only)
        rw [e5]
        refine ⟨es.dropLast, _, rfl, fun y hy => hd y (List.dropLast_subset _ hy), by rw [sum_drop]; omega, ?_, bag.keep s3, but.trans (But.of s3)⟩
        rcases hs with hs | hs
        · exact absurd c1 (by omega)
        · right
          rw [sum_drop]
          have hpos : es.length ≠ 0 := fun z => by
            have ez : es = [] := List.length_eq_zero_iff.mp z
            subst ez
            exact absurd c1 (by decide)
          omega
      · have c1 : ¬ (24 : Int) < (es.sum : Nat) := fun z => c (decide_eq_true z)
        exact ⟨es, _, rfl, hd, hl, .inl (by omega), bag.keep s3, but.trans (But.of s3)⟩
    · obtain ⟨es, vk, rfl, hd, hl, hs, bag, but⟩ := hP
      refine ⟨_, rfl, rfl, _, rfl, ite2 (fun c => ?_) (fun c => ?_)⟩
      · exact ⟨_, rfl, kk _ ds N bag but⟩
      · have ne : es ≠ [] := fun z => by
          subst z
          exact c (decide_eq_true (by rw [numS_nil]))
        have hp : es.length ≠ 0 := fun z => ne (List.length_eq_zero_iff.mp z)
        refine ⟨_, rfl, kk _ es ⟨by omega, hl, hd, ?_⟩ bag but⟩
        rcases hs with hs | hs
        · exact hs
        · omega
end
end K02
namespace K02
open PySem L2 Wm
section
variable {P : Program} {w : World} {K : PySem.W.Frag} {mg : Str → Option Value} {base : Heap}
theorem walk_ez {a b : Addr} {xs ys : List V} {n : Nat} (hn : n = min xs.length ys.length) : Walk (Ez.Ite2 K a b) n (fun H => SqT K H a xs ∧ SqT K H b ys)
    (fun i H v H' => ∃ T U x y, v = .ref U ∧ H T = none ∧ upd H T (.tup [x, y]) U = none ∧ H' = upd (upd H T (.tup [x, y])) U (.tup [.int (i : Nat), .ref T]) ∧ xs[i]? = some x ∧ ys[i]? = some y) := by
  refine ⟨fun i H hi h => ?_, fun H h => ⟨xs, ys, h.1, h.2, by omega⟩, fun i H v H' hi h y => ?_⟩
  · exact ⟨xs, ys, xs[i], ys[i], h.1, h.2, List.getElem?_eq_getElem (by omega), List.getElem?_eq_getElem (by omega)⟩
  · obtain ⟨T, U, x, z, e1, e2, e3, e4, e5, e6⟩ := y
    exact ⟨T, U, x, z, e1, e2, e3, e4, e5 _ h.1, e6 _ h.2⟩
theorem row_le (ds : List Nat) (N : Num ds) : (rowL ds).length ≤ 100 := by
  have h := rowL_le ds fun d m => (N.dig d m).2
  have l := N.len
  omega
theorem mapV_at {xs : List Int} {i : Nat} {v : V} (h : (xs.map V.int)[i]? = some v) : ∃ x, xs[i]? = some x ∧ v = .int x := by
  rw [List.getElem?_map] at h
  cases e : xs[i]? with
  | none =>
    rw [e] at h
    cases h
  | some x =>
    rw [e] at h
    exact ⟨x, rfl, (Option.some.inj h).symm⟩
theorem no_prefix {ds es : List Nat} (N : Num ds) (M : Num es) (h : ∀ j, j < min (rowL ds).length (rowL es).length → (rowL ds)[j]? = (rowL es)[j]?) : ds = es := by
  rcases rows_part ds es (fun d m => (N.dig d m).1) (fun d m => (M.dig d m).1) with q | ⟨k, q, _⟩ | ⟨k, q, _⟩
  · exact q
  · exact absurd (by have e := h k (by have := q.lt1; have := q.lt2; omega); rw [q.one, q.two] at e; exact Option.some.inj e) q.ne
  · exact absurd (by have e := h k (by have := q.lt1; have := q.lt2; omega); rw [q.one, q.two] at e; exact Option.some.inj e) q.ne
theorem ok_first_difference (T : Txt K mg) : FnOk P w K mg base CX0 5 T.a_first_difference T.d_first_difference ["one", "other"] (sp_first_difference K) := by
  refine T.F_first_difference.ok sc_first_difference (fun vs H Q E h => ?_) (fun cdv A outer s H vs Q E hr h => ?_)
  · obtain ⟨ds, es, _, _, rfl, _⟩ := h
    rfl
  · obtain ⟨ds, es, N, M, rfl, k⟩ := h
    have hld := row_le ds N
    have hle := row_le es M
    refine ⟨_, (pss_cons (ps_set (i := 2) sc_first_difference.nd rfl (Or.inl rfl) (pe_call (ok_row_of T) (hr.mono (by decide)) (by rfl) T.g_row_of T.F_row_of.kp T.b_row_of .nil pass0 (pa_cons (pv 0) pa_nil)))
      (pss_cons (ps_for PassesOwn.never rfl (Ez.pi_enumzip (by rfl) T.z_enumerate (by rfl) T.z_zip (pa_cons (pv 2) (pa_cons (pe_call (ok_row_of T) (hr.mono (by decide)) (by rfl) T.g_row_of T.F_row_of.kp T.b_row_of .nil pass0 (pa_cons (pv 1) pa_nil)) pa_nil))) (pg_tup rfl (pgs_cons (pg_name (i := 3) sc_first_difference.nd rfl (Or.inl rfl)) (pgs_cons (pg_tup rfl (pgs_cons (pg_name (i := 4) sc_first_difference.nd rfl (Or.inl rfl)) (pgs_cons (pg_name (i := 5) sc_first_difference.nd rfl (Or.inl rfl)) pgs_nil))) pgs_nil)))
        (pss_one (ps_if (pt_cmpR op_ne (pv 4) (pv 5) (nomark _))
          (pss_one (ps_ret (pv 3)))
          pss_nil)))
      (pss_one (ps_ret (pe_callB call_len_seq (by rfl) T.z_len PySem.boot_len (pa_cons (pv 2) pa_nil)))))), ?_⟩
    refine ⟨_, rfl, ds, N, rfl, fun H1 p s1 p0 hp => ?_⟩
    refine ⟨_, rfl, _, rfl, es, M, rfl, fun H2 q s2 q0 hq => ?_⟩
    refine ⟨p, q, _, _, rfl, SqT.of (s2 _ _ hp), SqT.of hq, ?_⟩
    refine for_it (walk_ez (K := K) (xs := (rowL ds).map V.int) (ys := (rowL es).map V.int) rfl) (fun i σ H' => (∃ u v w, σ = [some (.str (numS ds)), some (.str (numS es)), some (.ref p), u, v, w]) ∧ Same H2 H' ∧ ∀ j, j < i → (rowL ds)[j]? = (rowL es)[j]?)
      ⟨⟨_, _, _, rfl⟩, Same.refl _, fun j l => absurd l (Nat.not_lt_zero _)⟩ (fun i σ H' _ hP => ⟨sameT hP.2.1 (SqT.of (s2 _ _ hp)), sameT hP.2.1 (SqT.of hq)⟩) (fun i v σ H3 H4 hi hP hY => ?_) (fun σ H3 hP => ?_)
    · obtain ⟨⟨u1, u2, u3, rfl⟩, sm, hj⟩ := hP
      obtain ⟨Ta, U, x, y, rfl, fT, fU, rfl, hx, hy⟩ := hY
      obtain ⟨x', hx', rfl⟩ := mapV_at hx
      obtain ⟨y', hy', rfl⟩ := mapV_at hy
      refine ⟨U, [.int (i : Nat), .ref Ta], rfl, SqT.of upd_same, rfl, _, _, rfl, _, _, rfl, Ta, [.int x', .int y'], rfl, SqT.of (at_old upd_same fU), rfl, _, _, rfl, _, _, rfl, rfl, rfl, ?_⟩
      refine ⟨_, rfl, _, rfl, rfl, _, rfl, ?_⟩
      have sm2 : Same H2 (upd (upd H3 Ta (.tup [.int x', .int y'])) U (.tup [.int (i : Nat), .ref Ta])) := (sm.trans (same_new fT)).trans (same_new fU)
      by_cases c : x' = y'
      · subst c
        rw [decide_eq_true rfl]
        refine iteF ⟨⟨_, _, _, rfl⟩, sm2, fun j l => ?_⟩
        by_cases z : j < i
        · exact hj j z
        · have ej : j = i := by omega
          rw [ej, hx', hy']
      · rw [decide_eq_false (fun z => c (V.int.inj z))]
        refine iteT ⟨_, rfl, ?_⟩
        exact k _ i ((s1.trans s2).trans sm2) (.inr ⟨x', y', hx', hy', c, hj⟩)
    · obtain ⟨⟨u1, u2, u3, rfl⟩, sm, hj⟩ := hP
      rw [List.length_map, List.length_map] at hj
      have e := no_prefix N M hj
      refine ⟨_, rfl, p, _, rfl, .inr (sameT sm (SqT.of (s2 _ _ hp))), ?_⟩
      (try dsimp only)
      rw [List.length_map]
      exact k _ _ ((s1.trans s2).trans sm) (.inl ⟨e, rfl⟩)
theorem parts_ahead {ds es : List Nat} {k : Nat} {a b : Int} (N : Num ds) (M : Num es) (d : Diff (rowL ds) (rowL es) k a b) : (a = 1 ∧ b = 0 ∧ es < ds) ∨ (a = 0 ∧ b = 1 ∧ ds < es) := by
  rcases rows_part ds es (fun d m => (N.dig d m).1) (fun d m => (M.dig d m).1) with q | ⟨l, q, z⟩ | ⟨l, q, z⟩
  · subst q
    exact absurd (Option.some.inj (d.one.symm.trans d.two)) d.ne
  · obtain ⟨_, e1, e2⟩ := d.uniq q
    exact .inl ⟨e1, e2, z⟩
  · obtain ⟨_, e1, e2⟩ := d.uniq q
    exact .inr ⟨e1, e2, z⟩
theorem ok_goes_ahead (T : Txt K mg) : FnOk P w K mg base CX0 6 T.a_goes_ahead T.d_goes_ahead ["one", "other"] (sp_goes_ahead K) := by
  refine T.F_goes_ahead.ok sc_goes_ahead (fun vs H Q E h => ?_) (fun cdv A outer s H vs Q E hr h => ?_)
  · obtain ⟨ds, es, _, _, rfl, _⟩ := h
    rfl
  · obtain ⟨ds, es, N, M, rfl, kk⟩ := h
    refine ⟨_, (pss_cons (ps_set (i := 2) sc_goes_ahead.nd rfl (Or.inl rfl) (pe_call (ok_first_difference T) (hr.mono (by decide)) (by rfl) T.g_first_difference T.F_first_difference.kp T.b_first_difference .nil pass0 (pa_cons (pv 0) (pa_cons (pv 1) pa_nil))))
      (pss_cons (ps_set (i := 3) sc_goes_ahead.nd rfl (Or.inl rfl) (pe_call (ok_row_of T) (hr.mono (by decide)) (by rfl) T.g_row_of T.F_row_of.kp T.b_row_of .nil pass0 (pa_cons (pv 0) pa_nil)))
      (pss_one (ps_ret (pe_and (pe_cmpR op_lt (pv 2) (pe_callB call_len_seq (by rfl) T.z_len PySem.boot_len (pa_cons (pv 3) pa_nil)) (nomark _)) (pe_one (pe_cmpR op_eq (pe_ix ix_tup (pv 3) (pv 2) (fun _ _ => rfl)) pe_int (nomark _)))))))), ?_⟩
    refine ⟨_, rfl, _, rfl, ds, es, N, M, rfl, fun H1 k s1 hk => ?_⟩
    refine ⟨_, rfl, ds, N, rfl, fun H2 p s2 p0 hp => ?_⟩
    refine ⟨_, rfl, _, rfl, p, _, rfl, .inr (SqT.of hp), _, _, rfl, rfl, _, rfl, ite2 (fun c => ?_) (fun c => ?_)⟩
    · have c1 := of_decide_eq_true c
      rw [List.length_map] at c1
      rcases hk with ⟨_, e⟩ | ⟨a, b, d⟩
      · omega
      · have g : ((rowL ds).map V.int)[k]? = some (.int a) := by rw [List.getElem?_map, d.one]; rfl
        refine ⟨_, rfl, _, rfl, p, _, _, _, rfl, rfl, SqT.of hp, atI_nat g, rfl, ?_⟩
        refine kk _ _ (s1.trans s2) ?_
        rcases parts_ahead N M d with ⟨rfl, _, z⟩ | ⟨rfl, _, z⟩
        · exact ⟨fun _ => z, fun _ => rfl⟩
        · exact ⟨fun q => absurd q (by decide), fun q => absurd q (lt_asymm' z)⟩
    · refine kk _ _ (s1.trans s2) ?_
      rcases hk with ⟨e, _⟩ | ⟨a, b, d⟩
      · subst e
        exact ⟨fun q => absurd q (by decide), fun q => absurd q (List.lt_irrefl _)⟩
      · exact absurd (decide_eq_true (by rw [List.length_map]; have := d.lt1; omega)) c
end
end K02
namespace K02
open PySem L2 Wm
section
variable {P : Program} {w : World} {K : PySem.W.Frag} {mg : Str → Option Value} {base : Heap}
theorem shaped_ints (ns : List Int) : SeqAt.shaped (.tuple (ns.map PyData.int)) = true := by
  have h := PySem.W.ke_shaped_ints ns
  simp only [SeqAt.shaped, PyData.canLay0, PyData.depth] at h ⊢
  exact h
theorem dp_ints {H : Hp} : ∀ ns : List Int, DpAll K H (ns.map V.int) (ns.map PyData.int)
  | [] => .nil
  | n :: ns => .cons (.int n) (dp_ints ns)
theorem eqv_ints : ∀ ns : List Int, PyData.eqvAll (ns.map PyData.int) (ns.map PyData.int) = true
  | [] => by simp [PyData.eqvAll]
  | n :: ns => by simp [PyData.eqvAll, PyData.eqv, eqv_ints ns]
theorem eqv_tup (ns : List Int) : PyData.eqv (.tuple (ns.map PyData.int)) (.tuple (ns.map PyData.int)) = true := by
  simp [PyData.eqv, eqv_ints ns]
theorem dp_two {H : Hp} {l : Addr} {a b : Int} (h : H l = some (.lst [.int a, .int b])) : Dp K H (.ref l) (.list [.int a, .int b]) := .lst (SqL.of h) (.cons (.int a) (.cons (.int b) .nil))
theorem shaped_two (a b : Int) : SeqAt.shaped (.list [.int a, .int b]) = true := PySem.W.ke_shaped_ints [a, b]
theorem ok_pair (T : Txt K mg) : FnOk P w K mg base CX0 7 T.a_pair T.d_pair ["_law_one", "_law_other"] (sp_pair K) := by
  refine T.F_pair.ok sc_pair (fun vs H Q E h => ?_) (fun cdv A outer s H vs Q E hr h => ?_)
  · obtain ⟨ds, es, _, _, rfl, _⟩ := h
    rfl
  · obtain ⟨ds, es, N, M, rfl, kk⟩ := h
    have hld := row_le ds N
    have hle := row_le es M
    refine ⟨_, (pss_cons (ps_set (i := 2) sc_pair.nd rfl (Or.inl rfl) (pe_call (ok_row_of T) (hr.mono (by decide)) (by rfl) T.g_row_of T.F_row_of.kp T.b_row_of .nil pass0 (pa_cons (pv 0) pa_nil)))
      (pss_cons (ps_set (i := 3) sc_pair.nd rfl (Or.inl rfl) (pe_call (ok_row_of T) (hr.mono (by decide)) (by rfl) T.g_row_of T.F_row_of.kp T.b_row_of .nil pass0 (pa_cons (pv 1) pa_nil)))
      (pss_cons (ps_set (i := 4) sc_pair.nd rfl (Or.inl rfl) (pe_call (ok_first T) (hr.mono (by decide)) (by rfl) T.g_first T.F_first.kp T.b_first .nil pass0 (pa_cons (pv 2) (pa_cons (pv 3) pa_nil))))
      (pss_cons (ps_set (i := 5) sc_pair.nd rfl (Or.inl rfl) (pe_call (ok_goes_ahead T) (hr.mono (by decide)) (by rfl) T.g_goes_ahead T.F_goes_ahead.kp T.b_goes_ahead .nil pass0 (pa_cons (pv 0) (pa_cons (pv 1) pa_nil))))
      (pss_cons (ps_set (i := 6) sc_pair.nd rfl (Or.inl rfl) (pe_call (ok_goes_ahead T) (hr.mono (by decide)) (by rfl) T.g_goes_ahead T.F_goes_ahead.kp T.b_goes_ahead .nil pass0 (pa_cons (pv 1) (pa_cons (pv 0) pa_nil))))
      (pss_cons (ps_if (pt_cmpR op_eq (pv 0) (pv 1) (nomark _))
        (pss_one (ps_ret (pe_and (pe_cmpR (op_eqD hr.units) (pv 2) (pv 3) (nomark _)) (pe_and (pe_cmpR op_isBl (pv 5) pe_bl (nomark _)) (pe_one (pe_cmpR op_isBl (pv 6) pe_bl (nomark _)))))))
        pss_nil)
      (pss_cons (ps_if (pt_cmpR op_isN (pv 4) pe_non (nomark _))
        (pss_one (ps_ret pe_bl))
        pss_nil)
      (pss_cons (ps_if (PW.pt (pw_or (pt_not (pt_val (pe_call (ok_says T) (hr.mono (by decide)) (by rfl) T.g_says T.F_says.kp T.b_says .nil pass0 (pa_cons (pv 5) (pa_cons (pe_cmpR op_eq (pe_ix ix_tup (pv 2) (pv 4) (fun _ _ => rfl)) pe_int (nomark _)) pa_nil))))) (pw_or1 (pt_not (pt_val (pe_call (ok_says T) (hr.mono (by decide)) (by rfl) T.g_says T.F_says.kp T.b_says .nil pass0 (pa_cons (pv 6) (pa_cons (pe_cmpR op_eq (pe_ix ix_tup (pv 3) (pv 4) (fun _ _ => rfl)) pe_int (nomark _)) pa_nil))))))))
        (pss_one (ps_ret pe_bl))
        pss_nil)
      (pss_cons (ps_if (PW.pt (pw_and (pt_cmpR (op_neD hr.units) (pe_lst (pa_cons (pe_ix ix_tup (pv 2) (pv 4) (fun _ _ => rfl)) (pa_cons (pe_ix ix_tup (pv 3) (pv 4) (fun _ _ => rfl)) pa_nil))) (pe_lst (pa_cons pe_int (pa_cons pe_int pa_nil))) (nomark _)) (pw_and1 (pt_cmpR (op_neD hr.units) (pe_lst (pa_cons (pe_ix ix_tup (pv 2) (pv 4) (fun _ _ => rfl)) (pa_cons (pe_ix ix_tup (pv 3) (pv 4) (fun _ _ => rfl)) pa_nil))) (pe_lst (pa_cons pe_int (pa_cons pe_int pa_nil))) (nomark _)))))
        (pss_one (ps_ret pe_bl))
        pss_nil)
      (pss_one (ps_ret (pe_cmpR op_eq (pv 5) (pe_cmpR op_gt_str (pv 0) (pv 1) (nomark _)) (nomark _))))))))))))), ?_⟩
    refine ⟨_, rfl, ds, N, rfl, fun H1 p s1 p0 hp => ?_⟩
    refine ⟨_, rfl, es, M, rfl, fun H2 q s2 q0 hq => ?_⟩
    have tp : SqT K H2 p ((rowL ds).map V.int) := SqT.of (s2 _ _ hp)
    refine ⟨_, rfl, _, rfl, p, q, _, _, rfl, tp, SqT.of hq, by omega, by omega, fun v hv => ?_⟩
    refine ⟨_, rfl, _, rfl, ds, es, N, M, rfl, fun H3 b1 s3 g1 => ?_⟩
    refine ⟨_, rfl, _, rfl, es, ds, M, N, rfl, fun H4 b2 s4 g2 => ?_⟩
    have sA : Same H H4 := ((s1.trans s2).trans s3).trans s4
    have tp4 : SqT K H4 p ((rowL ds).map V.int) := sameT (s3.trans s4) tp
    have tq4 : SqT K H4 q ((rowL es).map V.int) := sameT (s3.trans s4) (SqT.of hq)
    refine ⟨_, rfl, _, rfl, rfl, _, rfl, ite2 (fun c => ?_) (fun c => ?_)⟩
    · have e : ds = es := numS_inj (V.str.inj (of_decide_eq_true c))
      subst e
      have f1 : b1 = false := by cases b1 with | false => rfl | true => exact absurd (g1.mp rfl) (List.lt_irrefl _)
      have f2 : b2 = false := by cases b2 with | false => rfl | true => exact absurd (g2.mp rfl) (List.lt_irrefl _)
      subst f1 f2
      refine ⟨_, rfl, _, rfl, _, _, .tup tp4 (dp_ints _), .tup tq4 (dp_ints _), shaped_ints _, shaped_ints _, _, rfl, ?_⟩
      rw [eqv_tup]
      exact iteT ⟨_, rfl, _, _, rfl, rfl, _, rfl, iteT ⟨_, rfl, _, _, rfl, rfl, kk _ sA⟩⟩
    · have ne : ds ≠ es := fun z => c (decide_eq_true (by rw [z]))
      rcases hv with ⟨rfl, hj⟩ | ⟨k, a, b, rfl, d⟩
      · exact absurd (no_prefix N M hj) ne
      · refine ⟨_, rfl, rfl, _, rfl, iteF ?_⟩
        have ga : ((rowL ds).map V.int)[k]? = some (.int a) := by rw [List.getElem?_map, d.one]; rfl
        have gb : ((rowL es).map V.int)[k]? = some (.int b) := by rw [List.getElem?_map, d.two]; rfl
        -- what is told
        refine ⟨_, rfl, _, rfl, _, rfl, p, _, _, _, rfl, rfl, tp4, atI_nat ga, rfl, b1, _, rfl, _, rfl, ?_⟩
        have cases2 : (a = 1 ∧ b = 0 ∧ b1 = true ∧ b2 = false ∧ es < ds) ∨ (a = 0 ∧ b = 1 ∧ b1 = false ∧ b2 = true ∧ ds < es) := by
          rcases parts_ahead N M d with ⟨x, y, z⟩ | ⟨x, y, z⟩
          · refine .inl ⟨x, y, g1.mpr z, ?_, z⟩
            cases b2 with
            | false => rfl
            | true => exact absurd (g2.mp rfl) (lt_asymm' z)
          · refine .inr ⟨x, y, ?_, g2.mpr z, z⟩
            cases b1 with
            | false => rfl
            | true => exact absurd (g1.mp rfl) (lt_asymm' z)
        rcases cases2 with ⟨rfl, rfl, rfl, rfl, lt⟩ | ⟨rfl, rfl, rfl, rfl, lt⟩
        · refine iteF ⟨_, rfl, _, rfl, _, rfl, q, _, _, _, rfl, rfl, tq4, atI_nat gb, rfl, false, _, rfl, _, rfl, ?_⟩
          refine iteF ?_
          refine ⟨_, rfl, _, rfl, p, _, _, _, rfl, rfl, tp4, atI_nat ga, _, rfl, _, rfl, q, _, _, _, rfl, rfl, tq4, atI_nat gb, by show 2 ≤ sizeLine; decide, fun l hl => ?_⟩
          refine ⟨by show 2 ≤ sizeLine; decide, fun m hm => ?_⟩
          refine ⟨_, _, dp_two (at_old upd_same hm), dp_two upd_same, shaped_two _ _, shaped_two _ _, _, rfl, ?_⟩
          refine iteF ?_
          refine iteF ?_
          refine ⟨_, rfl, _, rfl, _, rfl, _, _, rfl, rfl, rfl, ?_⟩
          have e1 : decide ((numS es).cps.toList < (numS ds).cps.toList) = true := decide_eq_true (codes_lt _ _ lt)
          (try dsimp only)
          rw [e1]
          exact kk _ ((sA.trans (same_new hl)).trans (same_new hm))
        · refine iteF ⟨_, rfl, _, rfl, _, rfl, q, _, _, _, rfl, rfl, tq4, atI_nat gb, rfl, true, _, rfl, _, rfl, ?_⟩
          refine iteF ?_
          refine ⟨_, rfl, _, rfl, p, _, _, _, rfl, rfl, tp4, atI_nat ga, _, rfl, _, rfl, q, _, _, _, rfl, rfl, tq4, atI_nat gb, by show 2 ≤ sizeLine; decide, fun l hl => ?_⟩
          refine ⟨by show 2 ≤ sizeLine; decide, fun m hm => ?_⟩
          refine ⟨_, _, dp_two (at_old upd_same hm), dp_two upd_same, shaped_two _ _, shaped_two _ _, _, rfl, ?_⟩
          refine iteT ?_
          have sB := (sA.trans (same_new (o := .lst [V.int 0, V.int 1]) hl)).trans (same_new (o := .lst [V.int 1, V.int 0]) hm)
          refine ⟨_, rfl, _, rfl, p, _, _, _, rfl, rfl, sameT ((same_new hl).trans (same_new hm)) tp4, atI_nat ga, _, rfl, _, rfl, q, _, _, _, rfl, rfl, sameT ((same_new hl).trans (same_new hm)) tq4, atI_nat gb, by show 2 ≤ sizeLine; decide, fun l2 hl2 => ?_⟩
          refine ⟨by show 2 ≤ sizeLine; decide, fun m2 hm2 => ?_⟩
          refine ⟨_, _, dp_two (at_old upd_same hm2), dp_two upd_same, shaped_two _ _, shaped_two _ _, _, rfl, ?_⟩
          refine iteF ?_
          refine ⟨_, rfl, _, rfl, _, rfl, _, _, rfl, rfl, rfl, ?_⟩
          have e1 : decide ((numS es).cps.toList < (numS ds).cps.toList) = false := decide_eq_false (lt_asymm' (codes_lt _ _ lt))
          (try dsimp only)
          rw [e1]
          exact kk _ ((sB.trans (same_new hl2)).trans (same_new hm2))
end
end K02
namespace K02
open PySem L2 Wm
section
variable {P : Program} {w : World} {K : PySem.W.Frag} {mg : Str → Option Value} {base : Heap}
theorem ok_law (T : Txt K mg) : FnOk P w K mg base CX0 8 T.a_law T.d_law ["_law_script"] (sp_law K) := by
  refine T.F_law.ok sc_law (fun vs H Q E h => ?_) (fun cdv A outer s H vs Q E hr h => ?_)
  · obtain ⟨a, ns, rfl, _⟩ := h
    rfl
  · obtain ⟨a, ns, rfl, hS, hlen, kk⟩ := h
    refine ⟨_, (pss_cons (ps_set (i := 1) sc_law.nd rfl (Or.inl rfl) (pe_call (ok_bag T) (hr.mono (by decide)) (by rfl) T.g_bag T.F_bag.kp T.b_bag .nil pass0 (pa_cons (pv 0) pa_nil)))
      (pss_cons (ps_set (i := 2) sc_law.nd rfl (Or.inl rfl) (pe_call (ok_number T) (hr.mono (by decide)) (by rfl) T.g_number T.F_number.kp T.b_number .nil pass0 (pa_cons (pv 1) pa_nil)))
      (pss_cons (ps_set (i := 3) sc_law.nd rfl (Or.inl rfl) (pe_lst (pa_cons (pv 2) (pa_cons (pe_call (ok_kin T) (hr.mono (by decide)) (by rfl) T.g_kin T.F_kin.kp T.b_kin .nil pass0 (pa_cons (pv 1) (pa_cons (pv 2) pa_nil))) (pa_cons (pe_call (ok_kin T) (hr.mono (by decide)) (by rfl) T.g_kin T.F_kin.kp T.b_kin .nil pass0 (pa_cons (pv 1) (pa_cons (pv 2) pa_nil))) (pa_cons (pe_call (ok_number T) (hr.mono (by decide)) (by rfl) T.g_number T.F_number.kp T.b_number .nil pass0 (pa_cons (pv 1) pa_nil)) (pa_cons (pe_call (ok_number T) (hr.mono (by decide)) (by rfl) T.g_number T.F_number.kp T.b_number .nil pass0 (pa_cons (pv 1) pa_nil)) pa_nil)))))))
      (pss_cons (ps_for PassesOwn.never rfl (pi_list (pv 3)) (pg_name (i := 4) sc_law.nd rfl (Or.inl rfl))
        (pss_one (ps_for PassesOwn.never rfl (pi_list (pv 3)) (pg_name (i := 5) sc_law.nd rfl (Or.inl rfl))
          (pss_one (ps_if (pt_not (pt_val (pe_call (ok_pair T) (hr.mono (by decide)) (by rfl) T.g_pair T.F_pair.kp T.b_pair .nil pass0 (pa_cons (pv 4) (pa_cons (pv 5) pa_nil)))))
            (pss_one (ps_ret pe_bl))
            pss_nil)))))
      (pss_one (ps_ret pe_bl)))))), ?_⟩
    refine ⟨_, rfl, a, ns, rfl, hS, hlen, fun H1 b s1 bag1 => ?_⟩
    refine ⟨_, rfl, b, 0, rfl, bag1, by decide, fun H2 n1 N1 bag2 but2 => ?_⟩
    refine ⟨_, rfl, _, rfl, _, rfl, b, _, n1, rfl, N1, bag2, by omega, fun H3 n2 N2 bag3 but3 => ?_⟩
    refine ⟨_, rfl, _, rfl, b, _, n1, rfl, N1, bag3, by omega, fun H4 n3 N3 bag4 but4 => ?_⟩
    refine ⟨_, rfl, b, _, rfl, bag4, by omega, fun H5 n4 N4 bag5 but5 => ?_⟩
    refine ⟨_, rfl, b, _, rfl, bag5, by omega, fun H6 n5 N5 bag6 but6 => ?_⟩
    refine ⟨by show 5 ≤ sizeLine; decide, fun l hl => ?_⟩
    have all : ∀ (i : Nat) (x : V), [V.str (numS n1), V.str (numS n2), V.str (numS n3), V.str (numS n4), V.str (numS n5)][i]? = some x → ∃ ds, Num ds ∧ x = .str (numS ds) := fun i x hx => by
      have m := List.mem_of_getElem? hx
      simp only [List.mem_cons, List.not_mem_nil, or_false] at m
      rcases m with m | m | m | m | m <;> subst m
      · exact ⟨n1, N1, rfl⟩
      · exact ⟨n2, N2, rfl⟩
      · exact ⟨n3, N3, rfl⟩
      · exact ⟨n4, N4, rfl⟩
      · exact ⟨n5, N5, rfl⟩
    refine ⟨_, rfl, l, rfl, ⟨_, SqL.of upd_same⟩, ?_⟩
    refine for_list (xs := [V.str (numS n1), V.str (numS n2), V.str (numS n3), V.str (numS n4), V.str (numS n5)]) (fun i σ H' => H' l = some (.lst [V.str (numS n1), V.str (numS n2), V.str (numS n3), V.str (numS n4), V.str (numS n5)]) ∧ ∃ x y, σ = [some (.ref a), some (.ref b), some (.str (numS n1)), some (.ref l), x, y])
      ⟨upd_same, _, _, rfl⟩ (fun i σ H' _ hP => SqL.of hP.1) (fun i x σ H' hx hP => ?_) (fun σ H' hP => ?_)
    · obtain ⟨hL, x0, y0, rfl⟩ := hP
      obtain ⟨ds, N, rfl⟩ := all i x hx
      refine ⟨_, rfl, l, rfl, ⟨_, SqL.of hL⟩, ?_⟩
      refine for_list (xs := [V.str (numS n1), V.str (numS n2), V.str (numS n3), V.str (numS n4), V.str (numS n5)]) (fun i σ H' => H' l = some (.lst [V.str (numS n1), V.str (numS n2), V.str (numS n3), V.str (numS n4), V.str (numS n5)]) ∧ ∃ y, σ = [some (.ref a), some (.ref b), some (.str (numS n1)), some (.ref l), some (.str (numS ds)), y])
        ⟨hL, _, rfl⟩ (fun i σ H' _ hP => SqL.of hP.1) (fun j z σ H2 hz hP => ?_) (fun σ H2 hP => ?_)
      · obtain ⟨hL2, y1, rfl⟩ := hP
        obtain ⟨es, M, rfl⟩ := all j z hz
        refine ⟨_, rfl, _, rfl, ds, es, N, M, rfl, fun H3 s3 => ?_⟩
        exact ⟨_, rfl, iteF ⟨s3 _ _ hL2, _, rfl⟩⟩
      · obtain ⟨hL2, y1, rfl⟩ := hP
        exact ⟨hL2, _, _, rfl⟩
    · obtain ⟨hL, x0, y0, rfl⟩ := hP
      exact kk _
end
end K02
namespace K02
open PySem L2 Wm
theorem all_mk {l : PySem.W.OpenLaw} {w : World} {K : PySem.W.Frag} {h : Heap} {mg : Str → Option Value} {fa : Addr} (X : K.In h) (G : h.Ns mainGlobals mg) (hfa : mg "law" = some (.ref fa))
    {x_is_number : Addr} {od_is_number an_is_number : Option Addr} {sl_is_number : Array (Option Value)} {oc_is_number kV_is_number dc_is_number pm_is_number cd_is_number ct_is_number : Value}
    (a_is_number : PySem.W.nsIn K mainGlobals "is_number" = some (some (.ref x_is_number)))
    (l_is_number : K.lookup x_is_number = some ⟨oc_is_number, od_is_number, .func (PySem.W.fnOf "is_number" "is_number" (defArgs s_is_number) (defBody s_is_number) (defScope s_is_number) .none kV_is_number dc_is_number pm_is_number an_is_number cd_is_number ct_is_number), sl_is_number⟩)
    (c_is_number : PySem.W.codeIn K cd_is_number "is_number" = true) (k_is_number : PySem.W.keepIn K (.ref x_is_number) = true)
    {x_check_number : Addr} {od_check_number an_check_number : Option Addr} {sl_check_number : Array (Option Value)} {oc_check_number kV_check_number dc_check_number pm_check_number cd_check_number ct_check_number : Value}
    (a_check_number : PySem.W.nsIn K mainGlobals "check_number" = some (some (.ref x_check_number)))
    (l_check_number : K.lookup x_check_number = some ⟨oc_check_number, od_check_number, .func (PySem.W.fnOf "check_number" "check_number" (defArgs s_check_number) (defBody s_check_number) (defScope s_check_number) .none kV_check_number dc_check_number pm_check_number an_check_number cd_check_number ct_check_number), sl_check_number⟩)
    (c_check_number : PySem.W.codeIn K cd_check_number "check_number" = true) (k_check_number : PySem.W.keepIn K (.ref x_check_number) = true)
    {x_blocks : Addr} {od_blocks an_blocks : Option Addr} {sl_blocks : Array (Option Value)} {oc_blocks kV_blocks dc_blocks pm_blocks cd_blocks ct_blocks : Value}
    (a_blocks : PySem.W.nsIn K mainGlobals "blocks" = some (some (.ref x_blocks)))
    (l_blocks : K.lookup x_blocks = some ⟨oc_blocks, od_blocks, .func (PySem.W.fnOf "blocks" "blocks" (defArgs s_blocks) (defBody s_blocks) (defScope s_blocks) .none kV_blocks dc_blocks pm_blocks an_blocks cd_blocks ct_blocks), sl_blocks⟩)
    (c_blocks : PySem.W.codeIn K cd_blocks "blocks" = true) (k_blocks : PySem.W.keepIn K (.ref x_blocks) = true)
    {x_row_of : Addr} {od_row_of an_row_of : Option Addr} {sl_row_of : Array (Option Value)} {oc_row_of kV_row_of dc_row_of pm_row_of cd_row_of ct_row_of : Value}
    (a_row_of : PySem.W.nsIn K mainGlobals "row_of" = some (some (.ref x_row_of)))
    (l_row_of : K.lookup x_row_of = some ⟨oc_row_of, od_row_of, .func (PySem.W.fnOf "row_of" "row_of" (defArgs s_row_of) (defBody s_row_of) (defScope s_row_of) .none kV_row_of dc_row_of pm_row_of an_row_of cd_row_of ct_row_of), sl_row_of⟩)
    (c_row_of : PySem.W.codeIn K cd_row_of "row_of" = true) (k_row_of : PySem.W.keepIn K (.ref x_row_of) = true)
    {x_first_difference : Addr} {od_first_difference an_first_difference : Option Addr} {sl_first_difference : Array (Option Value)} {oc_first_difference kV_first_difference dc_first_difference pm_first_difference cd_first_difference ct_first_difference : Value}
    (a_first_difference : PySem.W.nsIn K mainGlobals "first_difference" = some (some (.ref x_first_difference)))
    (l_first_difference : K.lookup x_first_difference = some ⟨oc_first_difference, od_first_difference, .func (PySem.W.fnOf "first_difference" "first_difference" (defArgs s_first_difference) (defBody s_first_difference) (defScope s_first_difference) .none kV_first_difference dc_first_difference pm_first_difference an_first_difference cd_first_difference ct_first_difference), sl_first_difference⟩)
    (c_first_difference : PySem.W.codeIn K cd_first_difference "first_difference" = true) (k_first_difference : PySem.W.keepIn K (.ref x_first_difference) = true)
    {x_goes_ahead : Addr} {od_goes_ahead an_goes_ahead : Option Addr} {sl_goes_ahead : Array (Option Value)} {oc_goes_ahead kV_goes_ahead dc_goes_ahead pm_goes_ahead cd_goes_ahead ct_goes_ahead : Value}
    (a_goes_ahead : PySem.W.nsIn K mainGlobals "goes_ahead" = some (some (.ref x_goes_ahead)))
    (l_goes_ahead : K.lookup x_goes_ahead = some ⟨oc_goes_ahead, od_goes_ahead, .func (PySem.W.fnOf "goes_ahead" "goes_ahead" (defArgs s_goes_ahead) (defBody s_goes_ahead) (defScope s_goes_ahead) .none kV_goes_ahead dc_goes_ahead pm_goes_ahead an_goes_ahead cd_goes_ahead ct_goes_ahead), sl_goes_ahead⟩)
    (c_goes_ahead : PySem.W.codeIn K cd_goes_ahead "goes_ahead" = true) (k_goes_ahead : PySem.W.keepIn K (.ref x_goes_ahead) = true)
    {x_bag : Addr} {od_bag an_bag : Option Addr} {sl_bag : Array (Option Value)} {oc_bag kV_bag dc_bag pm_bag cd_bag ct_bag : Value}
    (a_bag : PySem.W.nsIn K mainGlobals "_law_bag" = some (some (.ref x_bag)))
    (l_bag : K.lookup x_bag = some ⟨oc_bag, od_bag, .func (PySem.W.fnOf "_law_bag" "_law_bag" (defArgs s_bag) (defBody s_bag) (defScope s_bag) .none kV_bag dc_bag pm_bag an_bag cd_bag ct_bag), sl_bag⟩)
    (c_bag : PySem.W.codeIn K cd_bag "_law_bag" = true) (k_bag : PySem.W.keepIn K (.ref x_bag) = true)
    {x_says : Addr} {od_says an_says : Option Addr} {sl_says : Array (Option Value)} {oc_says kV_says dc_says pm_says cd_says ct_says : Value}
    (a_says : PySem.W.nsIn K mainGlobals "_law_says" = some (some (.ref x_says)))
    (l_says : K.lookup x_says = some ⟨oc_says, od_says, .func (PySem.W.fnOf "_law_says" "_law_says" (defArgs s_says) (defBody s_says) (defScope s_says) .none kV_says dc_says pm_says an_says cd_says ct_says), sl_says⟩)
    (c_says : PySem.W.codeIn K cd_says "_law_says" = true) (k_says : PySem.W.keepIn K (.ref x_says) = true)
    {x_draw : Addr} {od_draw an_draw : Option Addr} {sl_draw : Array (Option Value)} {oc_draw kV_draw dc_draw pm_draw cd_draw ct_draw : Value}
    (a_draw : PySem.W.nsIn K mainGlobals "_law_draw" = some (some (.ref x_draw)))
    (l_draw : K.lookup x_draw = some ⟨oc_draw, od_draw, .func (PySem.W.fnOf "_law_draw" "_law_draw" (defArgs s_draw) (defBody s_draw) (defScope s_draw) .none kV_draw dc_draw pm_draw an_draw cd_draw ct_draw), sl_draw⟩)
    (c_draw : PySem.W.codeIn K cd_draw "_law_draw" = true) (k_draw : PySem.W.keepIn K (.ref x_draw) = true)
    {x_number : Addr} {od_number an_number : Option Addr} {sl_number : Array (Option Value)} {oc_number kV_number dc_number pm_number cd_number ct_number : Value}
    (a_number : PySem.W.nsIn K mainGlobals "_law_number" = some (some (.ref x_number)))
    (l_number : K.lookup x_number = some ⟨oc_number, od_number, .func (PySem.W.fnOf "_law_number" "_law_number" (defArgs s_number) (defBody s_number) (defScope s_number) .none kV_number dc_number pm_number an_number cd_number ct_number), sl_number⟩)
    (c_number : PySem.W.codeIn K cd_number "_law_number" = true) (k_number : PySem.W.keepIn K (.ref x_number) = true)
    {x_sum : Addr} {od_sum an_sum : Option Addr} {sl_sum : Array (Option Value)} {oc_sum kV_sum dc_sum pm_sum cd_sum ct_sum : Value}
    (a_sum : PySem.W.nsIn K mainGlobals "_law_sum" = some (some (.ref x_sum)))
    (l_sum : K.lookup x_sum = some ⟨oc_sum, od_sum, .func (PySem.W.fnOf "_law_sum" "_law_sum" (defArgs s_sum) (defBody s_sum) (defScope s_sum) .none kV_sum dc_sum pm_sum an_sum cd_sum ct_sum), sl_sum⟩)
    (c_sum : PySem.W.codeIn K cd_sum "_law_sum" = true) (k_sum : PySem.W.keepIn K (.ref x_sum) = true)
    {x_kin : Addr} {od_kin an_kin : Option Addr} {sl_kin : Array (Option Value)} {oc_kin kV_kin dc_kin pm_kin cd_kin ct_kin : Value}
    (a_kin : PySem.W.nsIn K mainGlobals "_law_kin" = some (some (.ref x_kin)))
    (l_kin : K.lookup x_kin = some ⟨oc_kin, od_kin, .func (PySem.W.fnOf "_law_kin" "_law_kin" (defArgs s_kin) (defBody s_kin) (defScope s_kin) .none kV_kin dc_kin pm_kin an_kin cd_kin ct_kin), sl_kin⟩)
    (c_kin : PySem.W.codeIn K cd_kin "_law_kin" = true) (k_kin : PySem.W.keepIn K (.ref x_kin) = true)
    {x_first : Addr} {od_first an_first : Option Addr} {sl_first : Array (Option Value)} {oc_first kV_first dc_first pm_first cd_first ct_first : Value}
    (a_first : PySem.W.nsIn K mainGlobals "_law_first" = some (some (.ref x_first)))
    (l_first : K.lookup x_first = some ⟨oc_first, od_first, .func (PySem.W.fnOf "_law_first" "_law_first" (defArgs s_first) (defBody s_first) (defScope s_first) .none kV_first dc_first pm_first an_first cd_first ct_first), sl_first⟩)
    (c_first : PySem.W.codeIn K cd_first "_law_first" = true) (k_first : PySem.W.keepIn K (.ref x_first) = true)
    {x_pair : Addr} {od_pair an_pair : Option Addr} {sl_pair : Array (Option Value)} {oc_pair kV_pair dc_pair pm_pair cd_pair ct_pair : Value}
    (a_pair : PySem.W.nsIn K mainGlobals "_law_pair" = some (some (.ref x_pair)))
    (l_pair : K.lookup x_pair = some ⟨oc_pair, od_pair, .func (PySem.W.fnOf "_law_pair" "_law_pair" (defArgs s_pair) (defBody s_pair) (defScope s_pair) .none kV_pair dc_pair pm_pair an_pair cd_pair ct_pair), sl_pair⟩)
    (c_pair : PySem.W.codeIn K cd_pair "_law_pair" = true) (k_pair : PySem.W.keepIn K (.ref x_pair) = true)
    {x_law : Addr} {od_law an_law : Option Addr} {sl_law : Array (Option Value)} {oc_law kV_law dc_law pm_law cd_law ct_law : Value}
    (a_law : PySem.W.nsIn K mainGlobals "law" = some (some (.ref x_law)))
    (l_law : K.lookup x_law = some ⟨oc_law, od_law, .func (PySem.W.fnOf "law" "law" (defArgs s_law) (defBody s_law) (defScope s_law) .none kV_law dc_law pm_law an_law cd_law ct_law), sl_law⟩)
    (c_law : PySem.W.codeIn K cd_law "law" = true) (k_law : PySem.W.keepIn K (.ref x_law) = true)
    {t_DIGITS : Tok} (n_DIGITS : PySem.W.nsIn K mainGlobals "DIGITS" = some (some (.str "123456789" t_DIGITS)))
    {t_MOST_DIGITS : Tok} (n_MOST_DIGITS : PySem.W.nsIn K mainGlobals "MOST_DIGITS" = some (some (.int 4 t_MOST_DIGITS)))
    {t_GREATEST_SUM : Tok} (n_GREATEST_SUM : PySem.W.nsIn K mainGlobals "GREATEST_SUM" = some (some (.int 24 t_GREATEST_SUM)))
    (z_all : PySem.W.nsIn K mainGlobals "all" = some none)
    (z_bool : PySem.W.nsIn K mainGlobals "bool" = some none)
    (z_enumerate : PySem.W.nsIn K mainGlobals "enumerate" = some none)
    (z_int : PySem.W.nsIn K mainGlobals "int" = some none)
    (z_isinstance : PySem.W.nsIn K mainGlobals "isinstance" = some none)
    (z_len : PySem.W.nsIn K mainGlobals "len" = some none)
    (z_min : PySem.W.nsIn K mainGlobals "min" = some none)
    (z_range : PySem.W.nsIn K mainGlobals "range" = some none)
    (z_str : PySem.W.nsIn K mainGlobals "str" = some none)
    (z_sum : PySem.W.nsIn K mainGlobals "sum" = some none)
    (z_tuple : PySem.W.nsIn K mainGlobals "tuple" = some none)
    (z_zip : PySem.W.nsIn K mainGlobals "zip" = some none)
    : ∃ fd : FuncData, (∀ (s : Shared) (v : Value), BindsTo s fd ⟨[v], []⟩ [("_law_script", v)]) ∧ ∀ base : Heap, K.In base → base.Ns mainGlobals mg → FnOk l.prog w K mg base CX0 8 fa fd ["_law_script"] (sp_law K) := by
  have e := hfa.symm.trans (PySem.W.mg_of X G a_law)
  cases e
  have F_is_number := fun_mk (st := s_is_number) l_is_number c_is_number k_is_number
  have b_is_number := F_is_number.binds (ps := ["thing"]) fun _ _ _ _ _ _ us hl => match us, hl with | [_], _ => rfl
  have F_check_number := fun_mk (st := s_check_number) l_check_number c_check_number k_check_number
  have b_check_number := F_check_number.binds (ps := ["thing"]) fun _ _ _ _ _ _ us hl => match us, hl with | [_], _ => rfl
  have F_blocks := fun_mk (st := s_blocks) l_blocks c_blocks k_blocks
  have b_blocks := F_blocks.binds (ps := ["number"]) fun _ _ _ _ _ _ us hl => match us, hl with | [_], _ => rfl
  have F_row_of := fun_mk (st := s_row_of) l_row_of c_row_of k_row_of
  have b_row_of := F_row_of.binds (ps := ["number"]) fun _ _ _ _ _ _ us hl => match us, hl with | [_], _ => rfl
  have F_first_difference := fun_mk (st := s_first_difference) l_first_difference c_first_difference k_first_difference
  have b_first_difference := F_first_difference.binds (ps := ["one", "other"]) fun _ _ _ _ _ _ us hl => match us, hl with | [_, _], _ => rfl
  have F_goes_ahead := fun_mk (st := s_goes_ahead) l_goes_ahead c_goes_ahead k_goes_ahead
  have b_goes_ahead := F_goes_ahead.binds (ps := ["one", "other"]) fun _ _ _ _ _ _ us hl => match us, hl with | [_, _], _ => rfl
  have F_bag := fun_mk (st := s_bag) l_bag c_bag k_bag
  have b_bag := F_bag.binds (ps := ["_law_script"]) fun _ _ _ _ _ _ us hl => match us, hl with | [_], _ => rfl
  have F_says := fun_mk (st := s_says) l_says c_says k_says
  have b_says := F_says.binds (ps := ["_law_told", "_law_due"]) fun _ _ _ _ _ _ us hl => match us, hl with | [_, _], _ => rfl
  have F_draw := fun_mk (st := s_draw) l_draw c_draw k_draw
  have b_draw := F_draw.binds (ps := ["_law_bag_here", "_law_limit"]) fun _ _ _ _ _ _ us hl => match us, hl with | [_, _], _ => rfl
  have F_number := fun_mk (st := s_number) l_number c_number k_number
  have b_number := F_number.binds (ps := ["_law_bag_here"]) fun _ _ _ _ _ _ us hl => match us, hl with | [_], _ => rfl
  have F_sum := fun_mk (st := s_sum) l_sum c_sum k_sum
  have b_sum := F_sum.binds (ps := ["_law_word"]) fun _ _ _ _ _ _ us hl => match us, hl with | [_], _ => rfl
  have F_kin := fun_mk (st := s_kin) l_kin c_kin k_kin
  have b_kin := F_kin.binds (ps := ["_law_bag_here", "_law_number_here"]) fun _ _ _ _ _ _ us hl => match us, hl with | [_, _], _ => rfl
  have F_first := fun_mk (st := s_first) l_first c_first k_first
  have b_first := F_first.binds (ps := ["_law_one", "_law_other"]) fun _ _ _ _ _ _ us hl => match us, hl with | [_, _], _ => rfl
  have F_pair := fun_mk (st := s_pair) l_pair c_pair k_pair
  have b_pair := F_pair.binds (ps := ["_law_one", "_law_other"]) fun _ _ _ _ _ _ us hl => match us, hl with | [_, _], _ => rfl
  have F_law := fun_mk (st := s_law) l_law c_law k_law
  have b_law := F_law.binds (ps := ["_law_script"]) fun _ _ _ _ _ _ us hl => match us, hl with | [_], _ => rfl
  have T : Σ' T : Txt K mg, T.a_law = fa ∧ T.d_law = PySem.W.fnOf "law" "law" (defArgs s_law) (defBody s_law) (defScope s_law) .none kV_law dc_law pm_law an_law cd_law ct_law :=
    ⟨{ a_is_number := _, d_is_number := _, F_is_number := F_is_number, b_is_number := b_is_number, g_is_number := PySem.W.mg_of X G a_is_number,
        a_check_number := _, d_check_number := _, F_check_number := F_check_number, b_check_number := b_check_number, g_check_number := PySem.W.mg_of X G a_check_number,
        a_blocks := _, d_blocks := _, F_blocks := F_blocks, b_blocks := b_blocks, g_blocks := PySem.W.mg_of X G a_blocks,
        a_row_of := _, d_row_of := _, F_row_of := F_row_of, b_row_of := b_row_of, g_row_of := PySem.W.mg_of X G a_row_of,
        a_first_difference := _, d_first_difference := _, F_first_difference := F_first_difference, b_first_difference := b_first_difference, g_first_difference := PySem.W.mg_of X G a_first_difference,
        a_goes_ahead := _, d_goes_ahead := _, F_goes_ahead := F_goes_ahead, b_goes_ahead := b_goes_ahead, g_goes_ahead := PySem.W.mg_of X G a_goes_ahead,
        a_bag := _, d_bag := _, F_bag := F_bag, b_bag := b_bag, g_bag := PySem.W.mg_of X G a_bag,
        a_says := _, d_says := _, F_says := F_says, b_says := b_says, g_says := PySem.W.mg_of X G a_says,
        a_draw := _, d_draw := _, F_draw := F_draw, b_draw := b_draw, g_draw := PySem.W.mg_of X G a_draw,
        a_number := _, d_number := _, F_number := F_number, b_number := b_number, g_number := PySem.W.mg_of X G a_number,
        a_sum := _, d_sum := _, F_sum := F_sum, b_sum := b_sum, g_sum := PySem.W.mg_of X G a_sum,
        a_kin := _, d_kin := _, F_kin := F_kin, b_kin := b_kin, g_kin := PySem.W.mg_of X G a_kin,
        a_first := _, d_first := _, F_first := F_first, b_first := b_first, g_first := PySem.W.mg_of X G a_first,
        a_pair := _, d_pair := _, F_pair := F_pair, b_pair := b_pair, g_pair := PySem.W.mg_of X G a_pair,
        a_law := _, d_law := _, F_law := F_law, b_law := b_law, g_law := PySem.W.mg_of X G a_law,
        t_DIGITS := _, c_DIGITS := PySem.W.mg_of X G n_DIGITS,
        t_MOST_DIGITS := _, c_MOST_DIGITS := PySem.W.mg_of X G n_MOST_DIGITS,
        t_GREATEST_SUM := _, c_GREATEST_SUM := PySem.W.mg_of X G n_GREATEST_SUM,
        z_all := PySem.W.mg_none_of X G z_all,
        z_bool := PySem.W.mg_none_of X G z_bool,
        z_enumerate := PySem.W.mg_none_of X G z_enumerate,
        z_int := PySem.W.mg_none_of X G z_int,
        z_isinstance := PySem.W.mg_none_of X G z_isinstance,
        z_len := PySem.W.mg_none_of X G z_len,
        z_min := PySem.W.mg_none_of X G z_min,
        z_range := PySem.W.mg_none_of X G z_range,
        z_str := PySem.W.mg_none_of X G z_str,
        z_sum := PySem.W.mg_none_of X G z_sum,
        z_tuple := PySem.W.mg_none_of X G z_tuple,
        z_zip := PySem.W.mg_none_of X G z_zip }, rfl, rfl⟩
  obtain ⟨T, e1, e2⟩ := T
  subst e1
  refine ⟨T.d_law, fun s v => by rw [e2]; exact .of_eq rfl, fun base _ _ => ok_law T⟩
theorem walk {l : PySem.W.OpenLaw} {q : Program} {loose : List Str} {XP : (Str → Option Value) → Heap → Prop} {YP : World → Heap → Prop} {d : DefRec} {K : Params → PySem.W.Frag} (hn : l.most = some 63) (hdf : d.params.defaults = [])
    (hY : ∀ (w : World) (h : Heap), YP w h → (K w.params).In h)
    (F : ∀ (w : World) (mg : Str → Option Value) (fa : Addr) (h : Heap), (K w.params).In h → h.Ns mainGlobals mg → mg d.name = some (.ref fa) →
      ∃ fd : FuncData, (∀ (s : Shared) (u : Value), BindsTo s fd ⟨[u], []⟩ [("_law_script", u)]) ∧ ∀ base : Heap, (K w.params).In base → base.Ns mainGlobals mg → FnOk l.prog w (K w.params) mg base CX0 8 fa fd ["_law_script"] (sp_law (K w.params))) :
    PySem.W.WalkO q loose XP YP l.row.toRowW d [] (fun f vs => PySem.call f vs) :=
  L2.walk_of (n := 63) (k := 8) (x := "_law_script") (CX := fun _ => CX0) (sp := fun w => sp_law (K w.params)) hn (by decide) hdf ⟨rfl, by decide, by decide⟩ hY F (fun _ _ a ns hl _ hS => ⟨a, ns, rfl, hS, hl, fun _ => rfl⟩) fun _ _ _ _ _ z => z
end K02

open PySem PySem.W PyProof.Rows in
set_option maxRecDepth 100000 in
set_option maxHeartbeats 0 in
theorem PySem.Challenge.cw_wheelchorus_k02_whole_who_goes_ahead_holds : PySem.Challenge.rw_wheelchorus_k02_whole_who_goes_ahead.Holds := by
  w_on; o_law; k_head; (case hw => w_witness2)
  k_fill
  refine K02.walk (l := PySem.Challenge.rw_wheelchorus_k02_whole_who_goes_ahead) rfl rfl (fun w h Y => PySem.W.kIn_of Y) ?F
  case F =>
    intro w mg fa h KX G hmg
    refine' K02.all_mk KX G hmg ?a_is_number ?l_is_number ?c_is_number ?k_is_number ?a_check_number ?l_check_number ?c_check_number ?k_check_number ?a_blocks ?l_blocks ?c_blocks ?k_blocks ?a_row_of ?l_row_of ?c_row_of ?k_row_of ?a_first_difference ?l_first_difference ?c_first_difference ?k_first_difference ?a_goes_ahead ?l_goes_ahead ?c_goes_ahead ?k_goes_ahead ?a_bag ?l_bag ?c_bag ?k_bag ?a_says ?l_says ?c_says ?k_says ?a_draw ?l_draw ?c_draw ?k_draw ?a_number ?l_number ?c_number ?k_number ?a_sum ?l_sum ?c_sum ?k_sum ?a_kin ?l_kin ?c_kin ?k_kin ?a_first ?l_first ?c_first ?k_first ?a_pair ?l_pair ?c_pair ?k_pair ?a_law ?l_law ?c_law ?k_law ?n_DIGITS ?n_MOST_DIGITS ?n_GREATEST_SUM ?z_all ?z_bool ?z_enumerate ?z_int ?z_isinstance ?z_len ?z_min ?z_range ?z_str ?z_sum ?z_tuple ?z_zip
    (case a_is_number => k_is)
    (case l_is_number => k_is)
    (case c_is_number => k_is)
    (case k_is_number => k_is)
    (case a_check_number => k_is)
    (case l_check_number => k_is)
    (case c_check_number => k_is)
    (case k_check_number => k_is)
    (case a_blocks => k_is)
    (case l_blocks => k_is)
    (case c_blocks => k_is)
    (case k_blocks => k_is)
    (case a_row_of => k_is)
    (case l_row_of => k_is)
    (case c_row_of => k_is)
    (case k_row_of => k_is)
    (case a_first_difference => k_is)
    (case l_first_difference => k_is)
    (case c_first_difference => k_is)
    (case k_first_difference => k_is)
    (case a_goes_ahead => k_is)
    (case l_goes_ahead => k_is)
    (case c_goes_ahead => k_is)
    (case k_goes_ahead => k_is)
    (case a_bag => k_is)
    (case l_bag => k_is)
    (case c_bag => k_is)
    (case k_bag => k_is)
    (case a_says => k_is)
    (case l_says => k_is)
    (case c_says => k_is)
    (case k_says => k_is)
    (case a_draw => k_is)
    (case l_draw => k_is)
    (case c_draw => k_is)
    (case k_draw => k_is)
    (case a_number => k_is)
    (case l_number => k_is)
    (case c_number => k_is)
    (case k_number => k_is)
    (case a_sum => k_is)
    (case l_sum => k_is)
    (case c_sum => k_is)
    (case k_sum => k_is)
    (case a_kin => k_is)
    (case l_kin => k_is)
    (case c_kin => k_is)
    (case k_kin => k_is)
    (case a_first => k_is)
    (case l_first => k_is)
    (case c_first => k_is)
    (case k_first => k_is)
    (case a_pair => k_is)
    (case l_pair => k_is)
    (case c_pair => k_is)
    (case k_pair => k_is)
    (case a_law => k_is)
    (case l_law => k_is)
    (case c_law => k_is)
    (case k_law => k_is)
    (case n_DIGITS => k_is)
    (case n_MOST_DIGITS => k_is)
    (case n_GREATEST_SUM => k_is)
    (case z_all => k_is)
    (case z_bool => k_is)
    (case z_enumerate => k_is)
    (case z_int => k_is)
    (case z_isinstance => k_is)
    (case z_len => k_is)
    (case z_min => k_is)
    (case z_range => k_is)
    (case z_str => k_is)
    (case z_sum => k_is)
    (case z_tuple => k_is)
    (case z_zip => k_is)
