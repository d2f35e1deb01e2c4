import PyProof.Rows.All
import Wide.All
import OpenK.AllK
import Wide.FinOn
import HandS.ForMost
import HandS.SlotsOwn
import HandS.Wide
import HandS.IsInst
import HandS.Style
import HandS.Zip
import HandS.Walk
import HandS.Exc
import HandS.TryOnly
import HandS.ExcOwn
import HandS.WordsExc
import HandS.ExcIs
import KE.OsGo
import HandS.Codes
import HandS.Text
import KE.IntTextLaws
import KE.KExcIs
import KE.DataEq
import KE.KTupSum
import HandS.Defaults
import HandS.MakeKw
import HandS.MakeKwOnly
import HandS.ClsMeth
import HandS.Strs
import KE.GoesMore
import HandS.TupAny
import HandS.TupMul
import HandS.TryMany
import HandS.ExcCtx
import HandS.Property
import HandS.Star
import KE.KSuper
import PySem.Challenge.RW_wheelchorus_k16_boxes_alone
set_option Elab.async false
set_option linter.all false
set_option maxRecDepth 100000
set_option maxHeartbeats 4000000
/-! Numbers as lists of digits, their rows, and where two rows part. -/
namespace Wm
open PySem L2
def codes (ds : List Nat) : List Nat := ds.map (· + 48)
def numS (ds : List Nat) : Str := ⟨(codes ds).toArray⟩
structure Dig (ds : List Nat) : Prop where
  dig : ∀ d ∈ ds, 1 ≤ d ∧ d ≤ 9
structure Num (ds : List Nat) : Prop where
  pos : 1 ≤ ds.length
  len : ds.length ≤ 4
  dig : ∀ d ∈ ds, 1 ≤ d ∧ d ≤ 9
  sum : ds.sum ≤ 24
def blk (d : Nat) : List Int := (List.replicate d [1, 0]).flatten
def rowL : List Nat → List Int
  | [] => [0, 0]
  | d :: ds => blk d ++ ([0, 0] ++ rowL ds)
structure Diff (xs ys : List Int) (k : Nat) (a b : Int) : Prop where
  one : xs[k]? = some a
  two : ys[k]? = some b
  ne : a ≠ b
  eq : ∀ j, j < k → xs[j]? = ys[j]?
theorem Diff.symm {xs ys : List Int} {k : Nat} {a b : Int} (h : Diff xs ys k a b) : Diff ys xs k b a :=
  ⟨h.two, h.one, h.ne.symm, fun j l => (h.eq j l).symm⟩
theorem Diff.cons {xs ys : List Int} {k : Nat} {a b : Int} (z : Int) (h : Diff xs ys k a b) : Diff (z :: xs) (z :: ys) (k + 1) a b := by
  refine ⟨by simpa using h.one, by simpa using h.two, h.ne, fun j l => ?_⟩
  cases j with
  | zero => rfl
  | succ j => simpa using h.eq j (by omega)
theorem Diff.app {xs ys : List Int} {k : Nat} {a b : Int} : ∀ (p : List Int), Diff xs ys k a b → Diff (p ++ xs) (p ++ ys) (p.length + k) a b
  | [], h => by simpa using h
  | z :: p, h => by
    have ih := (Diff.app p h).cons z
    have e : (z :: p).length + k = p.length + k + 1 := by simp only [List.length_cons]; omega
    rw [e]
    exact ih
theorem Diff.uniq {xs ys : List Int} {k l : Nat} {a b c d : Int} (h : Diff xs ys k a b) (g : Diff xs ys l c d) : k = l ∧ a = c ∧ b = d := by
  have e : k = l := by
    rcases Nat.lt_trichotomy k l with x | x | x
    · exact absurd (by have q := g.eq k x; rw [h.one, h.two] at q; exact Option.some.inj q) h.ne
    · exact x
    · exact absurd (by have q := h.eq l x; rw [g.one, g.two] at q; exact Option.some.inj q) g.ne
  subst e
  exact ⟨rfl, Option.some.inj (h.one.symm.trans g.one), Option.some.inj (h.two.symm.trans g.two)⟩
theorem Diff.lt1 {xs ys : List Int} {k : Nat} {a b : Int} (h : Diff xs ys k a b) : k < xs.length := (List.getElem?_eq_some_iff.mp h.one).1
theorem Diff.lt2 {xs ys : List Int} {k : Nat} {a b : Int} (h : Diff xs ys k a b) : k < ys.length := (List.getElem?_eq_some_iff.mp h.two).1
theorem blk_add (d e : Nat) : blk (d + e) = blk d ++ blk e := by
  unfold blk
  rw [← List.replicate_append_replicate, List.flatten_append]
theorem blk_succ (e : Nat) : blk (e + 1) = [1, 0] ++ blk e := by
  rw [Nat.add_comm, blk_add]
  rfl
theorem blk_len (d : Nat) : (blk d).length = 2 * d := by
  induction d with
  | zero => rfl
  | succ d ih => rw [blk_succ, List.length_append, ih]; simp only [List.length_cons, List.length_nil]; omega
theorem row_less (d e : Nat) (ds es : List Nat) (h : d < e) : Diff (rowL (d :: ds)) (rowL (e :: es)) (2 * d) 0 1 := by
  obtain ⟨f, rfl⟩ : ∃ f, e = d + (f + 1) := ⟨e - d - 1, by omega⟩
  have h0 : Diff ([0, 0] ++ rowL ds) ([1, 0] ++ (blk f ++ ([0, 0] ++ rowL es))) 0 0 1 := ⟨rfl, rfl, by decide, fun j l => absurd l (Nat.not_lt_zero _)⟩
  have h1 := h0.app (blk d)
  rw [blk_len, Nat.add_zero] at h1
  have e1 : rowL ((d + (f + 1)) :: es) = blk d ++ ([1, 0] ++ (blk f ++ ([0, 0] ++ rowL es))) := by
    show blk (d + (f + 1)) ++ _ = _
    rw [blk_add, blk_succ, List.append_assoc, List.append_assoc]
  rw [e1]
  exact h1
theorem rows_part : ∀ (ds es : List Nat), (∀ d ∈ ds, 1 ≤ d) → (∀ e ∈ es, 1 ≤ e) →
    ds = es ∨ (∃ k, Diff (rowL ds) (rowL es) k 1 0 ∧ es < ds) ∨ (∃ k, Diff (rowL ds) (rowL es) k 0 1 ∧ ds < es)
  | [], [], _, _ => .inl rfl
  | [], e :: es, _, h => by
    obtain ⟨f, rfl⟩ : ∃ f, e = f + 1 := ⟨e - 1, by have := h e (by simp); omega⟩
    refine .inr (.inr ⟨0, ⟨rfl, ?_, by decide, fun j l => absurd l (Nat.not_lt_zero _)⟩, List.nil_lt_cons _ _⟩)
    show (blk (f + 1) ++ _)[0]? = _
    rw [blk_succ]
    rfl
  | d :: ds, [], h, _ => by
    obtain ⟨f, rfl⟩ : ∃ f, d = f + 1 := ⟨d - 1, by have := h d (by simp); omega⟩
    refine .inr (.inl ⟨0, ⟨?_, rfl, by decide, fun j l => absurd l (Nat.not_lt_zero _)⟩, List.nil_lt_cons _ _⟩)
    show (blk (f + 1) ++ _)[0]? = _
    rw [blk_succ]
    rfl
  | d :: ds, e :: es, h, g => by
    rcases Nat.lt_trichotomy d e with x | x | x
    · exact .inr (.inr ⟨_, row_less d e ds es x, List.cons_lt_cons_iff.mpr (.inl x)⟩)
    · subst x
      rcases rows_part ds es (fun y m => h y (List.mem_cons_of_mem _ m)) (fun y m => g y (List.mem_cons_of_mem _ m)) with q | ⟨k, q, l⟩ | ⟨k, q, l⟩
      · exact .inl (by rw [q])
      · exact .inr (.inl ⟨_, (q.app [0, 0]).app (blk d), List.cons_lt_cons_iff.mpr (.inr ⟨rfl, l⟩)⟩)
      · exact .inr (.inr ⟨_, (q.app [0, 0]).app (blk d), List.cons_lt_cons_iff.mpr (.inr ⟨rfl, l⟩)⟩)
    · exact .inr (.inl ⟨_, (row_less e d es ds x).symm, List.cons_lt_cons_iff.mpr (.inl x)⟩)
theorem codes_lt : ∀ (ds es : List Nat), ds < es → codes ds < codes es
  | [], [], h => absurd h (List.lt_irrefl _)
  | [], _ :: _, _ => List.nil_lt_cons _ _
  | _ :: _, [], h => absurd h (List.not_lt_nil _)
  | d :: ds, e :: es, h => by
    rcases List.cons_lt_cons_iff.mp h with x | ⟨x, y⟩
    · exact List.cons_lt_cons_iff.mpr (.inl (Nat.add_lt_add_right x 48))
    · exact List.cons_lt_cons_iff.mpr (.inr ⟨by rw [x], codes_lt ds es y⟩)
theorem codes_inj : ∀ (ds es : List Nat), codes ds = codes es → ds = es
  | [], [], _ => rfl
  | [], _ :: _, h => by simp [codes] at h
  | _ :: _, [], h => by simp [codes] at h
  | d :: ds, e :: es, h => by
    have h1 : d + 48 = e + 48 := (List.cons.inj h).1
    have h2 : codes ds = codes es := (List.cons.inj h).2
    rw [codes_inj ds es h2, show d = e by omega]
theorem numS_cps (ds : List Nat) : (numS ds).cps.toList = codes ds := rfl
theorem numS_inj {ds es : List Nat} (h : numS ds = numS es) : ds = es := codes_inj _ _ (by rw [← numS_cps, h, numS_cps])
theorem numS_len (ds : List Nat) : (numS ds).length = ds.length := by
  show (codes ds).toArray.size = _
  simp [codes]
theorem lt_asymm' {a b : List Nat} (h : a < b) : ¬ b < a := fun g => List.lt_irrefl _ (List.lt_trans h g)
theorem rowL_le : ∀ ds : List Nat, (∀ d ∈ ds, d ≤ 9) → (rowL ds).length ≤ 20 * ds.length + 2
  | [], _ => by decide
  | d :: ds, h => by
    have ih := rowL_le ds fun y m => h y (List.mem_cons_of_mem _ m)
    have hd := h d (by simp)
    show (blk d ++ ([0, 0] ++ rowL ds)).length ≤ _
    rw [List.length_append, List.length_append, blk_len]
    simp only [List.length_cons, List.length_nil]
    omega
end Wm

/-! Digits as signs, texts of digits cut and joined; what a heap keeps. -/
namespace Wm
open PySem L2
theorem dig_cases {d : Nat} (h : 1 ≤ d ∧ d ≤ 9) : d = 1 ∨ d = 2 ∨ d = 3 ∨ d = 4 ∨ d = 5 ∨ d = 6 ∨ d = 7 ∨ d = 8 ∨ d = 9 := by omega
theorem dig_int {d : Nat} (h : 1 ≤ d ∧ d ≤ 9) : PySem.intText? ⟨#[d + 48]⟩ = some (d : Int) := by
  rcases dig_cases h with e | e | e | e | e | e | e | e | e <;> subst e <;> decide +kernel
theorem dig_in {d : Nat} (h : 1 ≤ d ∧ d ≤ 9) : (d + 48) ∈ ("123456789" : Str).cps.toList := by
  rcases dig_cases h with e | e | e | e | e | e | e | e | e <;> subst e <;> decide +kernel
theorem dig_str {d : Nat} (h : 1 ≤ d ∧ d ≤ 9) : ((toString (d : Int) : String) : Str) = numS [d] := by
  rcases dig_cases h with e | e | e | e | e | e | e | e | e <;> subst e <;> decide +kernel
theorem numS_app (ds es : List Nat) : numS ds ++ numS es = numS (ds ++ es) := by
  refine PyProof.Rows.ext_toList ?_
  show ((numS ds).cps ++ (numS es).cps).toList = _
  rw [Array.toList_append, numS_cps, numS_cps, numS_cps]
  simp [codes]
theorem numS_nil : numS [] = ("" : Str) := by decide +kernel
theorem numS_take (ds : List Nat) (k : Nat) : cutS (numS ds) none (some (k : Int)) = numS (ds.take k) := by
  refine PyProof.Rows.ext_toList ?_
  show ((codes ds).drop 0).take (HT.sIx (numS ds).length (numS ds).length (some (k : Int)) - 0) = codes (ds.take k)
  rw [numS_len, HT.sIx_nat, List.drop_zero, Nat.sub_zero]
  simp only [codes, ← List.map_take]
  congr 1
  rw [List.take_eq_take_iff]
  omega
theorem numS_last (ds : List Nat) : cutS (numS ds) none (some (-1)) = numS ds.dropLast := by
  refine PyProof.Rows.ext_toList ?_
  show ((codes ds).drop 0).take (HT.sIx (numS ds).length (numS ds).length (some (-1)) - 0) = codes ds.dropLast
  rw [numS_len, List.drop_zero, Nat.sub_zero, List.dropLast_eq_take]
  simp only [codes, ← List.map_take]
  have e : HT.sIx ds.length ds.length (some (-1)) = ds.length - 1 := by
    unfold HT.sIx
    simp only [show (-1 : Int) < 0 by decide, if_true]
    omega
  rw [e]
theorem numS_at (ds : List Nat) (i : Nat) (hi : i < ds.length) : (numS ds).cps[i]? = some (ds[i] + 48) := by
  show ((codes ds).toArray)[i]? = _
  simp [codes, hi]
theorem numS_size (ds : List Nat) : (numS ds).cps.size = ds.length := numS_len ds

/-! heaps -/
theorem same_new {H : Hp} {p : Addr} {o : HO} (n : H p = none) : Same H (upd H p o) := fun b u e => by
  rw [upd_ne (ne_of_none e n)]
  exact e
theorem at_old {H : Hp} {p q : Addr} {o u : HO} (h : H p = some o) (n : H q = none) : upd H q u p = some o := by
  rw [upd_ne (ne_of_none h n)]
  exact h
theorem sameT {K : PySem.W.Frag} {H H' : Hp} {a : Addr} {xs : List V} (e : Same H H') (h : SqT K H a xs) : SqT K H' a xs := by
  rcases h with (h | ⟨o, h⟩) | h
  · exact .inl (.inl (e _ _ h))
  · exact .inl (.inr ⟨o, e _ _ h⟩)
  · exact .inr h
/-- what stood stands, but for what H did not know and the object at p, which is new since -/
theorem same_mut {H H' : Hp} {p : Addr} {o : HO} (s : Same H H') (n : H p = none) : Same H (upd H' p o) := fun b u e => by
  rw [upd_ne (ne_of_none e n)]
  exact s b u e
/-- the bag's list at b, its cells at c -/
def Cel (H : Hp) (b c : Addr) : Prop := ∃ x k m z : Int, H b = some (.lst [.int x, .ref c, .int k, .int m, .int z])
structure But (b : Addr) (H H' : Hp) : Prop where
  keep : ∀ p o, p ≠ b → H p = some o → H' p = some o
  cel : ∀ c, Cel H b c → Cel H' b c
instance {b : Addr} {H H' : Hp} : CoeFun (But b H H') (fun _ => ∀ p o, p ≠ b → H p = some o → H' p = some o) := ⟨But.keep⟩
theorem But.refl (b : Addr) (H : Hp) : But b H H := ⟨fun _ _ _ h => h, fun _ h => h⟩
theorem But.trans {b : Addr} {H H1 H2 : Hp} (x : But b H H1) (y : But b H1 H2) : But b H H2 := ⟨fun p o n h => y.keep p o n (x.keep p o n h), fun c h => y.cel c (x.cel c h)⟩
theorem But.of {b : Addr} {H H' : Hp} (s : Same H H') : But b H H' := ⟨fun p o _ h => s p o h, fun _ ⟨x, k, m, z, h⟩ => ⟨x, k, m, z, s _ _ h⟩⟩
theorem But.set {b c : Addr} {H : Hp} {x k m z x' k' m' z' : Int} (hb : H b = some (.lst [.int x, .ref c, .int k, .int m, .int z])) : But b H (upd H b (.lst [.int x', .ref c, .int k', .int m', .int z'])) :=
  ⟨fun p u n h => by
    rw [upd_ne n]
    exact h, fun c2 ⟨a1, a2, a3, a4, h⟩ => by
    rw [hb] at h
    have h := Option.some.inj h
    injection h with h
    injection h with h1 h
    injection h with h2 h
    injection h2 with h2
    subst h2
    exact ⟨x', k', m', z', upd_same⟩⟩
/-- the bag of draws: its cells' list and its four numbers -/
def Bag (H : Hp) (b : Addr) (n : Nat) : Prop :=
  ∃ (c : Addr) (x k m z : Int) (ns : List Int), H b = some (.lst [.int x, .ref c, .int k, .int m, .int z]) ∧ H c = some (.lst (ns.map V.int)) ∧ 0 ≤ k ∧ 0 ≤ m ∧ m ≤ (n : Int)
theorem bag_ne {H : Hp} {b c : Addr} {x k m z : Int} {ns : List Int} (hb : H b = some (.lst [.int x, .ref c, .int k, .int m, .int z])) (hc : H c = some (.lst (ns.map V.int))) : c ≠ b := by
  intro e
  subst e
  rw [hb] at hc
  have q := Option.some.inj hc
  have q2 : ([.int x, .ref c, .int k, .int m, .int z] : List V) = ns.map V.int := by injection q
  cases ns with
  | nil => simp at q2
  | cons u r => cases r with
    | nil => simp at q2
    | cons v r => simp at q2
theorem Bag.mono {H : Hp} {b : Addr} {n m : Nat} (h : Bag H b n) (l : n ≤ m) : Bag H b m := by
  obtain ⟨c, x, k, q, z, ns, h1, h2, h3, h4, h5⟩ := h
  exact ⟨c, x, k, q, z, ns, h1, h2, h3, h4, by omega⟩
theorem Bag.keep {H H' : Hp} {b : Addr} {n : Nat} (h : Bag H b n) (s : Same H H') : Bag H' b n := by
  obtain ⟨c, x, k, q, z, ns, h1, h2, h3, h4, h5⟩ := h
  exact ⟨c, x, k, q, z, ns, s _ _ h1, s _ _ h2, h3, h4, h5⟩
theorem Cel.uniq {H : Hp} {b c d : Addr} (h : Cel H b c) (g : Cel H b d) : c = d := by
  obtain ⟨x, k, m, z, h⟩ := h
  obtain ⟨x', k', m', z', g⟩ := g
  rw [h] at g
  have g := Option.some.inj g
  injection g with g
  injection g with g1 g
  injection g with g2 g
  injection g2
theorem But.put {b D : Addr} {H H' : Hp} {o : HO} (e : But b H H') (n : H D = none) : But b H (upd H' D o) := by
  refine ⟨fun p u pb h => ?_, fun c h => ?_⟩
  · rw [upd_ne (ne_of_none h n)]
    exact e.keep p u pb h
  · have h0 := h
    obtain ⟨x, k, m, z, h⟩ := h
    obtain ⟨x', k', m', z', g⟩ := e.cel c h0
    exact ⟨x', k', m', z', by rw [upd_ne (ne_of_none h n)]; exact g⟩
theorem Bag.put {b D : Addr} {H H' : Hp} {o : HO} {n m : Nat} (bag : Bag H b n) (f : H D = none) (e : But b H H') (bag2 : Bag H' b m) : Bag (upd H' D o) b m := by
  obtain ⟨c, x, k, q, z, ns, h1, h2, h3, h4, h5⟩ := bag
  obtain ⟨c', x', k', q', z', ns', g1, g2, g3, g4, g5⟩ := bag2
  have ec : c = c' := Cel.uniq (e.cel c ⟨x, k, q, z, h1⟩) ⟨x', k', q', z', g1⟩
  subst ec
  exact ⟨c, x', k', q', z', ns', by rw [upd_ne (ne_of_none h1 f)]; exact g1, by rw [upd_ne (ne_of_none h2 f)]; exact g2, g3, g4, g5⟩
end Wm
namespace Wm
open PySem L2
theorem yesT {σ : L2.St} {H : Hp} {A B : Hp → Prop} (h : A H) : tYes σ H (fun b H3 => if b = true then A H3 else B H3) := by
  show (if true = true then A H else B H)
  rw [if_pos rfl]
  exact h
end Wm

/-! row[::2] of a list or a tuple; a loop over a list or a tuple. -/
namespace Hf
open PySem PySem.Spec PyProof.Rows L2
def ev2 {α : Type} : List α → List α
  | [] => []
  | [x] => [x]
  | x :: _ :: r => x :: ev2 r
theorem ev2_le {α : Type} : ∀ xs : List α, (ev2 xs).length ≤ xs.length
  | [] => Nat.le_refl _
  | [_] => Nat.le_refl _
  | x :: y :: r => by
    have ih := ev2_le r
    show (ev2 r).length + 1 ≤ r.length + 2
    omega
theorem ev2_mem {α : Type} {z : α} : ∀ {xs : List α}, z ∈ ev2 xs → z ∈ xs
  | [], h => h
  | [_], h => h
  | x :: y :: r, h => by
    rcases List.mem_cons.mp h with e | e
    · rw [e]; simp
    · exact List.mem_cons_of_mem _ (List.mem_cons_of_mem _ (ev2_mem e))
theorem ev2_map {α β : Type} (f : α → β) : ∀ xs : List α, ev2 (xs.map f) = (ev2 xs).map f
  | [] => rfl
  | [_] => rfl
  | x :: y :: r => by
    show f x :: ev2 (r.map f) = f x :: (ev2 r).map f
    rw [ev2_map f r]
theorem ev2_pick {α : Type} : ∀ xs : List α, (List.range ((xs.length + 1) / 2)).filterMap (fun k => xs[2 * k]?) = ev2 xs
  | [] => by simp [ev2]
  | [x] => by
    rw [show ([x].length + 1) / 2 = 1 by simp, show List.range 1 = [0] by decide]
    simp [ev2]
  | x :: y :: r => by
    have ih := ev2_pick r
    have e : ((x :: y :: r).length + 1) / 2 = (r.length + 1) / 2 + 1 := by
      show (r.length + 1 + 1 + 1) / 2 = _
      omega
    rw [e, List.range_succ_eq_map, List.filterMap_cons]
    show x :: _ = x :: ev2 r
    rw [List.filterMap_map, ← ih]
    rfl
theorem ev2_vals : ∀ {xs : List V} {us : List Value}, Vals xs us → Vals (ev2 xs) (ev2 us)
  | [], _, h => by cases h; exact .nil
  | [x], _, h => by
    cases h with
    | cons a b =>
      cases b
      exact .cons a .nil
  | x :: y :: r, _, h => by
    cases h with
    | cons a b =>
      cases b with
      | cons c d => exact .cons a (ev2_vals d)
theorem pick2 (items : Array Value) : slicePick items none none (some 2) = (ev2 items.toList).toArray := by
  have e := ev2_pick items.toList
  unfold slicePick
  have b : sliceBounds none none (some 2) items.size = (0, (items.size : Int), 2) := by
    first
    | rfl
    | simp [sliceBounds]
  rw [b]
  show ((sliceRange 0 (items.size : Int) 2).filterMap (items[·]?)).toArray = _
  have r : sliceRange 0 (items.size : Int) 2 = (List.range ((items.size + 1) / 2)).map fun k => 2 * k := by
    unfold sliceRange
    have h1 : (2 : Int) > 0 := by decide
    by_cases h : (0 : Int) < (items.size : Int)
    · have e : ((items.size : Int) - 0 + 2 - 1) / 2 = (((items.size + 1) / 2 : Nat) : Int) := by omega
      simp only [h1, if_true, h, e, Int.toNat_natCast]
      apply List.map_congr_left
      intro k _
      omega
    · have e : items.size = 0 := by omega
      simp [e]
  rw [r, List.filterMap_map]
  rw [Array.length_toList] at e
  rw [← e]
  refine congrArg List.toArray (congrArg (fun f => List.filterMap f _) (funext fun k => ?_))
  show items[2 * k]? = _
  rw [Array.getElem?_toList]
section
variable {prog : Program} {w : World} {A : Around} {E : Value → Shared → Prop} {s : Shared}
theorem places2 (n : Nat) : Builtin.Slice.slicePlaces 0 (n : Int) 2 = (n + 1) / 2 := by
  unfold Builtin.Slice.slicePlaces
  have h1 : (2 : Int) > 0 := by omega
  simp only [h1, if_true]
  split <;> omega
theorem adjust2 (n : Nat) : Builtin.Slice.sliceAdjust none none 2 (n : Int) = (0, (n : Int)) := by
  have h1 : ¬ ((2 : Int) < 0) := by omega
  unfold Builtin.Slice.sliceAdjust
  simp only [h1, if_false]
theorem sliceApplied2 {sl : Addr} {t : Tok} {n : Nat} {Q : Int × Int × Nat → Shared → Prop} (hs : s.heap.IsSliceOf sl .none .none (.int 2 t))
    (h : Q (0, 2, (n + 1) / 2) s) : wpAny (model prog w) A (Builtin.Slice.sliceApplied (.ref sl) (pure (n : Int))) Q E s := by
  obtain ⟨os, hos, hcs, hds⟩ := id hs
  unfold Builtin.Slice.sliceApplied Builtin.Slice.sliceFields
  refine wpAny_bind (wpAny_bind (wpAny_field hos hds (x := .none) rfl (wpAny_bind (wpAny_field hos hds (x := .none) rfl (wpAny_bind (wpAny_field hos hds (x := .int 2 t) rfl (wpAny_pure ?_)))))))
  refine wpAny_bind (slicePart_int ?_)
  show wpAny _ _ (if ((2 : Int) == 0) = true then _ else _) _ _ s
  rw [if_neg (by decide)]
  refine wpAny_bind (HT.slicePart_ .none (wpAny_bind (HT.slicePart_ .none (wpAny_bind (wpAny_pure ?_)))))
  show wpAny _ _ (match Builtin.Slice.sliceAdjust none none 2 (n : Int) with | (lo, hi) => pure (lo, (2 : Int), Builtin.Slice.slicePlaces lo hi 2)) _ _ s
  rw [adjust2 n]
  show wpAny _ _ (pure ((0 : Int), (2 : Int), Builtin.Slice.slicePlaces (0 : Int) (n : Int) 2)) _ _ s
  rw [places2]
  exact wpAny_pure h
theorem pick2t (xs : Array Value) : ((List.range ((xs.size + 1) / 2)).filterMap fun (m : Nat) => xs[((0 : Int) + (m : Int) * 2).toNat]?).toArray = (ev2 xs.toList).toArray := by
  have e : (fun (m : Nat) => xs[((0 : Int) + (m : Int) * 2).toNat]?) = fun m => xs.toList[2 * m]? := by
    funext m
    have : ((0 : Int) + (m : Int) * 2).toNat = 2 * m := by omega
    rw [this, Array.getElem?_toList]
  rw [e, ← ev2_pick xs.toList, Array.length_toList]
theorem getItem_tuple_2 {t sl : Addr} {tk : Tok} {items : Array Value} {Q : Value → Shared → Prop} (ht : IsTup s.heap t items) (hs : s.heap.IsSliceOf sl .none .none (.int 2 tk))
    (h : Q (.ref s.heap.objs.size) { s with heap := s.heap.push { cls := .type "tuple", data := .seq (ev2 items.toList).toArray } })
    (hsz : items.size ≤ sizeLine) : wpAny (model prog w) A (getItem (.ref t) (.ref sl)) Q E s := by
  have htake : sizeOk (.seq (ev2 items.toList).toArray) := by
    show (ev2 items.toList).toArray.size ≤ sizeLine
    rw [List.size_toArray]
    exact Nat.le_trans (ev2_le items.toList) (by rw [Array.length_toList]; exact hsz)
  obtain ⟨os, hos, hcs, hds⟩ := id hs
  have hTs : s.TypeIs (.ref sl) "slice" := ⟨os, hos, hcs⟩
  unfold getItem
  try with_reducible refine wpAny_holding ?_
  first | refine wpAny_bind (wpAny_pure ?_) | skip
  refine wpAny_bind (wpAny_sequenceKey ht.typeIs (by decide) ?_)
  refine wpAny_bind (wpAny_callSpecial?_slot (name := Str.ofString "__getitem__") ht.typeIs PyProof.Rows.slot_tuple_getitem
    (wpAny_call_entry PyProof.Rows.slot_tuple_getitem ht.typeIs entry_tuple_getitem ?_ (args_tuple_getitem _ _)))
  show wpAny _ _ (Builtin.Tuple.tupleItemsOf (.ref t) >>= _) _ _ s
  refine wpAny_bind (tupleItemsOf_ ht ?_)
  refine wpAny_bind (wpAny_typeOf hTs ?_)
  rw [if_pos (by decide)]
  refine wpAny_bind (sliceApplied2 hs ?_)
  have hno : ¬ (((0 : Int) == 0 && (2 : Int) == 1 && ((items.size + 1) / 2) == items.size) = true) := by
    intro q
    rw [Bool.and_eq_true, Bool.and_eq_true] at q
    exact absurd q.1.2 (by decide)
  show wpAny _ _ (if ((0 : Int) == 0 && (2 : Int) == 1 && ((items.size + 1) / 2) == items.size) = true then _ else _) _ _ s
  rw [if_neg hno, pick2t]
  first
    | exact wpAny_bind (m := Builtin.Tuple.tupleExact _) (wpAny_newObj_type (wpAny_pure ⟨_, rfl, wpAny_pure h⟩) htake)
    | exact wpAny_bind (m := Builtin.Tuple.tupleExact _) (wpAny_newObj_type (wpAny_bind (wpAny_pure (wpAny_pure ⟨_, rfl, wpAny_pure h⟩))) htake)
    | exact wpAny_bind (wpAny_bind (m := Builtin.Tuple.tupleExact _) (wpAny_newObj_type (wpAny_pure (wpAny_pure ⟨_, rfl, wpAny_pure h⟩)) htake))
    | exact wpAny_bind (wpAny_bind (m := Builtin.Tuple.tupleExact _) (wpAny_newObj_type (wpAny_pure ⟨_, rfl, wpAny_pure h⟩) htake))
end
section
variable {X : Cx}
def tHalf (K : PySem.W.Frag) (te : TE) : TE := fun σ H Q => te σ H fun x H1 => ∃ a xs, x = .ref a ∧ (SqL K H1 a xs ∨ SqT K H1 a xs) ∧
  ∀ p H2, (∀ b o, H1 b = some o → H2 b = some o) → H1 p = none → (SqL K H2 p (ev2 xs) ∨ SqT K H2 p (ev2 xs)) → Q (.ref p) H2
theorem new_same {H : Hp} {p : Addr} {o : HO} (n : H p = none) : ∀ b u, H b = some u → upd H p o b = some u := fun b u e => by
  rw [upd_ne (ne_of_none e n)]
  exact e
theorem pe_half {e : Expr} {te : TE} {k : Nat} {p1 p3 pos : Pos} (he : PE X e te) : PE X (.Subscript e (.Slice none none (some (.Constant (.int 2) k p1)) p3) pos) (tHalf X.K te) := by
  refine ⟨fun pins s σ H Q I h => ?_⟩
  refine Subscript_ (thn (he.run pins s σ H _ I h) fun v s1 ⟨x, H1, I1, r1, q1⟩ => ?_)
  obtain ⟨a, xs, ex, hq, q⟩ := q1
  subst ex
  cases r1
  have hst : PO X (some (.Constant (.int 2) k p1)) (tPart (tC (.int 2))) := po_some pe_int
  refine wpAny_Slice (thn (po_none.run pins s1 σ H1 (fun o H2 => o = none ∧ H2 = H1) I1 ⟨rfl, rfl⟩) fun vl s2 ⟨l, H2, I2, pl, el, e2⟩ => ?_)
  subst el e2
  refine thn (po_none.run pins s2 σ H2 (fun o H3 => o = none ∧ H3 = H2) I2 ⟨rfl, rfl⟩) fun vu s3 ⟨u, H3, I3, pu, eu, e3⟩ => ?_
  subst eu e3
  refine thn (hst.run pins s3 σ H3 (fun o H4 => o = some 2 ∧ H4 = H3) I3 ⟨2, rfl, rfl, rfl⟩) fun vs s4 ⟨o, H4, I4, ps, eo, e4⟩ => ?_
  subst eo e4
  have I5 : Inv X pins σ H4 { s4 with heap := s4.heap.push { cls := .type "slice", data := .fields #[vl, vu, vs] } } := I4.kept (t' := s4.toks) fun b ob q => Heap.get?_push_of_some _ q
  rcases hq with hx | hx
  · obtain ⟨its, r, ht, hz⟩ := I5.list hx
    have hlen := r.length
    show wpAny (model X.prog X.w) X.A (subscriptTail e (.Slice none none (some (.Constant (.int 2) k p1)) p3) (.ref a) (.ref s4.heap.objs.size)) (EP X pins σ Q) X.xe { s4 with heap := s4.heap.push { cls := .type "slice", data := .fields #[vl, vu, vs] } }
    refine tail_any (ops := [.ref a, .ref s4.heap.objs.size]) ht.isList.typeIs (PySem.slot_list_getitem.lookup) ?_ (by with_unfolding_all rfl)
    refine wpAny_getItem_list_slice ht.isList (Heap.IsSliceOf.new _ vl vu vs) pl pu ps (by decide) ?_ (by rw [List.size_toArray]; omega)
    rw [pick2]
    refine ⟨.ref _, _, I5.laid (t' := s4.toks) (o := .lst (ev2 xs)) (fun b ob q => Heap.get?_push_of_some _ q) (Nat.le_refl _) ?_, rfl, q _ _ (new_same (I5.hok.fresh (Nat.le_refl _))) (I5.hok.fresh (Nat.le_refl _)) (.inl (SqL.of upd_same))⟩
    exact ⟨Nat.le_trans (ev2_le xs) hz, _, 0, ev2_vals r, Heap.get?_push_size _ rfl⟩
  · obtain ⟨its, r, ht, hz⟩ := I5.tuple hx
    have hlen := r.length
    cases pl
    cases pu
    cases ps
    show wpAny (model X.prog X.w) X.A (subscriptTail e (.Slice none none (some (.Constant (.int 2) k p1)) p3) (.ref a) (.ref s4.heap.objs.size)) (EP X pins σ Q) X.xe { s4 with heap := s4.heap.push { cls := .type "slice", data := .fields #[Value.none, Value.none, .int 2 _] } }
    refine tail_any (ops := [.ref a, .ref s4.heap.objs.size]) ht.typeIs (PyProof.Rows.slot_tuple_getitem.lookup) ?_ (by with_unfolding_all rfl)
    refine getItem_tuple_2 ht (Heap.IsSliceOf.new _ _ _ _) ?_ (by rw [List.size_toArray]; omega)
    refine ⟨.ref _, _, I5.laid (t' := s4.toks) (o := .tup (ev2 xs)) (fun b ob q => Heap.get?_push_of_some _ q) (Nat.le_refl _) ?_, rfl, q _ _ (new_same (I5.hok.fresh (Nat.le_refl _))) (I5.hok.fresh (Nat.le_refl _)) (.inr (SqT.of upd_same))⟩
    exact ⟨Nat.le_trans (ev2_le xs) hz, _, ev2_vals r, IsTup.new _ _⟩
theorem keepL {K : PySem.W.Frag} {H H' : Hp} {a : Addr} {xs : List V} (e : Same H H') (h : SqL K H a xs) : SqL K H' a xs := by
  rcases h with (h | ⟨o, h⟩) | h
  · exact .inl (.inl (e _ _ h))
  · exact .inl (.inr ⟨o, e _ _ h⟩)
  · exact .inr h
theorem keepT {K : PySem.W.Frag} {H H' : Hp} {a : Addr} {xs : List V} (e : Same H H') (h : SqT K H a xs) : SqT K H' a xs := by
  rcases h with (h | ⟨o, h⟩) | h
  · exact .inl (.inl (e _ _ h))
  · exact .inl (.inr ⟨o, e _ _ h⟩)
  · exact .inr h
def iSeq (K : PySem.W.Frag) (tl : TE) : TI := fun σ H R => tl σ H fun x H1 => ∃ a xs, x = .ref a ∧ (SqL K H1 a xs ∨ SqT K H1 a xs) ∧
  ∀ J G, Walk J xs.length G (YAt xs) → (∀ H', Same H1 H' → G H') → R J H1
theorem pi_seq {tg l : Expr} {tl : TE} (hl : PE X l tl) : PI X tg l (iSeq X.K tl) := by
  refine ⟨fun pins s σ H R I h => ?_⟩
  refine thn (hl.run pins s σ H _ I h) fun v s1 ⟨x, H1, I1, r1, q1⟩ => ?_
  obtain ⟨a, xs, e, hq, q⟩ := q1
  subst e
  cases r1
  rcases hq with hq | hq
  · have q := q _ _ walk_list fun H' s => keepL s hq
    obtain ⟨its, rv, p, hz⟩ := I1.list hq
    refine wpAny_pyIter_list p.isList ?_
    refine ⟨s1.heap.objs.size, [s1.heap.objs.size], _, _, H1, rfl, I1.kept (t' := s1.toks) fun b o e => Heap.get?_push_of_some _ e, turn_list a _, ⟨_, Heap.get?_push_size _ rfl, rfl, rfl⟩, fun b hb => ?_, q⟩
    have e : b = s1.heap.objs.size := by simpa using hb
    subst e
    exact I1.fpOk (Nat.le_refl _) (I1.hok.fresh (Nat.le_refl _))
  · have q := q _ _ walk_tup fun H' s => keepT s hq
    obtain ⟨its, rv, p, hz⟩ := I1.tuple hq
    refine wpAny_pyIter_tuple (show s1.heap.IsTuple a its.toArray from p) ?_
    refine ⟨s1.heap.objs.size, [s1.heap.objs.size], _, _, H1, rfl, I1.kept (t' := s1.toks) fun b o e => Heap.get?_push_of_some _ e, turn_tuple a _, ⟨_, Heap.get?_push_size _ rfl, rfl, rfl⟩, fun b hb => ?_, q⟩
    have e : b = s1.heap.objs.size := by simpa using hb
    subst e
    exact I1.fpOk (Nat.le_refl _) (I1.hok.fresh (Nat.le_refl _))
end
end Hf

/-! Rows read back: strokes, steps, groups. -/
namespace Wm
open PySem L2 TL
/-- the rows of the first digits, without the two ticks at the end -/
def pre : List Nat → List Int
  | [] => []
  | d :: ds => blk d ++ ([0, 0] ++ pre ds)
theorem pre_app : ∀ (ds : List Nat) (d : Nat), pre (ds ++ [d]) = pre ds ++ (blk d ++ [0, 0])
  | [], d => by show blk d ++ ([0, 0] ++ []) = [] ++ _; simp
  | e :: ds, d => by
    show blk e ++ ([0, 0] ++ pre (ds ++ [d])) = (blk e ++ ([0, 0] ++ pre ds)) ++ _
    rw [pre_app ds d]
    simp only [List.append_assoc]
theorem pre_row : ∀ ds : List Nat, pre ds ++ [0, 0] = rowL ds
  | [] => rfl
  | d :: ds => by
    show (blk d ++ ([0, 0] ++ pre ds)) ++ _ = blk d ++ ([0, 0] ++ rowL ds)
    rw [← pre_row ds]
    simp only [List.append_assoc]
theorem blk_V (d : Nat) : (List.replicate d [V.int 1, V.int 0]).flatten = (blk d).map V.int := by
  unfold blk
  rw [List.map_flatten, List.map_replicate]
  rfl
theorem pre_le : ∀ ds : List Nat, (∀ d ∈ ds, d ≤ 9) → (pre ds).length ≤ 20 * ds.length
  | [], _ => by decide
  | d :: ds, h => by
    have ih := pre_le ds fun y m => h y (List.mem_cons_of_mem _ m)
    have hd := h d (by simp)
    show (blk d ++ ([0, 0] ++ pre ds)).length ≤ _
    rw [List.length_append, List.length_append, blk_len]
    simp only [List.length_cons, List.length_nil]
    omega
theorem take_succ_app {α : Type} {l : List α} {i : Nat} {x : α} (h : l[i]? = some x) : l.take (i + 1) = l.take i ++ [x] := by
  rw [List.take_add_one, h]
  rfl
theorem take_succ_map {α β : Type} {l : List α} {i : Nat} {x : α} (f : α → β) (h : l[i]? = some x) : (l.take i).map f ++ [f x] = (l.take (i + 1)).map f := by
  rw [take_succ_app h, List.map_append]
  rfl
theorem row_sum : ∀ ds : List Nat, (rowL ds).length = 2 * (ds.sum + ds.length + 1)
  | [] => rfl
  | d :: ds => by
    have ih := row_sum ds
    show (blk d ++ ([0, 0] ++ rowL ds)).length = _
    rw [List.length_append, List.length_append, blk_len, ih, List.sum_cons]
    simp only [List.length_cons, List.length_nil]
    omega
theorem row_le (ds : List Nat) (N : Num ds) : (rowL ds).length ≤ 100 := by
  have h := rowL_le ds fun d m => (N.dig d m).2
  have l := N.len
  omega
theorem row_bits : ∀ (ds : List Nat) (z : Int), z ∈ rowL ds → z = 0 ∨ z = 1
  | [], z, h => by
    have h : z ∈ [0, 0] := h
    simp only [List.mem_cons, List.not_mem_nil, or_false, or_self] at h
    exact .inl h
  | d :: ds, z, h => by
    have h : z ∈ blk d ++ ([0, 0] ++ rowL ds) := h
    rw [List.mem_append, List.mem_append] at h
    rcases h with h | h | h
    · obtain ⟨l, hl, hz⟩ := List.mem_flatten.mp h
      rw [(List.mem_replicate.mp hl).2] at hz
      simp only [List.mem_cons, List.not_mem_nil, or_false] at hz
      exact hz.symm
    · simp only [List.mem_cons, List.not_mem_nil, or_false, or_self] at h
      exact .inl h
    · exact row_bits ds z h
/-! strokes -/
def ones : Nat → List Int → List Nat
  | _, [] => []
  | o, x :: xs => if x = 1 then o :: ones (o + 1) xs else ones (o + 1) xs
theorem ones_app : ∀ (a : List Int) (o : Nat) (b : List Int), ones o (a ++ b) = ones o a ++ ones (o + a.length) b
  | [], o, b => rfl
  | x :: a, o, b => by
    have ih := ones_app a (o + 1) b
    have e : o + (x :: a).length = o + 1 + a.length := by rw [List.length_cons]; omega
    rw [e]
    show (if x = 1 then o :: ones (o + 1) (a ++ b) else ones (o + 1) (a ++ b)) = (if x = 1 then o :: ones (o + 1) a else ones (o + 1) a) ++ _
    rw [ih]
    by_cases c : x = 1
    · rw [if_pos c, if_pos c]; rfl
    · rw [if_neg c, if_neg c]
theorem ones_mem : ∀ (xs : List Int) (o k : Nat), k ∈ ones o xs ↔ ∃ j, k = o + j ∧ xs[j]? = some 1
  | [], o, k => by simp [ones]
  | x :: xs, o, k => by
    have ih := ones_mem xs (o + 1) k
    show k ∈ (if x = 1 then o :: ones (o + 1) xs else ones (o + 1) xs) ↔ _
    constructor
    · intro h
      by_cases c : x = 1
      · rw [if_pos c] at h
        rcases List.mem_cons.mp h with e | e
        · exact ⟨0, by omega, by rw [c]; rfl⟩
        · obtain ⟨j, e1, e2⟩ := ih.mp e
          exact ⟨j + 1, by omega, by simpa using e2⟩
      · rw [if_neg c] at h
        obtain ⟨j, e1, e2⟩ := ih.mp h
        exact ⟨j + 1, by omega, by simpa using e2⟩
    · rintro ⟨j, e1, e2⟩
      cases j with
      | zero =>
        have c : x = 1 := Option.some.inj e2
        rw [if_pos c]
        exact List.mem_cons.mpr (.inl (by omega))
      | succ j =>
        have m : k ∈ ones (o + 1) xs := ih.mpr ⟨j, by omega, by simpa using e2⟩
        by_cases c : x = 1
        · rw [if_pos c]; exact List.mem_cons_of_mem _ m
        · rw [if_neg c]; exact m
theorem ones_blk (o d : Nat) : ones o (blk (d + 1)) = ones o (blk d) ++ [o + 2 * d] := by
  rw [blk_add, ones_app, blk_len]
  rfl
theorem ones_end (a : List Int) (o : Nat) : ones o (a ++ [0, 0]) = ones o a := by
  rw [ones_app]
  show ones o a ++ [] = _
  rw [List.append_nil]
theorem step2 (s : List Nat) (d : Nat) : ones 0 (pre s ++ blk (d + 1)) = ones 0 (pre s ++ blk d) ++ [(pre s).length + 2 * d] := by
  rw [ones_app, ones_app, ones_blk, List.append_assoc, Nat.zero_add]
theorem step4 (s : List Nat) (d : Nat) : ones 0 (pre (s ++ [d]) ++ blk 1) = ones 0 (pre s ++ blk d) ++ [(pre s).length + 2 * d + 2] := by
  rw [ones_app, pre_app, ← List.append_assoc, ones_end]
  have e : ((pre s ++ blk d) ++ ([0, 0] : List Int)).length = (pre s).length + 2 * d + 2 := by
    rw [List.length_append, List.length_append, blk_len]
    rfl
  rw [e, Nat.zero_add]
  rfl
theorem ones_row (s : List Nat) (d : Nat) : ones 0 (rowL (s ++ [d])) = ones 0 (pre s ++ blk d) := by
  rw [← pre_row, pre_app, ← List.append_assoc, ones_end, ones_end]
theorem ones_inj {ds es : List Nat} (h1 : ∀ d ∈ ds, 1 ≤ d) (h2 : ∀ e ∈ es, 1 ≤ e) (h : ones 0 (rowL ds) = ones 0 (rowL es)) : ds = es := by
  rcases rows_part ds es h1 h2 with q | ⟨k, q, _⟩ | ⟨k, q, _⟩
  · exact q
  · have m : k ∈ ones 0 (rowL ds) := (ones_mem _ _ _).mpr ⟨k, by omega, q.one⟩
    rw [h] at m
    obtain ⟨j, e1, e2⟩ := (ones_mem _ _ _).mp m
    rw [show j = k by omega, q.two] at e2
    cases e2
  · have m : k ∈ ones 0 (rowL es) := (ones_mem _ _ _).mpr ⟨k, by omega, q.two⟩
    rw [← h] at m
    obtain ⟨j, e1, e2⟩ := (ones_mem _ _ _).mp m
    rw [show j = k by omega, q.one] at e2
    cases e2
def St (l : List Nat) : Prop := ∀ (k a b : Nat), l[k]? = some a → l[k + 1]? = some b → b = a + 2 ∨ b = a + 4
theorem St.cons {x : Nat} {l : List Nat} (h : ∀ y, l.head? = some y → y = x + 2 ∨ y = x + 4) (s : St l) : St (x :: l) := by
  intro k a b e1 e2
  cases k with
  | zero =>
    have e : x = a := Option.some.inj e1
    subst e
    refine h b ?_
    rw [List.head?_eq_getElem?]
    exact e2
  | succ k => exact s k a b (by simpa using e1) (by simpa using e2)
theorem steps_blk {l : List Int} (hl : ∀ o, St (ones o l) ∧ ∀ y, (ones o l).head? = some y → y = o) : ∀ (d o : Nat), St (ones o (blk d ++ ([0, 0] ++ l))) ∧ ∀ y, (ones o (blk d ++ ([0, 0] ++ l))).head? = some y → (y = o ∨ y = o + 2)
  | 0, o => by
    have h := hl (o + 2)
    exact ⟨h.1, fun y e => .inr (h.2 y e)⟩
  | d + 1, o => by
    have ih := steps_blk hl d (o + 2)
    have e : ones o (blk (d + 1) ++ ([0, 0] ++ l)) = o :: ones (o + 2) (blk d ++ ([0, 0] ++ l)) := by
      rw [blk_succ]
      rfl
    rw [e]
    refine ⟨ih.1.cons fun y q => ?_, fun y q => .inl (Option.some.inj q).symm⟩
    rcases ih.2 y q with z | z
    · exact .inl z
    · exact .inr (by omega)
theorem steps_row : ∀ (es : List Nat), (∀ d ∈ es, 1 ≤ d) → ∀ o, St (ones o (rowL es)) ∧ ∀ y, (ones o (rowL es)).head? = some y → y = o
  | [], _, o => ⟨fun k a b (e : (none : Option Nat) = some a) => (by cases e), fun y (e : (none : Option Nat) = some y) => by cases e⟩
  | d :: es, h, o => by
    have ih := steps_row es fun y m => h y (List.mem_cons_of_mem _ m)
    obtain ⟨f, rfl⟩ : ∃ f, d = f + 1 := ⟨d - 1, by have := h d (by simp); omega⟩
    have q := steps_blk ih (f + 1) o
    refine ⟨q.1, fun y e => ?_⟩
    have e' : ones o (rowL ((f + 1) :: es)) = o :: ones (o + 2) (blk f ++ ([0, 0] ++ rowL es)) := by
      show ones o (blk (f + 1) ++ _) = _
      rw [blk_succ]
      rfl
    rw [e'] at e
    exact (Option.some.inj e).symm
theorem first_row (d : Nat) (es : List Nat) (h : 1 ≤ d) : (ones 0 (rowL (d :: es)))[0]? = some 0 := by
  obtain ⟨f, rfl⟩ : ∃ f, d = f + 1 := ⟨d - 1, by omega⟩
  show (ones 0 (blk (f + 1) ++ _))[0]? = _
  rw [blk_succ]
  rfl
/-! groups -/
def gaps : List Int → List Nat
  | [] => [0]
  | z :: zs => if z = 1 then (match gaps zs with | [] => [1] | g :: gs => (g + 1) :: gs) else 0 :: gaps zs
theorem gaps_ne : ∀ zs, gaps zs ≠ []
  | [] => by simp [gaps]
  | z :: zs => by
    show (if z = 1 then (match gaps zs with | [] => [1] | g :: gs => (g + 1) :: gs) else 0 :: gaps zs) ≠ []
    by_cases c : z = 1
    · rw [if_pos c]
      split <;> simp
    · rw [if_neg c]; simp
def bits (zs : List Int) : List Nat := zs.map fun z => if z = 1 then 49 else 48
theorem joinL_cons {s : List Nat} {p : List Nat} {ps : List (List Nat)} (h : ps ≠ []) : joinL s (p :: ps) = p ++ (s ++ joinL s ps) := by
  cases ps with
  | nil => exact absurd rfl h
  | cons q r => rfl
theorem joinL_one (s p : List Nat) : joinL s [p] = p := rfl
theorem map_ne {α β : Type} {f : α → β} {l : List α} (h : l ≠ []) : l.map f ≠ [] := fun e => h (List.map_eq_nil_iff.mp e)
theorem gaps_join : ∀ zs, bits zs = joinL [48] ((gaps zs).map fun g => List.replicate g 49)
  | [] => rfl
  | z :: zs => by
    have ih := gaps_join zs
    have ne := gaps_ne zs
    show (if z = 1 then 49 else 48) :: bits zs = joinL [48] ((if z = 1 then (match gaps zs with | [] => [1] | g :: gs => (g + 1) :: gs) else 0 :: gaps zs).map _)
    by_cases c : z = 1
    · rw [if_pos c, if_pos c]
      cases e : gaps zs with
      | nil => exact absurd e ne
      | cons g gs =>
        rw [e] at ih
        rw [ih]
        cases gs with
        | nil => rfl
        | cons g2 gs => rfl
    · rw [if_neg c, if_neg c, List.map_cons, joinL_cons (map_ne ne), ← ih]
      rfl
theorem gaps_sum : ∀ zs, (gaps zs).sum ≤ zs.length ∧ (gaps zs).length ≤ zs.length + 1
  | [] => by decide
  | z :: zs => by
    have ih := gaps_sum zs
    show (if z = 1 then (match gaps zs with | [] => [1] | g :: gs => (g + 1) :: gs) else 0 :: gaps zs).sum ≤ zs.length + 1 ∧ (if z = 1 then (match gaps zs with | [] => [1] | g :: gs => (g + 1) :: gs) else 0 :: gaps zs).length ≤ zs.length + 1 + 1
    by_cases c : z = 1
    · rw [if_pos c]
      cases e : gaps zs with
      | nil => exact absurd e (gaps_ne zs)
      | cons g gs =>
        rw [e, List.sum_cons, List.length_cons] at ih
        show ((g + 1) :: gs).sum ≤ _ ∧ ((g + 1) :: gs).length ≤ _
        rw [List.sum_cons, List.length_cons]
        omega
    · rw [if_neg c, List.sum_cons, List.length_cons]
      omega
theorem mem_sum {g : Nat} : ∀ {l : List Nat}, g ∈ l → g ≤ l.sum
  | a :: l, h => by
    rw [List.sum_cons]
    rcases List.mem_cons.mp h with e | e
    · omega
    · have := mem_sum e
      omega
theorem gaps_le {zs : List Int} {g : Nat} (h : g ∈ gaps zs) : g ≤ zs.length := by
  have h1 := (gaps_sum zs).1
  have h2 : g ≤ (gaps zs).sum := mem_sum h
  omega
theorem ev2_row : ∀ ds, Hf.ev2 (rowL ds) = (match ds with | [] => [0] | d :: r => List.replicate d 1 ++ (0 :: Hf.ev2 (rowL r)))
  | [] => rfl
  | d :: r => by
    show Hf.ev2 (blk d ++ ([0, 0] ++ rowL r)) = List.replicate d 1 ++ (0 :: Hf.ev2 (rowL r))
    induction d with
    | zero => rfl
    | succ d ih =>
      rw [blk_succ, List.replicate_succ]
      show (1 : Int) :: Hf.ev2 (blk d ++ ([0, 0] ++ rowL r)) = _
      rw [ih]
      rfl
theorem gaps_rep (l : List Int) (d : Nat) : gaps (List.replicate d 1 ++ (0 :: l)) = d :: gaps l := by
  induction d with
  | zero => rfl
  | succ d ih =>
    rw [List.replicate_succ]
    show (if (1 : Int) = 1 then (match gaps (List.replicate d 1 ++ (0 :: l)) with | [] => [1] | g :: gs => (g + 1) :: gs) else _) = _
    rw [if_pos rfl, ih]
theorem gaps_row : ∀ ds, gaps (Hf.ev2 (rowL ds)) = ds ++ [0, 0]
  | [] => rfl
  | d :: r => by
    rw [ev2_row]
    show gaps (List.replicate d 1 ++ (0 :: Hf.ev2 (rowL r))) = _
    rw [gaps_rep, gaps_row r]
    rfl
end Wm

/-! Ticks of bent rows as data. -/
namespace Wm
open PySem L2
inductive Tk : PyData → Prop
  | int {i : Int} : i.natAbs < 1000000 → Tk (.int i)
  | bl (b : Bool) : Tk (.bool b)
  | non : Tk .none
  | one : Tk (.str "1")
  | lst : Tk (.list [.int 0])
def Item (K : PySem.W.Frag) (H : Hp) (x : V) : Prop := ∃ d, Dp K H x d ∧ Tk d
theorem sqL_keep {K : PySem.W.Frag} {H H' : Hp} {a : Addr} {xs : List V} (e : Same H H') (h : SqL K H a xs) : SqL K H' a xs := by
  rcases h with (h | ⟨o, h⟩) | h
  · exact .inl (.inl (e _ _ h))
  · exact .inl (.inr ⟨o, e _ _ h⟩)
  · exact .inr h
theorem tk_keep {K : PySem.W.Frag} {H H' : Hp} {x : V} {d : PyData} (e : Same H H') (h : Dp K H x d) (t : Tk d) : Dp K H' x d := by
  cases t with
  | int _ => cases h; exact .int _
  | bl b => cases h; exact .bl _
  | non => cases h; exact .non
  | one => cases h; exact .str _
  | lst =>
    cases h with
    | lst q a =>
      refine .lst (sqL_keep e q) ?_
      cases a with
      | cons b c =>
        cases b
        cases c
        exact .cons (.int _) .nil
theorem Item.keep {K : PySem.W.Frag} {H H' : Hp} {x : V} (e : Same H H') (h : Item K H x) : Item K H' x := let ⟨d, a, b⟩ := h; ⟨d, tk_keep e a b, b⟩
theorem tks_keep {K : PySem.W.Frag} {H H' : Hp} (e : Same H H') : ∀ {xs : List V} {ds : List PyData}, DpAll K H xs ds → (∀ d ∈ ds, Tk d) → DpAll K H' xs ds
  | _, _, .nil, _ => .nil
  | _, _, .cons a b, t => .cons (tk_keep e a (t _ (by simp))) (tks_keep e b fun d m => t d (List.mem_cons_of_mem _ m))
theorem items_data {K : PySem.W.Frag} {H : Hp} : ∀ {xs : List V}, (∀ x ∈ xs, Item K H x) → ∃ ds, DpAll K H xs ds ∧ (∀ d ∈ ds, Tk d) ∧ ds.length = xs.length
  | [], _ => ⟨[], .nil, by simp, rfl⟩
  | x :: xs, h => by
    obtain ⟨d, a, b⟩ := h x (by simp)
    obtain ⟨ds, c1, c2, c3⟩ := items_data (xs := xs) fun y m => h y (List.mem_cons_of_mem _ m)
    refine ⟨d :: ds, .cons a c1, fun y m => ?_, by rw [List.length_cons, List.length_cons, c3]⟩
    rcases List.mem_cons.mp m with q | q
    · rw [q]; exact b
    · exact c2 y q
theorem item_int {K : PySem.W.Frag} {H : Hp} {i : Int} (h : i.natAbs < 1000000) : Item K H (.int i) := ⟨_, .int i, .int h⟩
theorem tk_lay {d : PyData} (t : Tk d) : d.canLay0 = true ∧ d.depth ≤ 1 := by
  cases t with
  | int _ => exact ⟨by simp [PyData.canLay0], by simp [PyData.depth]⟩
  | bl b => exact ⟨by simp [PyData.canLay0], by simp [PyData.depth]⟩
  | non => exact ⟨by simp [PyData.canLay0], by simp [PyData.depth]⟩
  | one => exact ⟨by decide +kernel, by simp [PyData.depth]⟩
  | lst => exact ⟨by simp [PyData.canLay0, PyData.canLayAll0], by simp [PyData.depth, PyData.depthAll]⟩
theorem tks_lay : ∀ {ds : List PyData}, (∀ d ∈ ds, Tk d) → PyData.canLayAll0 ds = true ∧ PyData.depthAll ds ≤ 1
  | [], _ => by simp [PyData.canLayAll0, PyData.depthAll]
  | d :: ds, h => by
    have h1 := tk_lay (h d (by simp))
    have h2 := tks_lay (ds := ds) fun y m => h y (List.mem_cons_of_mem _ m)
    simp only [PyData.canLayAll0, PyData.depthAll, h1.1, h2.1, Bool.and_self, true_and]
    omega
theorem tks_shaped {ds : List PyData} (h : ∀ d ∈ ds, Tk d) : SeqAt.shaped (.list ds) = true := by
  have q := tks_lay h
  have e : decide ((PyData.list ds).depth ≤ 64) = true := decide_eq_true (by simp only [PyData.depth]; omega)
  show ((PyData.list ds).canLay0 && _) = true
  rw [e, Bool.and_true]
  exact q.1
theorem tk_show {d : PyData} (t : Tk d) : d.showable = true ∧ d.hasDict = false ∧ d.leavesShort 13 = true ∧ d.weight ≤ 30 := by
  cases t with
  | @int i h =>
    have hl : i.natAbs.log2 < 20 ∨ i = 0 := by
      by_cases z : i = 0
      · exact .inr z
      · exact .inl ((Nat.log2_lt (by omega)).mpr (by omega))
    refine ⟨decide_eq_true ?_, rfl, decide_eq_true (PyData.shown_int_le (by omega)), ?_⟩
    · rcases hl with z | z
      · omega
      · subst z; decide
    · rcases hl with z | z
      · simp only [PyData.weight]; split <;> omega
      · subst z; decide
  | bl b => exact ⟨rfl, rfl, rfl, by simp [PyData.weight]⟩
  | non => exact ⟨rfl, rfl, rfl, by simp [PyData.weight]⟩
  | one => exact ⟨rfl, rfl, by decide +kernel, by decide +kernel⟩
  | lst => exact ⟨by decide +kernel, rfl, by decide +kernel, by decide +kernel⟩
theorem tks_show : ∀ {ds : List PyData}, (∀ d ∈ ds, Tk d) → PyData.showableAll ds = true ∧ PyData.hasDictAll ds = false ∧ PyData.leavesShortAll 13 ds = true ∧ PyData.weightAll ds ≤ 31 * ds.length
  | [], _ => by simp [PyData.showableAll, PyData.hasDictAll, PyData.leavesShortAll, PyData.weightAll]
  | d :: ds, h => by
    have h1 := tk_show (h d (by simp))
    have h2 := tks_show (ds := ds) fun y m => h y (List.mem_cons_of_mem _ m)
    simp only [PyData.showableAll, PyData.hasDictAll, PyData.leavesShortAll, PyData.weightAll, h1.1, h1.2.1, h1.2.2.1, h2.1, h2.2.1, h2.2.2.1, Bool.and_self, Bool.or_self, true_and, List.length_cons]
    omega
theorem tks_shown {ds : List PyData} (h : ∀ d ∈ ds, Tk d) (l : ds.length ≤ 1000) : (PyData.list ds).shown.length ≤ sizeLine :=
  PyData.shown_fits (B := 13) (by decide) (by decide) (tks_show h).2.2.1 (Nat.le_trans (tks_show h).2.2.2 (by omega))
def isI : V → Bool
  | .int _ => true
  | _ => false
def isBit (x : V) : Bool := decide (x = .int 0) || decide (x = .int 1)
theorem all_ints {xs : List V} (h : ∀ x ∈ xs, isI x = true) : ∃ zs : List Int, xs = zs.map V.int := by
  induction xs with
  | nil => exact ⟨[], rfl⟩
  | cons x xs ih =>
    obtain ⟨zs, e⟩ := ih fun y m => h y (List.mem_cons_of_mem _ m)
    have hx := h x (by simp)
    cases x with
    | int i => exact ⟨i :: zs, by rw [e]; rfl⟩
    | _ => cases hx
theorem all_bits {xs : List V} (h : ∀ x ∈ xs, isBit x = true) : ∃ zs : List Int, xs = zs.map V.int ∧ ∀ z ∈ zs, z = 0 ∨ z = 1 := by
  induction xs with
  | nil => exact ⟨[], rfl, by simp⟩
  | cons x xs ih =>
    obtain ⟨zs, e, b⟩ := ih fun y m => h y (List.mem_cons_of_mem _ m)
    have hx := h x (by simp)
    have hc : x = .int 0 ∨ x = .int 1 := by
      rcases Bool.or_eq_true_iff.mp hx with q | q
      · exact .inl (of_decide_eq_true q)
      · exact .inr (of_decide_eq_true q)
    have : ∃ i : Int, x = .int i ∧ (i = 0 ∨ i = 1) := by
      rcases hc with q | q
      · exact ⟨0, q, .inl rfl⟩
      · exact ⟨1, q, .inr rfl⟩
    obtain ⟨i, rfl, hi⟩ := this
    refine ⟨i :: zs, by rw [e]; rfl, fun z m => ?_⟩
    rcases List.mem_cons.mp m with q | q
    · rw [q]; exact hi
    · exact b z q
/-- what isinstance asks of such a tick -/
theorem tyx_of {K : PySem.W.Frag} {H : Hp} {x : V} (h : Item K H x) : ∃ (n : String) (a b : Bool), TyX K H x (.type n) ∧ PySem.W.kitOne K (.type n) (.type "int") = some a ∧
    PySem.W.kitOne K (.type n) (.type "bool") = some b ∧ (a && !b) = isI x := by
  obtain ⟨d, h, t⟩ := h
  cases t with
  | int _ => cases h; exact ⟨"int", true, false, .base (.int _), kit_ty (by decide +kernel), kit_ty (by decide +kernel), rfl⟩
  | bl b => cases h; exact ⟨"bool", true, true, .base (.bl _), kit_ty (by decide +kernel), kit_ty (by decide +kernel), rfl⟩
  | non => cases h; exact ⟨"NoneType", false, false, .base .non, kit_ty (by decide +kernel), kit_ty (by decide +kernel), rfl⟩
  | one => cases h; exact ⟨"str", false, false, .base (.str _), kit_ty (by decide +kernel), kit_ty (by decide +kernel), rfl⟩
  | lst =>
    cases h with
    | lst q a =>
      rcases q with (q | ⟨o, q⟩) | q
      · exact ⟨"list", false, false, .base (.lst q), kit_ty (by decide +kernel), kit_ty (by decide +kernel), rfl⟩
      · exact ⟨"list", false, false, .base (.frz q), kit_ty (by decide +kernel), kit_ty (by decide +kernel), rfl⟩
      · obtain ⟨o, xs, n, e, c, _⟩ := q
        exact ⟨"list", false, false, .kList e c, kit_ty (by decide +kernel), kit_ty (by decide +kernel), rfl⟩
/-- a list or a tuple -/
def SqA (K : PySem.W.Frag) (H : Hp) (a : Addr) (xs : List V) : Prop := SqL K H a xs ∨ SqT K H a xs
theorem SqA.keep {K : PySem.W.Frag} {H H' : Hp} {a : Addr} {xs : List V} (e : Same H H') (h : SqA K H a xs) : SqA K H' a xs := h.imp (sqL_keep e) (sameT e)
end Wm

/-! Texts of digits: halves, groups, the number they tell. -/
namespace Wm
open PySem L2 TL
def oneS (g : Nat) : Str := ⟨(List.replicate g 49).toArray⟩
def bitS (z : Int) : Str := if z = 1 then "1" else "0"
def decS (g : Nat) : Str := ((toString (g : Int) : String) : Str)
theorem bit_str {z : Int} (h : z = 0 ∨ z = 1) : ((toString z : String) : Str) = bitS z := by
  rcases h with e | e <;> subst e <;> decide +kernel
theorem tl_bit (z : Int) : tl (bitS z) = [if z = 1 then 49 else 48] := by
  unfold bitS
  by_cases c : z = 1
  · rw [if_pos c, if_pos c]; decide +kernel
  · rw [if_neg c, if_neg c]; decide +kernel
theorem joinL_nil : ∀ ps : List (List Nat), joinL [] ps = ps.flatten
  | [] => rfl
  | [p] => by show p = [p].flatten; simp
  | p :: q :: r => by
    show p ++ ([] ++ joinL [] (q :: r)) = _
    rw [joinL_nil (q :: r), List.nil_append]
    rfl
theorem tl_empty : tl ("" : Str) = [] := by decide +kernel
theorem tl_zero : tl ("0" : Str) = [48] := by decide +kernel
theorem tl_join0 (ys : List Str) : tl (Txt.join "" ys) = (ys.map tl).flatten := by
  rw [join_eq, tl_join, tl_empty, joinL_nil]
theorem bits_flat : ∀ zs : List Int, ((zs.map bitS).map tl).flatten = bits zs
  | [] => rfl
  | z :: zs => by
    rw [List.map_cons, List.map_cons, List.flatten_cons, bits_flat zs, tl_bit]
    rfl
theorem halves_eq (zs : List Int) : Txt.join "" (zs.map bitS) = Txt.join "0" ((gaps zs).map oneS) := by
  refine ext_tl ?_
  rw [tl_join0, bits_flat, gaps_join, join_eq, tl_join, tl_zero, List.map_map]
  rfl
theorem groups_eq (zs : List Int) : Txt.split (Txt.join "" (zs.map bitS)) "0" = (gaps zs).map oneS := by
  rw [halves_eq]
  refine split_join (s := 48) (S := []) tl_zero (by decide +kernel) (map_ne (gaps_ne zs)) fun p hp h => ?_
  obtain ⟨g, _, rfl⟩ := List.mem_map.mp hp
  have h : 48 ∈ List.replicate g 49 := h
  exact absurd (List.mem_replicate.mp h).2 (by decide)
theorem oneS_len (g : Nat) : (oneS g).length = g := by
  rw [len_tl]
  show (List.replicate g 49).length = g
  rw [List.length_replicate]
theorem halves_len (zs : List Int) : (Txt.join "" (zs.map bitS)).length = zs.length := by
  rw [len_tl, tl_join0, bits_flat]
  unfold bits
  rw [List.length_map]
theorem len4 : ∀ g : Fin 1001, (decS g.val).length ≤ 4 := by decide +kernel
theorem dec_len {g : Nat} (h : g ≤ 1000) : (decS g).length ≤ 4 := len4 ⟨g, by omega⟩
theorem dec_sum : ∀ {gs : List Nat}, (∀ g ∈ gs, g ≤ 1000) → ((gs.map decS).map (·.length)).sum ≤ 4 * gs.length
  | [], _ => by simp
  | g :: gs, h => by
    have h1 := dec_len (h g (by simp))
    have h2 := dec_sum (gs := gs) fun y m => h y (List.mem_cons_of_mem _ m)
    rw [List.map_cons, List.map_cons, List.sum_cons, List.length_cons]
    omega
theorem join0_len (ys : List Str) : (Txt.join "" ys).length = (ys.map (·.length)).sum := by
  rw [len_tl, tl_join0]
  induction ys with
  | nil => rfl
  | cons y ys ih => rw [List.map_cons, List.flatten_cons, List.length_append, ih, List.map_cons, List.sum_cons, len_tl]
theorem bit_sum (zs : List Int) : ((zs.map bitS).map (·.length)).sum = zs.length := by rw [← join0_len, halves_len]
theorem num_text : ∀ {ds : List Nat}, (∀ d ∈ ds, 1 ≤ d ∧ d ≤ 9) → Txt.join "" (ds.map decS) = numS ds
  | [], _ => by decide +kernel
  | d :: ds, h => by
    have ih := num_text (ds := ds) fun y m => h y (List.mem_cons_of_mem _ m)
    refine ext_tl ?_
    rw [tl_join0, List.map_cons, List.map_cons, List.flatten_cons, ← tl_join0, ih]
    have e : decS d = numS [d] := dig_str (h d (by simp))
    rw [e]
    rfl
/-- the number that a row of bits tells, if it is a row -/
def told (zs : List Int) : Str := Txt.join "" ((gaps (Hf.ev2 zs)).dropLast.dropLast.map decS)
theorem told_row {ds : List Nat} (h : ∀ d ∈ ds, 1 ≤ d ∧ d ≤ 9) : told (rowL ds) = numS ds := by
  unfold told
  rw [gaps_row, ← num_text h]
  congr 2
  show (ds ++ [0, 0]).dropLast.dropLast = ds
  rw [show (ds ++ [0, 0]) = (ds ++ [0]) ++ [0] by simp, List.dropLast_concat, List.dropLast_concat]
theorem digits_codes : ("123456789" : Str).cps.toList = [49, 50, 51, 52, 53, 54, 55, 56, 57] := by decide +kernel
theorem dig_text (t : Str) (h : ∀ c ∈ tl t, c ∈ ("123456789" : Str).cps.toList) : ∃ ds : List Nat, (∀ d ∈ ds, 1 ≤ d ∧ d ≤ 9) ∧ t = numS ds := by
  have h2 : ∀ c ∈ tl t, 49 ≤ c ∧ c ≤ 57 := fun c m => by
    have q := h c m
    rw [digits_codes] at q
    simp only [List.mem_cons, List.not_mem_nil, or_false] at q
    omega
  refine ⟨(tl t).map (· - 48), fun d m => ?_, ?_⟩
  · obtain ⟨c, mc, rfl⟩ := List.mem_map.mp m
    have := h2 c mc
    omega
  · refine ext_tl ?_
    show tl t = ((tl t).map (· - 48)).map (· + 48)
    rw [List.map_map]
    refine (List.map_id _).symm.trans (List.map_congr_left fun c m => ?_)
    have := h2 c m
    show c = c - 48 + 48
    omega
theorem num_codes {ds : List Nat} (h : ∀ d ∈ ds, 1 ≤ d ∧ d ≤ 9) : ∀ c ∈ tl (numS ds), c ∈ ("123456789" : Str).cps.toList := fun c m => by
  have m : c ∈ codes ds := m
  obtain ⟨d, md, rfl⟩ := List.mem_map.mp m
  exact dig_in (h d md)
def IsNum (t : Str) : Prop := ∃ ds, Num ds ∧ t = numS ds
theorem isnum_dig {ds : List Nat} : IsNum (numS ds) ↔ Num ds :=
  ⟨fun ⟨es, N, e⟩ => by rw [numS_inj e]; exact N, fun N => ⟨ds, N, rfl⟩⟩
theorem row_inj {ds es : List Nat} (N : Num ds) (M : Num es) (h : (rowL ds).map V.int = (rowL es).map V.int) : ds = es := by
  have e : rowL ds = rowL es := by
    have q := congrArg (List.map fun v => match v with | V.int i => i | _ => 0) h
    simpa [List.map_map, Function.comp_def] using q
  exact ones_inj (fun d m => (N.dig d m).1) (fun d m => (M.dig d m).1) (by rw [e])
theorem map_int_inj {xs ys : List Int} (h : xs.map V.int = ys.map V.int) : xs = ys := by
  have q := congrArg (List.map fun v => match v with | V.int i => i | _ => 0) h
  simpa [List.map_map, Function.comp_def] using q
/-- what number_of tells of a row -/
def Told (xs : List V) (v : V) : Prop := (∃ ds, Num ds ∧ xs = (rowL ds).map V.int ∧ v = .str (numS ds)) ∨ ((∀ ds, Num ds → xs ≠ (rowL ds).map V.int) ∧ v = .non)
theorem Told.uniq {xs : List V} {v u : V} (a : Told xs v) (b : Told xs u) : v = u := by
  rcases a with ⟨ds, N, e, rfl⟩ | ⟨n, rfl⟩
  · rcases b with ⟨es, M, f, rfl⟩ | ⟨n, _⟩
    · rw [row_inj N M (e.symm.trans f)]
    · exact absurd e (n ds N)
  · rcases b with ⟨es, M, f, rfl⟩ | ⟨_, rfl⟩
    · exact absurd f (n es M)
    · rfl
theorem Told.row {ds : List Nat} {v : V} (N : Num ds) (a : Told ((rowL ds).map V.int) v) : v = .str (numS ds) := a.uniq (.inl ⟨ds, N, rfl, rfl⟩)
end Wm

/-! Things as data: what may be asked whether it is a number. -/
namespace Wm
open PySem L2 TL
structure Tx (t : Str) : Prop where
  len : t.length ≤ 100
  asc : ∀ c ∈ tl t, c < 128
inductive Tg : PyData → Prop
  | int {i : Int} : i.natAbs < 1000000000000000000000 → Tg (.int i)
  | bl (b : Bool) : Tg (.bool b)
  | non : Tg .none
  | str {t : Str} : Tx t → Tg (.str t)
  | lst {ts : List Str} : (∀ t ∈ ts, Tx t) → ts.length ≤ 100 → Tg (.list (ts.map .str))
  | tup {ts : List Str} : (∀ t ∈ ts, Tx t) → ts.length ≤ 100 → Tg (.tuple (ts.map .str))
structure Ob (K : PySem.W.Frag) (H : Hp) (x : V) (d : PyData) : Prop where
  dp : Dp K H x d
  tg : Tg d
theorem dp_strs {K : PySem.W.Frag} {H H' : Hp} : ∀ {xs : List V} {ts : List Str}, DpAll K H xs (ts.map PyData.str) → xs = ts.map V.str ∧ DpAll K H' (ts.map V.str) (ts.map PyData.str)
  | _, [], h => by cases h; exact ⟨rfl, .nil⟩
  | _, t :: ts, h => by
    cases h with
    | cons a b =>
      cases a
      obtain ⟨e, g⟩ := dp_strs (H' := H') (ts := ts) b
      subst e
      exact ⟨rfl, .cons (.str t) g⟩
theorem dp_strs' {K : PySem.W.Frag} {H : Hp} : ∀ ts : List Str, DpAll K H (ts.map V.str) (ts.map PyData.str)
  | [] => .nil
  | t :: ts => .cons (.str t) (dp_strs' ts)
theorem Ob.move {K : PySem.W.Frag} {H H' : Hp} {x : V} {d : PyData} (h : Ob K H x d) (f : ∀ p o, x = .ref p → H p = some o → (∀ ts : List Str, o = .lst (ts.map V.str) → H' p = some o) ∧ (∀ ts : List Str, o = .tup (ts.map V.str) → H' p = some o) ∧ (∀ ob u, o = .frz ob u → H' p = some o)) : Ob K H' x d := by
  obtain ⟨h, t⟩ := h
  cases t with
  | int q => cases h; exact ⟨.int _, .int q⟩
  | bl b => cases h; exact ⟨.bl _, .bl b⟩
  | non => cases h; exact ⟨.non, .non⟩
  | str q => cases h; exact ⟨.str _, .str q⟩
  | lst q l =>
    cases h with
    | lst s a =>
      obtain ⟨e, g⟩ := dp_strs (H' := H') a
      subst e
      refine ⟨.lst ?_ g, .lst q l⟩
      rcases s with (s | ⟨o, s⟩) | s
      · exact .inl (.inl ((f _ _ rfl s).1 _ rfl))
      · exact .inl (.inr ⟨o, (f _ _ rfl s).2.2 _ _ rfl⟩)
      · exact .inr s
  | tup q l =>
    cases h with
    | tup s a =>
      obtain ⟨e, g⟩ := dp_strs (H' := H') a
      subst e
      refine ⟨.tup ?_ g, .tup q l⟩
      rcases s with (s | ⟨o, s⟩) | s
      · exact .inl (.inl ((f _ _ rfl s).2.1 _ rfl))
      · exact .inl (.inr ⟨o, (f _ _ rfl s).2.2 _ _ rfl⟩)
      · exact .inr s
theorem Ob.keep {K : PySem.W.Frag} {H H' : Hp} {x : V} {d : PyData} (e : Same H H') (h : Ob K H x d) : Ob K H' x d :=
  h.move fun p o _ q => ⟨fun _ _ => e _ _ q, fun _ _ => e _ _ q, fun _ _ _ => e _ _ q⟩
theorem Ob.but {K : PySem.W.Frag} {H H' : Hp} {x : V} {d : PyData} {b : Addr} {n : Nat} (bag : Bag H b n) (e : But b H H') (h : Ob K H x d) : Ob K H' x d := by
  obtain ⟨c, i, k, m, z, ns, hb, _⟩ := bag
  refine h.move fun p o _ q => ?_
  by_cases pb : p = b
  · subst pb
    rw [hb] at q
    have q := Option.some.inj q
    subst q
    refine ⟨fun ts f => ?_, fun ts f => (by cases f), fun ob u f => (by cases f)⟩
    cases ts with
    | nil => simp at f
    | cons t ts => simp at f
  · exact ⟨fun _ _ => e _ _ pb q, fun _ _ => e _ _ pb q, fun _ _ _ => e _ _ pb q⟩
theorem tx_lay {t : Str} (h : Tx t) : PyData.leavesShort 13 (.str t) = true ∧ PyData.weight (.str t) ≤ 100 := by
  refine ⟨?_, h.len⟩
  show (t.cps.toList.all fun c => decide (c < 16 ^ 8)) = true
  rw [List.all_eq_true]
  intro c m
  have := h.asc c m
  exact decide_eq_true (by omega)
theorem strs_lay : ∀ {ts : List Str}, (∀ t ∈ ts, Tx t) → PyData.leavesShortAll 13 (ts.map .str) = true ∧ PyData.weightAll (ts.map .str) ≤ 101 * ts.length ∧ PyData.showableAll (ts.map .str) = true ∧ PyData.hasDictAll (ts.map .str) = false ∧ PyData.depthAll (ts.map .str) = 0 ∧ PyData.plainAll (ts.map .str) = true
  | [], _ => by simp [PyData.leavesShortAll, PyData.weightAll, PyData.showableAll, PyData.hasDictAll, PyData.depthAll, PyData.plainAll]
  | t :: ts, h => by
    have h1 := tx_lay (h t (by simp))
    have h2 := strs_lay (ts := ts) fun y m => h y (List.mem_cons_of_mem _ m)
    obtain ⟨a1, a2⟩ := h1
    obtain ⟨b1, b2, b3, b4, b5, b6⟩ := h2
    simp only [List.map_cons, PyData.leavesShortAll, PyData.weightAll, PyData.showableAll, PyData.hasDictAll, PyData.depthAll, PyData.plainAll, a1, b1, b3, b4, b5, b6, PyData.showable, PyData.hasDict, PyData.depth, PyData.plain, Bool.and_self, Bool.or_self, true_and, List.length_cons, and_true, Nat.max_self]
    omega
structure Shows (d : PyData) : Prop where
  sh : d.showable = true
  nd : d.hasDict = false
  dep : d.depth ≤ 60
  fit : d.shown.length ≤ sizeLine
theorem tg_shows {d : PyData} (t : Tg d) : Shows d := by
  cases t with
  | @int i h =>
    have hl : i.natAbs.log2 < 70 ∨ i = 0 := by
      by_cases z : i = 0
      · exact .inr z
      · exact .inl ((Nat.log2_lt (by omega)).mpr (by omega))
    refine ⟨decide_eq_true ?_, rfl, Nat.zero_le _, Nat.le_trans (by rw [show (PyData.int i).shown = Str.ofString (toString i) from rfl, ofString_length]; exact int_text_length_le10 (k := 21) (by decide) h) (by decide)⟩
    rcases hl with z | z
    · omega
    · subst z; decide
  | bl b => exact ⟨rfl, rfl, Nat.zero_le _, by cases b <;> decide +kernel⟩
  | non => exact ⟨rfl, rfl, Nat.zero_le _, by decide +kernel⟩
  | str h =>
    have q := tx_lay h
    exact ⟨rfl, rfl, Nat.zero_le _, PyData.shown_fits (B := 13) (by decide) (by decide) q.1 (Nat.le_trans q.2 (by decide))⟩
  | lst h l =>
    obtain ⟨b1, b2, b3, b4, b5, b6⟩ := strs_lay h
    exact ⟨b3, b4, by simp only [PyData.depth, b5]; decide, PyData.shown_fits (B := 13) (by decide) (by decide) b1 (Nat.le_trans b2 (by omega))⟩
  | tup h l =>
    obtain ⟨b1, b2, b3, b4, b5, b6⟩ := strs_lay h
    exact ⟨b3, b4, by simp only [PyData.depth, b5]; decide, PyData.shown_fits (B := 13) (by decide) (by decide) b1 (Nat.le_trans b2 (by omega))⟩
/-- a number's text -/
def IsN (x : V) : Prop := ∃ ds, Num ds ∧ x = .str (numS ds)
/-- what isinstance asks of a thing: a text, or no text -/
theorem tys_of {K : PySem.W.Frag} {H : Hp} {x : V} {d : PyData} (h : Ob K H x d) : ∃ (n : String) (b : Bool), TyX K H x (.type n) ∧ PySem.W.kitOne K (.type n) (.type "str") = some b ∧ (b = true → ∃ t, x = .str t ∧ d = .str t ∧ Tx t) ∧ (b = false → ¬ IsN x) := by
  obtain ⟨h, t⟩ := h
  cases t with
  | int _ => cases h; exact ⟨"int", false, .base (.int _), kit_ty (by decide +kernel), (fun z => by cases z), fun _ ⟨ds, _, e⟩ => by cases e⟩
  | bl b => cases h; exact ⟨"bool", false, .base (.bl _), kit_ty (by decide +kernel), (fun z => by cases z), fun _ ⟨ds, _, e⟩ => by cases e⟩
  | non => cases h; exact ⟨"NoneType", false, .base .non, kit_ty (by decide +kernel), (fun z => by cases z), fun _ ⟨ds, _, e⟩ => by cases e⟩
  | str q => cases h; exact ⟨"str", true, .base (.str _), kit_ty (by decide +kernel), fun _ => ⟨_, rfl, rfl, q⟩, fun z => by cases z⟩
  | lst _ _ =>
    cases h with
    | lst q a =>
      rcases q with (q | ⟨o, q⟩) | q
      · exact ⟨"list", false, .base (.lst q), kit_ty (by decide +kernel), (fun z => by cases z), fun _ ⟨ds, _, e⟩ => by cases e⟩
      · exact ⟨"list", false, .base (.frz q), kit_ty (by decide +kernel), (fun z => by cases z), fun _ ⟨ds, _, e⟩ => by cases e⟩
      · obtain ⟨o, xs, n, e, c, _⟩ := q
        exact ⟨"list", false, .kList e c, kit_ty (by decide +kernel), (fun z => by cases z), fun _ ⟨ds, _, e⟩ => by cases e⟩
  | tup _ _ =>
    cases h with
    | tup q a =>
      rcases q with (q | ⟨o, q⟩) | q
      · exact ⟨"tuple", false, .base (.tup q), kit_ty (by decide +kernel), (fun z => by cases z), fun _ ⟨ds, _, e⟩ => by cases e⟩
      · exact ⟨"tuple", false, .fTuple q, kit_ty (by decide +kernel), (fun z => by cases z), fun _ ⟨ds, _, e⟩ => by cases e⟩
      · obtain ⟨o, xs, n, e, c, _⟩ := q
        exact ⟨"tuple", false, .kTuple e c, kit_ty (by decide +kernel), (fun z => by cases z), fun _ ⟨ds, _, e⟩ => by cases e⟩
theorem ob_num {K : PySem.W.Frag} {H : Hp} {ds : List Nat} (N : Num ds) : Ob K H (.str (numS ds)) (.str (numS ds)) :=
  ⟨.str _, .str ⟨by rw [numS_len]; have := N.len; omega, fun c m => by
    have m : c ∈ codes ds := m
    obtain ⟨d, md, rfl⟩ := List.mem_map.mp m
    have := (N.dig d md).2
    omega⟩⟩
theorem isN_str {t : Str} : IsN (.str t) ↔ IsNum t := ⟨fun ⟨ds, N, e⟩ => ⟨ds, N, V.str.inj e⟩, fun ⟨ds, N, e⟩ => ⟨ds, N, by rw [e]⟩⟩
theorem fresh_but {b p : Addr} {H H' : Hp} {n : Nat} (bag : Bag H b n) (e : But b H H') (f : H' p = none) : H p = none := by
  cases q : H p with
  | none => rfl
  | some o =>
    by_cases pb : p = b
    · obtain ⟨c, x, k, m, z, ns, h, _⟩ := bag
      obtain ⟨x', k', m', z', g⟩ := e.cel c ⟨x, k, m, z, h⟩
      rw [pb, g] at f
      cases f
    · rw [e.keep p o pb q] at f
      cases f
end Wm

/-! Data of ints, texts and tuples of such; what keeps them. -/
namespace Dv
open PySem L2 Wm
mutual
inductive Dt (K : PySem.W.Frag) (H : Hp) : V → PyData → Prop
  | int (i : Int) : Dt K H (.int i) (.int i)
  | str (x : Str) : Dt K H (.str x) (.str x)
  | tup {a : Addr} {xs : List V} {ds : List PyData} : SqT K H a xs → Dts K H xs ds → Dt K H (.ref a) (.tuple ds)
inductive Dts (K : PySem.W.Frag) (H : Hp) : List V → List PyData → Prop
  | nil : Dts K H [] []
  | cons {v : V} {vs : List V} {d : PyData} {ds : List PyData} : Dt K H v d → Dts K H vs ds → Dts K H (v :: vs) (d :: ds)
end
/-- tuples stand -/
def Kt (K : PySem.W.Frag) (H H' : Hp) : Prop := ∀ a xs, SqT K H a xs → SqT K H' a xs
section
variable {K : PySem.W.Frag} {H H' H2 : Hp}
theorem Kt.refl : Kt K H H := fun _ _ h => h
theorem Kt.trans (a : Kt K H H') (b : Kt K H' H2) : Kt K H H2 := fun p xs h => b p xs (a p xs h)
theorem Kt.same (s : Same H H') : Kt K H H' := fun _ _ h => sameT s h
/-- a store at what is no tuple -/
theorem Kt.set {p : Addr} {o u : HO} (h : H p = some u) (n1 : ∀ xs, u ≠ .tup xs) (n2 : ∀ ob xs, u ≠ .frz ob (.tup xs)) : Kt K H (upd H p o) := fun a xs q => by
  rcases q with (q | ⟨ob, q⟩) | q
  · exact .inl (.inl (by rw [upd_ne (fun e => by subst e; rw [h] at q; exact n1 _ (Option.some.inj q))]; exact q))
  · exact .inl (.inr ⟨ob, by rw [upd_ne (fun e => by subst e; rw [h] at q; exact n2 _ _ (Option.some.inj q))]; exact q⟩)
  · exact .inr q
theorem Kt.lst {p : Addr} {o : HO} {xs : List V} (h : H p = some (.lst xs)) : Kt K H (upd H p o) := Kt.set h (fun _ q => by cases q) (fun _ _ q => by cases q)
theorem Kt.new {p : Addr} {o : HO} (h : H p = none) : Kt K H (upd H p o) := Kt.same (same_new h)
mutual
theorem Dt.keep (k : Kt K H H') : ∀ (d : PyData) (v : V), Dt K H v d → Dt K H' v d
  | .int _, _, h => by cases h; exact .int _
  | .str _, _, h => by cases h; exact .str _
  | .tuple ds, _, h => by
    cases h with
    | tup a b => exact .tup (k _ _ a) (Dts.keep k ds _ b)
  | .none, _, h => by cases h
  | .bool _, _, h => by cases h
  | .list _, _, h => by cases h
  | .dict _, _, h => by cases h
theorem Dts.keep (k : Kt K H H') : ∀ (ds : List PyData) (vs : List V), Dts K H vs ds → Dts K H' vs ds
  | [], _, h => by cases h; exact .nil
  | d :: ds, _, h => by
    cases h with
    | cons a b => exact .cons (Dt.keep k d _ a) (Dts.keep k ds _ b)
end
mutual
theorem Dt.dp : ∀ (d : PyData) (v : V), Dt K H v d → Dp K H v d
  | .int _, _, h => by cases h; exact .int _
  | .str _, _, h => by cases h; exact .str _
  | .tuple ds, _, h => by
    cases h with
    | tup a b => exact .tup a (Dts.dp ds _ b)
  | .none, _, h => by cases h
  | .bool _, _, h => by cases h
  | .list _, _, h => by cases h
  | .dict _, _, h => by cases h
theorem Dts.dp : ∀ (ds : List PyData) (vs : List V), Dts K H vs ds → DpAll K H vs ds
  | [], _, h => by cases h; exact .nil
  | d :: ds, _, h => by
    cases h with
    | cons a b => exact .cons (Dt.dp d _ a) (Dts.dp ds _ b)
end
theorem Dt.k {d : PyData} {v : V} (h : Dt K H v d) (k : Kt K H H') : Dt K H' v d := Dt.keep k _ _ h
theorem Dts.k {ds : List PyData} {vs : List V} (h : Dts K H vs ds) (k : Kt K H H') : Dts K H' vs ds := Dts.keep k _ _ h
theorem Dt.toDp {d : PyData} {v : V} (h : Dt K H v d) : Dp K H v d := Dt.dp _ _ h
theorem Dts.toDp {ds : List PyData} {vs : List V} (h : Dts K H vs ds) : DpAll K H vs ds := Dts.dp _ _ h
theorem Dt.inv {ds : List PyData} {v : V} (h : Dt K H v (.tuple ds)) : ∃ p xs, v = .ref p ∧ SqT K H p xs ∧ Dts K H xs ds := by
  cases h with
  | tup a b => exact ⟨_, _, rfl, a, b⟩
theorem Dt.str_inv {x : Str} {v : V} (h : Dt K H v (.str x)) : v = .str x := by cases h; rfl
theorem Dt.int_inv {i : Int} {v : V} (h : Dt K H v (.int i)) : v = .int i := by cases h; rfl
theorem Dts.len {ds : List PyData} {vs : List V} (h : Dts K H vs ds) : vs.length = ds.length := by
  induction ds generalizing vs with
  | nil => cases h; rfl
  | cons d ds ih =>
    cases h with
    | cons a b => rw [List.length_cons, List.length_cons, ih b]
theorem Dts.at {i : Nat} {ds : List PyData} {vs : List V} {v : V} (h : Dts K H vs ds) (g : vs[i]? = some v) : ∃ d, ds[i]? = some d ∧ Dt K H v d := by
  induction ds generalizing vs i with
  | nil =>
    cases h
    simp at g
  | cons d ds ih =>
    cases h with
    | cons a b =>
      cases i with
      | zero =>
        simp at g
        subst g
        exact ⟨d, rfl, a⟩
      | succ i => exact ih b (by simpa using g)
theorem Dts.get {i : Nat} {ds : List PyData} {vs : List V} {d : PyData} (h : Dts K H vs ds) (g : ds[i]? = some d) : ∃ v, vs[i]? = some v ∧ Dt K H v d := by
  have li := (List.getElem?_eq_some_iff.mp g).1
  obtain ⟨v, e⟩ : ∃ v, vs[i]? = some v := ⟨_, List.getElem?_eq_getElem (by rw [h.len]; exact li)⟩
  obtain ⟨d2, e2, a⟩ := h.at e
  rw [g] at e2
  cases e2
  exact ⟨v, e, a⟩
theorem Dts.app {ds es : List PyData} {vs ws : List V} (h : Dts K H vs ds) (g : Dts K H ws es) : Dts K H (vs ++ ws) (ds ++ es) := by
  induction ds generalizing vs with
  | nil => cases h; exact g
  | cons d ds ih =>
    cases h with
    | cons a b => exact .cons a (ih b)
theorem Dts.snoc {ds : List PyData} {d : PyData} {vs : List V} {v : V} (h : Dts K H vs ds) (g : Dt K H v d) : Dts K H (vs ++ [v]) (ds ++ [d]) := h.app (.cons g .nil)
theorem Dts.take {ds : List PyData} {vs : List V} (h : Dts K H vs ds) : ∀ n, Dts K H (vs.take n) (ds.take n) := by
  induction ds generalizing vs with
  | nil => cases h; intro n; simp; exact .nil
  | cons d ds ih =>
    cases h with
    | cons a b =>
      intro n
      cases n with
      | zero => exact .nil
      | succ n => exact .cons a (ih b n)
theorem Dts.drop {ds : List PyData} {vs : List V} (h : Dts K H vs ds) : ∀ n, Dts K H (vs.drop n) (ds.drop n) := by
  induction ds generalizing vs with
  | nil => cases h; intro n; simp; exact .nil
  | cons d ds ih =>
    cases h with
    | cons a b =>
      intro n
      cases n with
      | zero => exact .cons a b
      | succ n => exact ih b n
theorem dts_str : ∀ ss : List Str, Dts K H (ss.map V.str) (ss.map PyData.str)
  | [] => .nil
  | s :: ss => .cons (.str s) (dts_str ss)
theorem dts_str_inv {ss : List Str} {vs : List V} (h : Dts K H vs (ss.map PyData.str)) : vs = ss.map V.str := by
  induction ss generalizing vs with
  | nil => cases h; rfl
  | cons s ss ih =>
    cases h with
    | cons a b => rw [a.str_inv, ih b]; rfl
theorem dts_int : ∀ ns : List Int, Dts K H (ns.map V.int) (ns.map PyData.int)
  | [] => .nil
  | s :: ss => .cons (.int s) (dts_int ss)
theorem dts_int_inv {ns : List Int} {vs : List V} (h : Dts K H vs (ns.map PyData.int)) : vs = ns.map V.int := by
  induction ns generalizing vs with
  | nil => cases h; rfl
  | cons s ss ih =>
    cases h with
    | cons a b => rw [a.int_inv, ih b]; rfl
theorem dt_tup {p : Addr} {xs : List V} {ds : List PyData} (h : H p = some (.tup xs)) (g : Dts K H xs ds) : Dt K H (.ref p) (.tuple ds) := .tup (SqT.of h) g
end
/-- data that == may be asked of: texts in the line, not deep -/
def Fine (n : Nat) (d : PyData) : Prop := d.canLay0 = true ∧ d.depth ≤ n
theorem fine_int {n : Nat} (i : Int) : Fine n (.int i) := ⟨by simp [PyData.canLay0], by simp [PyData.depth]⟩
theorem fine_tup {n : Nat} {ds : List PyData} (h : ∀ d ∈ ds, Fine n d) : Fine (n + 1) (.tuple ds) := by
  have q : PyData.canLayAll0 ds = true ∧ PyData.depthAll ds ≤ n := by
    induction ds with
    | nil => simp [PyData.canLayAll0, PyData.depthAll]
    | cons d ds ih =>
      have h1 := h d (by simp)
      have h2 := ih fun y m => h y (List.mem_cons_of_mem _ m)
      simp only [PyData.canLayAll0, PyData.depthAll, h1.1, h2.1, Bool.and_self, true_and]
      have := h1.2
      have := h2.2
      omega
  exact ⟨by simp only [PyData.canLay0]; exact q.1, by simp only [PyData.depth]; have := q.2; omega⟩
theorem fine_str {n : Nat} {x : Str} (h : x.cps.all (· < 0x110000) = true) : Fine n (.str x) := ⟨by simp only [PyData.canLay0]; exact h, by simp [PyData.depth]⟩
theorem fine_num {n : Nat} {ds : List Nat} (h : ∀ d ∈ ds, d ≤ 9) : Fine n (.str (numS ds)) := by
  refine fine_str ?_
  rw [← Array.all_toList, List.all_eq_true]
  intro c m
  obtain ⟨d, md, rfl⟩ := List.mem_map.mp (show c ∈ codes ds from m)
  have := h d md
  exact decide_eq_true (by omega)
theorem Fine.shaped {n : Nat} {d : PyData} (h : Fine n d) (l : n ≤ 64) : SeqAt.shaped d = true := by
  have e : decide (d.depth ≤ 64) = true := decide_eq_true (Nat.le_trans h.2 l)
  show (d.canLay0 && _) = true
  rw [e, Bool.and_true]
  exact h.1
theorem Fine.refl {n : Nat} {d : PyData} (h : Fine n d) : PyData.eqv d d = true := SeqAt.eqv_refl d h.1
theorem Fine.mono {n m : Nat} {d : PyData} (h : Fine n d) (l : n ≤ m) : Fine m d := ⟨h.1, Nat.le_trans h.2 l⟩
end Dv

/-! Comprehensions whose items are told one by one. -/
namespace Lm
open PySem L2 Wm Dv
theorem list_is {α : Type} {ys zs : List α} (l : ys.length = zs.length) (h : ∀ (i : Nat) y, ys[i]? = some y → zs[i]? = some y) : ys = zs := by
  refine List.ext_getElem? fun i => ?_
  by_cases q : i < ys.length
  · rw [h i _ (List.getElem?_eq_getElem q), List.getElem?_eq_getElem q]
  · rw [List.getElem?_eq_none (by omega), List.getElem?_eq_none (by omega)]
theorem lc_map {K : PySem.W.Frag} {J : It} {n : Nat} {G : Hp → Prop} {xs : List V} (w : Walk J n G (YAt xs)) {g : TG} {te : TE} {vs : List Nat} {σ : L2.St} {H1 : Hp} {D : Addr} {Qd : Hp → Prop} (R : Nat → V → Hp → Prop)
    (mono : ∀ i y H H', R i y H → Kt K H H' → R i y H') (hD : H1 D = none) (hn : n ≤ 1000) (hG : ∀ H', Same H1 H' → G H')
    (hs : ∀ i x H', i < n → xs[i]? = some x → Same H1 H' → ∀ (Q : V → Hp → Prop) (Z : Hp → Prop), (∀ y H4, Same H' H4 → R i y H4 → Q y H4) → g x (wipe σ vs) H' fun σ2 H2 => wipe σ2 vs = wipe σ vs ∧ tYes σ2 H2 fun b H3 => if b = true then te σ2 H3 Q else Z H3)
    (hd : ∀ H ys, Same H1 H → H D = some (.lst ys) → ys.length = n → (∀ (i : Nat) y, ys[i]? = some y → R i y H) → Qd H) :
    ∃ W : Nat → Nat → Hp → Prop, (∃ m, W 0 m (upd H1 D (.lst []))) ∧ ∀ i m H, W i m H →
      (J.stop i H ∧ Qd H) ∨ (J.go i H ∧ ∃ Nx : Hp → Prop, (∀ H', Nx H' → ∃ m', m' < m ∧ W (i + 1) m' H') ∧ ∀ x H', J.yld i H x H' → g x (wipe σ vs) H' fun σ2 H2 => wipe σ2 vs = wipe σ vs ∧ tYes σ2 H2 fun b H3 =>
        if b = true then te σ2 H3 fun y H4 => ∃ acc, H4 D = some (.lst acc) ∧ acc.length < sizeLine ∧ Nx (upd H4 D (.lst (acc ++ [y]))) else Nx H3) := by
  refine lc_it (tt := tYes) w (fun i H => Same H1 H ∧ ∃ ys : List V, ys.length = i ∧ H D = some (.lst ys) ∧ ∀ j y, ys[j]? = some y → R j y H) ⟨same_new hD, [], rfl, upd_same, fun (j : Nat) (y : V) e => by simp at e⟩ (fun i H _ h => hG H h.1) (fun i x H H' hi hP hY => ?_) (fun H hP => ?_)
  · obtain ⟨sm, ys, el, hy, hR⟩ := hP
    obtain ⟨rfl, hx⟩ := hY
    refine hs i x H' hi hx sm _ _ (fun y H4 s4 r4 => ?_)
    · refine ⟨ys, s4 _ _ hy, by rw [el]; exact small1000 (by omega), same_mut (sm.trans s4) hD, ys ++ [y], by rw [List.length_append, el]; rfl, upd_same, fun j z hz => ?_⟩
      have k5 : Kt K H4 (upd H4 D (.lst (ys ++ [y]))) := Kt.lst (s4 _ _ hy)
      by_cases lj : j < ys.length
      · rw [List.getElem?_append_left lj] at hz
        exact mono _ _ _ _ (hR j z hz) ((Kt.same s4).trans k5)
      · rw [List.getElem?_append_right (by omega)] at hz
        have e0 : j - ys.length = 0 := by
          by_cases q : j - ys.length = 0
          · exact q
          · rw [List.getElem?_eq_none (by rw [List.length_singleton]; omega)] at hz
            cases hz
        rw [e0] at hz
        have ez : y = z := by simpa using hz
        have ej : j = i := by omega
        subst ez ej
        exact mono _ _ _ _ r4 k5
  · obtain ⟨sm, ys, el, hy, hR⟩ := hP
    exact hd H ys sm hy el hR
end Lm
namespace Kx
open PySem L2
def rLen (K : PySem.W.Frag) : List V → Hp → VK → Prop := fun xs H Q => ∃ p ys, xs = [.ref p] ∧ (SqL K H p ys ∨ SqT K H p ys) ∧ Q (.int (ys.length : Nat)) H
def rTup (K : PySem.W.Frag) : List V → Hp → VK → Prop := fun xs H Q => ∃ a ys, xs = [.ref a] ∧ SqT K H a ys ∧ Q (.ref a) H
def rTupOf (K : PySem.W.Frag) : List V → Hp → VK → Prop := fun xs H Q => ∃ p ys, xs = [.ref p] ∧ ((SqL K H p ys ∧ ∀ l, H l = none → Q (.ref l) (upd H l (.tup ys))) ∨ (SqT K H p ys ∧ Q (.ref p) H))
end Kx

/-! A list or a tuple, told by a letter; loops over it that may write elsewhere. -/
namespace Kd
open PySem PySem.Spec PyProof.Rows L2
/-- the list or (t) the tuple at a -/
def Is (K : PySem.W.Frag) (t : Bool) (H : Hp) (a : Addr) (xs : List V) : Prop := if t = true then SqT K H a xs else SqL K H a xs
theorem Is.keep {K : PySem.W.Frag} {t : Bool} {H H' : Hp} {a : Addr} {xs : List V} (s : Same H H') (h : Is K t H a xs) : Is K t H' a xs := by
  cases t
  · exact Hf.keepL s h
  · exact Hf.keepT s h
theorem Is.sq {K : PySem.W.Frag} {t : Bool} {H : Hp} {a : Addr} {xs : List V} (h : Is K t H a xs) : SqL K H a xs ∨ SqT K H a xs := by
  cases t
  · exact .inl h
  · exact .inr h
theorem Is.tup {K : PySem.W.Frag} {H : Hp} {a : Addr} {xs : List V} (h : SqT K H a xs) : Is K true H a xs := h
theorem Is.lst {K : PySem.W.Frag} {H : Hp} {a : Addr} {xs : List V} (h : SqL K H a xs) : Is K false H a xs := h
section
variable {X : Cx}
def iSeq (K : PySem.W.Frag) (tl : TE) : TI := fun σ H R => tl σ H fun x H1 => ∃ a xs t, x = .ref a ∧ Is K t H1 a xs ∧
  ∀ J G, Walk J xs.length G (YAt xs) → (∀ H', Is K t H' a xs → G H') → R J H1
theorem pi_seq {tg l : Expr} {tl : TE} (hl : PE X l tl) : PI X tg l (iSeq X.K tl) := by
  refine ⟨fun pins s σ H R I h => ?_⟩
  refine thn (hl.run pins s σ H _ I h) fun v s1 ⟨x, H1, I1, r1, q1⟩ => ?_
  obtain ⟨a, xs, t, e, hq, q⟩ := q1
  subst e
  cases r1
  cases t with
  | false =>
    have hq : SqL X.K H1 a xs := hq
    have q := q _ _ walk_list fun H' s => s
    obtain ⟨its, rv, p, hz⟩ := I1.list hq
    refine wpAny_pyIter_list p.isList ?_
    refine ⟨s1.heap.objs.size, [s1.heap.objs.size], _, _, H1, rfl, I1.kept (t' := s1.toks) fun b o e => Heap.get?_push_of_some _ e, turn_list a _, ⟨_, Heap.get?_push_size _ rfl, rfl, rfl⟩, fun b hb => ?_, q⟩
    have e : b = s1.heap.objs.size := by simpa using hb
    subst e
    exact I1.fpOk (Nat.le_refl _) (I1.hok.fresh (Nat.le_refl _))
  | true =>
    have hq : SqT X.K H1 a xs := hq
    have q := q _ _ walk_tup fun H' s => s
    obtain ⟨its, rv, p, hz⟩ := I1.tuple hq
    refine wpAny_pyIter_tuple (show s1.heap.IsTuple a its.toArray from p) ?_
    refine ⟨s1.heap.objs.size, [s1.heap.objs.size], _, _, H1, rfl, I1.kept (t' := s1.toks) fun b o e => Heap.get?_push_of_some _ e, turn_tuple a _, ⟨_, Heap.get?_push_size _ rfl, rfl, rfl⟩, fun b hb => ?_, q⟩
    have e : b = s1.heap.objs.size := by simpa using hb
    subst e
    exact I1.fpOk (Nat.le_refl _) (I1.hok.fresh (Nat.le_refl _))
end
end Kd

/-! len(set(xs)) of a list of texts: how many different ones. -/
namespace Sl
open PySem PySem.Spec PyProof.Rows
section
variable {prog : Program} {w : World} {A : Around} {E : Value → Shared → Prop} {s : Shared}
/-- c different ones among the first i: c = i just if they differ -/
def Cnt (xs : List Str) (i c : Nat) : Prop := c ≤ i ∧ (c = i ↔ (xs.take i).Nodup)
theorem cnt_zero (xs : List Str) : Cnt xs 0 0 := ⟨Nat.le_refl _, by simp⟩
theorem cnt_succ {xs : List Str} {i c : Nat} {x : Str} (h : Cnt xs i c) (hx : xs[i]? = some x) : Cnt xs (i + 1) (if decide (x ∈ xs.take i) = true then c else c + 1) := by
  obtain ⟨h1, h2⟩ := h
  have e : xs.take (i + 1) = xs.take i ++ [x] := by rw [List.take_add_one, hx]; rfl
  by_cases m : x ∈ xs.take i
  · rw [decide_eq_true m, if_pos rfl]
    refine ⟨by omega, ⟨fun z => absurd z (by omega), fun z => ?_⟩⟩
    rw [e, List.nodup_append] at z
    exact absurd rfl (z.2.2 x m x (by simp))
  · rw [decide_eq_false m, if_neg (by decide)]
    refine ⟨by omega, ?_⟩
    rw [e, List.nodup_append]
    constructor
    · intro z
      refine ⟨h2.mp (by omega), by simp, fun a ha b hb q => m ?_⟩
      rw [List.mem_singleton] at hb
      rw [← hb, ← q]
      exact ha
    · intro z
      have := h2.mpr z.1
      omega
abbrev so (led : Bool) : Obj := { cls := .type "set", dict := none, data := .set #[] 0 (.fresh 0 0 led) }
theorem at_keep {h h' : Heap} {S : Addr} {f : Str → Bool} {n : Nat} (R : h.SetOf (PySem.strKind prog w) S f n) (k : ∀ o, h.get? S = some o → h'.get? S = some o) : h'.SetOf (PySem.strKind prog w) S f n := by
  obtain ⟨o, es, ep, t, ho, r⟩ := R
  exact ⟨o, es, ep, t, k _ ho, r⟩
theorem fill {R : Result → Shared → Prop} {I : Addr} {fp wr : List Addr} {G : Array GenState → Array GenState → Prop} {n : Nat} {P : Nat → Value → Prop} {St : Nat → Shared → Prop}
    (W : WalksS prog w A.in1 I fp wr G n P St) (S : Addr) (hSf : S ∉ fp) (xs : List Str) (hsz : xs.length = n) (hb : n + 1 < scanBound) (hval : ∀ i v, P i v → ∃ x t, xs[i]? = some x ∧ v = .str x t) :
    ∀ (k i : Nat) (s : Shared), n - i = k → i ≤ n → St i s → (∃ c, Cnt xs i c ∧ s.heap.SetOf (PySem.strKind prog w) S (fun y => decide (y ∈ xs.take i)) c) →
      (∀ s' c, Moved (S :: wr) G s s' → Cnt xs n c → s'.heap.SetOf (PySem.strKind prog w) S (fun y => decide (y ∈ xs.take n)) c → R (.ok (.ret .none)) s') →
      codeAny (model prog w) A (.builtin "set.update.loop" ⟨[.ref S, .ref I], []⟩) R s := by
  have nw : S ∉ wr := fun h => hSf (W.sub _ h)
  have more : ∀ b ∈ wr, b ∈ S :: wr := fun b hb => List.mem_cons_of_mem _ hb
  intro k
  induction k with
  | zero =>
    intro i s hk hi st ⟨c, hc, hS⟩ hR
    have e : i = n := by omega
    subst e
    refine codeAny_builtin PyProof.Rows.F.entry_set_update_loop ?_
    rw [Around.under_plainId PyProof.Rows.F.plain_set_update_loop _]
    show wpAny _ A.in1 (pyNext (.ref I) >>= _) _ _ s
    refine wpAny_bind (W.done s _ _ st fun s' hm => ?_)
    show wpAny _ A.in1 (ret Value.none) _ _ s'
    exact wpAny_pure (hR s' c (hm.mono more) hc (at_keep hS fun o e => hm.heap S o nw e))
  | succ k ih =>
    intro i s hk hi st ⟨c, hc, hS⟩ hR
    have lt : i < n := by omega
    refine codeAny_builtin PyProof.Rows.F.entry_set_update_loop ?_
    rw [Around.under_plainId PyProof.Rows.F.plain_set_update_loop _]
    show wpAny _ A.in1 (pyNext (.ref I) >>= _) _ _ s
    refine wpAny_bind (W.item i s _ _ lt st fun v s' hP st' hm => ?_)
    obtain ⟨x, t, hx, rfl⟩ := hval i v hP
    have hS1 := at_keep (h' := s'.heap) hS fun o e => hm.heap S o nw e
    show wpAny _ A.in1 (holding [Value.str x t] (setAdd S (.str x t)) >>= _) _ _ s'
    refine wpAny_bind (wpAny_holding ?_)
    unfold setAdd
    refine wpAny_holding ?_
    refine wpAny_bind ((PySem.strKind prog w).pyHash (k := x) (strKind_is _ _ _ _) ?_)
    refine wpAny_setAddHashed_of (knd := PySem.strKind prog w) (s := { s' with toks := s'.toks + 1 }) (strKind_is _ _ _ _) rfl hS1 (by have := hc.1; omega) fun g same hS2 => ?_
    have hS3 := SetOf_congr (S' := fun y => decide (y ∈ xs.take (i + 1))) hS2 (fun y => by
      rw [List.take_add_one, hx]
      simp [List.mem_append]) rfl
    refine wpAny_pure ⟨plainId_quiet PyProof.Rows.F.plain_set_update_loop _, ih (i + 1) _ (by omega) lt (W.frame _ s' _ _ st' (Nat.le_succ _) fun b hb o e => ?_) ⟨_, cnt_succ hc hx, hS3⟩ fun s2 c2 m2 hc2 hS4 => ?_⟩
    · rw [same.2 b (fun h : b = S => hSf (by rw [← h]; exact hb))]
      exact e
    · refine hR s2 c2 (Moved.trans W.gtrans ((hm.mono more).then_heap (Nat.le_succ _) fun b o hb e => ?_) m2) hc2 hS4
      rw [same.2 b (fun h : b = S => hb (by rw [h]; exact List.mem_cons_self))]
      exact e
set_option maxHeartbeats 3200000 in
theorem set_strs {l : Addr} {its : Array Value} {xs : List Str} {Q : Value → Shared → Prop} (hh : A.handled = none) (hl : s.heap.IsList l its) (hi : PyProof.Rows.StrsAre its.toList xs) (hb : xs.length + 1 < scanBound)
    (q : ∀ (g : Heap) (tk c : Nat), Cnt xs xs.length c → g.SetOf (PySem.strKind prog w) s.heap.objs.size (fun y => decide (y ∈ xs.take xs.length)) c → (∀ b o, b < s.heap.objs.size → s.heap.get? b = some o → g.get? b = some o) → Q (.ref s.heap.objs.size) { s with heap := g, toks := tk }) :
    wpAny (model prog w) A (call (.type "set") [.ref l]) Q E s := by
  obtain ⟨c0, tl0, m0⟩ := PySem.F.called_set.mro
  have a1 := PySem.F.called_set.made
  have a2 := PySem.F.called_set.sub
  refine wpAny_call (codeAny_of_tree ?_)
  show wpAny _ _ (callAny (.type "set") _) _ _ _
  refine wpAny_pure ⟨Code.quiet_builtin _ (by decide +kernel), codeAny_builtin PySem.F.entry_type_call ?_⟩
  rw [Around.under_plain (weight_type_call_type "set" [.ref l] []) rfl]
  have a3 := PySem.F.called_set.notType
  have a4 := PySem.F.called_set.canCreate
  have a5 := PySem.F.typeCall_set_1 (.ref l)
  repeat (any_goals (first | assumption | wp_step))
  refine codeAny_mono (code_set_new_1 (.ref l) (E := E) (Q₁ := fun ob s₁ => ∃ led : Bool, ob = .ref s.heap.objs.size ∧ s₁ = { s with heap := s.heap.push { cls := .type "set", dict := none, data := .set #[] 0 (.fresh 0 0 led) } }) fun led => ⟨led, rfl, rfl⟩) fun r s₁ hr => ?_
  cases r with
  | error e => exact hr
  | ok fl =>
    cases fl with
    | ret ob =>
      obtain ⟨led, rfl, rfl⟩ := hr
      generalize hso : ({ cls := .type "set", dict := none, data := .set #[] 0 (.fresh 0 0 led) } : Obj) = so
      have hfr : so.isFreed = false := by rw [← hso]; rfl
      have b1 : (s.heap.push so).get? s.heap.objs.size = some so := Heap.get?_push_size _ hfr
      have b2 : Shared.TypeIs { s with heap := s.heap.push so } (.ref s.heap.objs.size) "set" := ⟨_, b1, by rw [← hso]⟩
      have b3 := PySem.F.called_set.init.lookup
      have b4 := PySem.F.called_set.init.bind (.ref s.heap.objs.size)
      repeat (any_goals (first | assumption | wp_step))
      refine codeAny_mono (codeAny_call_builtin (R := wants (fun r s₂ => r = .none ∧ ∃ g tk c, s₂ = { s with heap := g, toks := tk } ∧ Cnt xs xs.length c ∧ g.SetOf (PySem.strKind prog w) s.heap.objs.size (fun y => decide (y ∈ xs.take xs.length)) c ∧
          (∀ b o, b < s.heap.objs.size → s.heap.get? b = some o → g.get? b = some o)) E) PySem.F.called_set.init.plain PySem.F.entry_set_init (check_set_init_1 b2 ?_)) fun r₂ s₂ hr₂ => ?_
      · obtain ⟨ol, hol, hcl, nl, hdl⟩ := hl
        obtain ⟨ocls, odict, odata, oslots⟩ := ol
        simp only at hcl hdl
        subst hcl hdl
        have hol' : (s.heap.push so).get? l = some { cls := .type "list", dict := odict, data := .seq its nl, slots := oslots } := Heap.get?_push_of_some _ hol
        have c1 := PySem.F.sub_list_set
        have c2 := PySem.F.sub_list_frozenset
        have c3 : (Value.type "list" == Value.type "dict") = false := by decide
        have hl1 : (s.heap.push so).IsList l its := ⟨_, hol', rfl, nl, rfl⟩
        unfold Builtin.«set.__init__» noKeywords Builtin.Frozenset.updateFrom
        generalize hPI : pyIter = PI
        have ll : l < s.heap.objs.size := Heap.lt_size hol
        have nI : ∀ ob : Obj, l ≠ (s.heap.push ob).objs.size := fun ob => by
          rw [Heap.size_push]
          exact Nat.ne_of_lt (Nat.lt_succ_of_lt ll)
        have nS : ∀ ob : Obj, s.heap.objs.size ∉ [(s.heap.push ob).objs.size, l] := fun ob => by
          rw [Heap.size_push]
          simp only [List.mem_cons, List.mem_singleton, List.not_mem_nil, or_false, not_or]
          exact ⟨Nat.ne_of_lt (Nat.lt_succ_self _), Nat.ne_of_gt ll⟩
        have nB : ∀ (ob : Obj) (b : Addr), b < s.heap.objs.size → b ≠ (s.heap.push ob).objs.size := fun ob b lb => by
          rw [Heap.size_push]
          exact Nat.ne_of_lt (Nat.lt_succ_of_lt lb)
        subst hso
        wp_walk
        subst hPI
        refine wpAny_pyIter_list hl1 ?_
        refine wpAny_bind (wpAny_runValue ?_)
        have hh3 : A.in1.in1.in1.handled = none := by simp [hh]
        have sz : xs.length = its.size := by rw [← StrsAre.len_eq hi, Array.length_toList]
        have hval : ∀ (i : Nat) (v : Value), its[i]? = some v → ∃ x t, xs[i]? = some x ∧ v = .str x t := fun i v hv => by
          have li : i < xs.length := by
            rw [sz]
            exact (Array.getElem?_eq_some_iff.mp hv).1
          obtain ⟨t, e⟩ := SS.strs_at hi i v (by rw [Array.getElem?_toList]; exact hv)
          refine ⟨xs[i], t, List.getElem?_eq_getElem li, ?_⟩
          rw [e, List.getD_eq_getElem?_getD, List.getElem?_eq_getElem li]
          rfl
        refine fill ((Walks.list hh3 _ l (nI (so led)) its).toS) s.heap.objs.size (nS (so led)) xs sz (by rw [← sz]; exact hb) hval (its.size - 0) 0 _ (by omega) (Nat.zero_le _)
          ⟨⟨_, Heap.get?_push_size _ rfl, rfl, rfl⟩, (hl1.push _)⟩ ?hS0 ?hR
        case hS0 =>
          exact ⟨0, cnt_zero xs, PyProof.Rows.SetOf_congr ((PyProof.Rows.setObjOf_fresh (knd := PySem.strKind prog w) led).setOf (Heap.get?_push_of_some _ b1) (by unfold scanBound; omega)) (fun _ => by simp) rfl⟩
        case hR =>
          intro s' c' hm hc' hS'
          obtain ⟨g, g', d', tk', os'⟩ := s'
          have eg : g' = s.gens := hm.gens
          have ed : d' = s.drawn := hm.drawn
          have eo : os' = s.os := hm.os
          subst eg ed eo
          show wpAny _ _ _ _ _ _
          refine wpAny_pure ?_
          show wpAny _ _ (ret Value.none) _ _ _
          rw [← sz] at hc' hS'
          refine wpAny_pure ⟨rfl, g, tk', c', rfl, hc', hS', fun b o lb e => ?_⟩
          have n1 : b ≠ s.heap.objs.size := Nat.ne_of_lt lb
          have n2 := nB (so led) b lb
          exact hm.heap b o (by simp only [List.mem_cons, List.mem_singleton, List.not_mem_nil, or_false, not_or]; exact ⟨n1, n2⟩) (Heap.get?_push_of_some _ (Heap.get?_push_of_some _ e))
      · cases r₂ with
        | error e => exact hr₂
        | ok fl₂ =>
          cases fl₂ with
          | ret r =>
            obtain ⟨rfl, g, tk, c', rfl, hc', hS', hk'⟩ := hr₂
            repeat (any_goals (first | assumption | wp_step))
            exact q _ _ _ hc' hS' hk'
          | _ => exact hr₂.elim
    | _ => exact hr.elim
end
end Sl
namespace Sl
open PySem PySem.Spec PyProof.Rows L2
section
variable {X : Cx}
def tLen (K : PySem.W.Frag) (ta : TE) : TE := fun σ H Q => ta σ H fun x H1 => ∃ l, ∃ xs : List Str, x = .ref l ∧ SqL K H1 l (xs.map V.str) ∧ xs.length ≤ 4000 ∧ ∀ c, Cnt xs xs.length c → Q (.int (c : Nat)) H1
theorem pe_len {a : Expr} {ta : TE} {p p2 q pos : Pos} (hc : X.calm = true) (hg : Gl X "len") (hm : X.mg "len" = none) (hg2 : Gl X "set") (hm2 : X.mg "set" = none) (ha : PE X a ta)
    (na : starEach [a] X.env = (false, eval a X.env) :: starEach [] X.env := by rfl) : PE X (.Call (.Name "len" p) [.Call (.Name "set" p2) [a] [] q] [] pos) (tLen X.K ta) := by
  refine ⟨fun pins s σ H Q I h => ?_⟩
  refine Call_ (ld_blt I hg hm boot_len ?_)
  refine PyProof.Rows.callWith_builtin1 (PyProof.Rows.args_cons ?_ rfl) rfl rfl
  refine Call_ (ld_blt I hg2 hm2 boot_set ?_)
  refine PyProof.Rows.callWith_type1 (PyProof.Rows.args_cons (thn (ha.run pins s σ H _ I h) fun v s1 ⟨x, H1, I1, r1, q1⟩ => PyProof.Rows.args_nil ?_) na) na rfl
  obtain ⟨l, xs, ev, hq, hl, k⟩ := q1
  subst ev
  cases r1
  obtain ⟨its, r, pl, hz⟩ := I1.list hq
  refine set_strs (I1.ok.hd hc) pl.isList (by simpa using strsAre_of r) (by unfold scanBound; omega) fun g tk c hcn hS hk => ?_
  refine PyProof.Rows.args_nil ?_
  obtain ⟨o, es, ep, t, ho, hex, hd, _, _, _, hf, hn⟩ := hS
  have I2 : Inv X pins σ H1 { s1 with heap := g, toks := tk } := I1.kept fun b o e => hk b o (Heap.lt_size e) e
  have := hcn.1
  refine call_len_set ho hex hd hf (by rw [hn] <;> omega) ⟨.int (c : Nat), H1, I2.tok _, ⟨_, by rw [hn]⟩, k c hcn⟩
end
/-- xs[i], for xs[i] op= e -/
theorem get_list {X : Cx} : PGet X (rIxL X.K) := by
  intro pins s σ H o i ov iv Q I ro ri h
  obtain ⟨p, xs, k, z, rfl, rfl, hq, he, q⟩ := h
  cases ro
  obtain ⟨t, rfl⟩ := ri
  obtain ⟨its, r, pl, hz⟩ := I.list hq
  obtain ⟨j, h1, h2, h3, h4, h5⟩ := atI_get he
  obtain ⟨u, eu, ru⟩ := r.get h2
  have hl := r.length
  have hn := line63
  have fin : EP X pins σ Q u s := ⟨z, H, I, ru, q⟩
  by_cases h0 : 0 ≤ k
  · have hj : k.toNat = j := by
      rw [seqIndex_of h0 h5] at h1
      exact Option.some.inj h1
    exact wpAny_getItem_list pl.isList h0 (by omega) (by rw [hj]; simpa using eu) fin
  · have hj : (k + (its.toArray.size : Int)).toNat = j := by
      rw [seqIndex_neg (by omega) h4] at h1
      rw [List.size_toArray, ← hl]
      exact Option.some.inj h1
    exact wpAny_getItem_list_neg pl.isList (by omega) (by rw [List.size_toArray] <;> omega) (by omega) (by rw [hj]; simpa using eu) fin
end Sl

/-! Comprehensions whose items draw from the bag, told one by one. -/
namespace Lm
open PySem L2 Wm Dv
theorem kt_but {K : PySem.W.Frag} {H H' : Hp} {b : Addr} {n : Nat} (bag : Bag H b n) (e : But b H H') : Kt K H H' := fun a xs q => by
  obtain ⟨c, x, k, m, z, ns, hb, _⟩ := bag
  have ne : ∀ {u : HO}, H a = some u → (∀ y, u ≠ .lst y) → H' a = some u := fun {u} h n => e.keep _ _ (fun z => by subst z; rw [hb] at h; exact n _ (Option.some.inj h).symm) h
  rcases q with (q | ⟨ob, q⟩) | q
  · exact .inl (.inl (ne q fun y z => by cases z))
  · exact .inl (.inr ⟨ob, ne q fun y z => by cases z⟩)
  · exact .inr q
theorem bag_off {H : Hp} {b p : Addr} {n : Nat} (bag : Bag H b n) (h : H p = none) : p ≠ b := fun e => by
  obtain ⟨_, _, _, _, _, _, hb, _⟩ := bag
  rw [e, hb] at h
  cases h
theorem lc_bag {K : PySem.W.Frag} {J : It} {n : Nat} {G : Hp → Prop} {xs : List V} (w : Walk J n G (YAt xs)) {g : TG} {te : TE} {vs : List Nat} {σ : L2.St} {H1 : Hp} {D : Addr} {Qd : Hp → Prop} {b : Addr} {m c : Nat} (R : Nat → V → Hp → Prop)
    (mono : ∀ i y H H', R i y H → Kt K H H' → R i y H') (hD : H1 D = none) (bag : Bag H1 b m) (hn : n ≤ 1000) (hG : ∀ H', But b H1 H' → G H')
    (hs : ∀ i x H', i < n → xs[i]? = some x → But b H1 H' → Bag H' b (m + c * i) → ∀ (Q : V → Hp → Prop) (Z : Hp → Prop), (∀ y H4, But b H' H4 → Bag H4 b (m + c * (i + 1)) → R i y H4 → Q y H4) → g x (wipe σ vs) H' fun σ2 H2 => wipe σ2 vs = wipe σ vs ∧ tYes σ2 H2 fun b H3 => if b = true then te σ2 H3 Q else Z H3)
    (hd : ∀ H ys, But b H1 H → Bag H b (m + c * n) → H D = some (.lst ys) → ys.length = n → (∀ (i : Nat) y, ys[i]? = some y → R i y H) → Qd H) :
    ∃ W : Nat → Nat → Hp → Prop, (∃ m, W 0 m (upd H1 D (.lst []))) ∧ ∀ i m H, W i m H →
      (J.stop i H ∧ Qd H) ∨ (J.go i H ∧ ∃ Nx : Hp → Prop, (∀ H', Nx H' → ∃ m', m' < m ∧ W (i + 1) m' H') ∧ ∀ x H', J.yld i H x H' → g x (wipe σ vs) H' fun σ2 H2 => wipe σ2 vs = wipe σ vs ∧ tYes σ2 H2 fun b H3 =>
        if b = true then te σ2 H3 fun y H4 => ∃ acc, H4 D = some (.lst acc) ∧ acc.length < sizeLine ∧ Nx (upd H4 D (.lst (acc ++ [y]))) else Nx H3) := by
  have db := bag_off bag hD
  refine lc_it (tt := tYes) w (fun i H => But b H1 H ∧ Bag H b (m + c * i) ∧ ∃ ys : List V, ys.length = i ∧ H D = some (.lst ys) ∧ ∀ j y, ys[j]? = some y → R j y H)
    ⟨But.of (same_new hD), (bag.keep (same_new hD)).mono (by omega), [], rfl, upd_same, fun (j : Nat) (y : V) e => by simp at e⟩ (fun i H _ h => hG H h.1) (fun i x H H' hi hP hY => ?_) (fun H hP => ?_)
  · obtain ⟨bt, bg, ys, el, hy, hR⟩ := hP
    obtain ⟨rfl, hx⟩ := hY
    refine hs i x H' hi hx bt bg _ _ (fun y H4 b4 g4 r4 => ?_)
    have hy4 := b4.keep _ _ db hy
    have k5 : Kt K H4 (upd H4 D (.lst (ys ++ [y]))) := Kt.lst hy4
    refine ⟨ys, hy4, by rw [el]; exact small1000 (by omega), (bt.trans b4).put hD, Bag.put bag hD (bt.trans b4) g4, ys ++ [y], by rw [List.length_append, el]; rfl, upd_same, fun j z hz => ?_⟩
    by_cases lj : j < ys.length
    · rw [List.getElem?_append_left lj] at hz
      exact mono _ _ _ _ (hR j z hz) ((kt_but bg b4).trans k5)
    · rw [List.getElem?_append_right (by omega)] at hz
      have e0 : j - ys.length = 0 := by
        by_cases q : j - ys.length = 0
        · exact q
        · rw [List.getElem?_eq_none (by rw [List.length_singleton]; omega)] at hz
          cases hz
      rw [e0] at hz
      have ez : y = z := by simpa using hz
      have ej : j = i := by omega
      subst ez ej
      exact mono _ _ _ _ r4 k5
  · obtain ⟨bt, bg, ys, el, hy, hR⟩ := hP
    exact hd H ys bt bg hy el hR
end Lm

/-! repr of data, and defs that are called where no repr is under way. -/
namespace Rp
open PySem PySem.Spec PyProof.Rows L2
section
variable {X : Cx}
def rRepr (K : PySem.W.Frag) : List V → Hp → VK → Prop := fun xs H Q => ∃ x d, xs = [x] ∧ Dp K H x d ∧ d.showable = true ∧ d.hasDict = false ∧ d.depth ≤ 60 ∧ d.shown.length ≤ sizeLine ∧ Q (.str d.shown) H
theorem call_reprD (hg : X.A.guards = some []) (hu : X.A.units + 64 < cLine) : CallR X (.builtin "repr") (rRepr X.K) := by
  intro pins s σ H xs us Q I r h
  obtain ⟨x, d, rfl, hd, hs, hn, hz, hl, q⟩ := h
  cases r with
  | cons rx rn =>
    cases rn
    obtain ⟨as, rd⟩ := Dp.reads I d x _ hd rx
    cases rd with
    | none => exact PySem.P.repr_of_none ⟨.str _, H, I.tok _, ⟨_, rfl⟩, q⟩
    | bool b => exact PySem.P.repr_of_bool ⟨.str _, H, I.tok _, ⟨_, rfl⟩, q⟩
    | int i t => exact PySem.P.repr_of_int (of_decide_eq_true hs) ⟨.str _, H, I.tok _, ⟨_, rfl⟩, q⟩
    | str z t => exact PySem.P.repr_of_str (hsz := hl) ⟨.str _, H, I.tok _, ⟨_, rfl⟩, q⟩
    | list h1 h2 h3 h4 =>
      exact PySem.repr_of_reads' (.list h1 h2 h3 h4) hs (fun e => by rw [hn] at e; cases e) hg (by omega) (fun _ _ e => e) (fun g u tk k => ⟨.str _, H, I.kept (t' := tk) k, ⟨_, rfl⟩, q⟩) hl
    | tuple h1 h2 h3 h4 =>
      exact PySem.repr_of_reads' (.tuple h1 h2 h3 h4) hs (fun e => by rw [hn] at e; cases e) hg (by omega) (fun _ _ e => e) (fun g u tk k => ⟨.str _, H, I.kept (t' := tk) k, ⟨_, rfl⟩, q⟩) hl
    | dict => cases hd
end
/-- as FnOk, where no repr is under way -/
structure GOk (P : Program) (w : World) (K : PySem.W.Frag) (mg : Str → Option Value) (base : Heap) (CX : CXT) (k : Nat) (f : Addr) (fd : FuncData) (ps : List Str) (sp : Sp) : Prop where
  len : ∀ vs H Q E, sp vs H Q E → vs.length = ps.length
  run : ∀ (A : Around) (outer : List Env) (s : Shared) (H : Hp) (args : Args) (us : List Value) (vs : List V) (Q : VK) (E : XK), Room k A → A.guards = some [] → Env0 P w K mg base A outer s H → BindsTo s fd args (ps.zip us) → Vals vs us → sp vs H Q E →
    codeAny (model P w) A (.call (.ref f) args) (CR CX outer P w H s Q E) s
section
variable {CX : CXT} {P : Program} {w : World} {K : PySem.W.Frag} {mg : Str → Option Value} {base : Heap} {k : Nat} {f : Addr} {fd : FuncData} {ps : List Str} {sp : Sp}
theorem GOk.of (F : FnOk P w K mg base CX k f fd ps sp) : GOk P w K mg base CX k f fd ps sp := ⟨F.len, fun A outer s H args us vs Q E hr _ => F.run A outer s H args us vs Q E hr⟩
theorem GOk.mono {j : Nat} (F : GOk P w K mg base CX j f fd ps sp) (h : j ≤ k) : GOk P w K mg base CX k f fd ps sp := ⟨F.len, fun A outer s H args us vs Q E hr => F.run A outer s H args us vs Q E (hr.mono h)⟩
theorem gfn_of {name qual : Str} {params : Arguments} {body : List Stmt} {scope : Scope} {dV kV doc pm cdv ct oc : Value} {an od : Option Addr} {osl : Array (Option Value)} {N : List Str}
    (lk : K.lookup f = some ⟨oc, od, .func (PySem.W.fnOf name qual params body scope dV kV doc pm an cdv ct), osl⟩) (hcd : PySem.W.codeIn K cdv qual = true) (S : FnScope N ps scope)
    (len : ∀ vs H Q E, sp vs H Q E → vs.length = ps.length)
    (hbody : ∀ (A : Around) (outer : List Env) (s : Shared) (H : Hp) (vs : List V) (Q : VK) (E : XK), A.guards = some [] → Room k (A.deeper (envOfC qual scope s.heap.objs.size f cdv)) → sp vs H Q E →
      ∃ t, PSs (cxOf CX P w K mg base N qual scope f cdv A outer s H E) body t ∧ t { nx := fun _ H' => Q .non H', rt := Q } (start N vs) H) :
    GOk P w K mg base CX (k + 1) f (PySem.W.fnOf name qual params body scope dV kV doc pm an cdv ct) ps sp := by
  refine ⟨len, fun A outer s H args us vs Q E hr hg e0 hb r hsp => ?_⟩
  have nl := len _ _ _ _ hsp
  have old : ∀ b o, base.get? b = some o → s.heap.get? b = some o := fun b o e => (e0.bs b o e).1
  have KX : K.In s.heap := e0.mod.kin.keeps old
  have lim : s.heap.NoLimit := e0.mod.nolimit.keeps old
  have kinds : ∀ y ∈ ps.zip us, scope.names.lookup y.1 = some .local ∨ (scope.names.lookup y.1 = some .cell ∧ ((cellsFrom (s.heap.objs.size + 1) scope.names []).lookup y.1).isSome = true) := fun ⟨n, v⟩ hy =>
    (S.par n (List.of_mem_zip hy).1).imp id fun q => ⟨q, PySem.W.cellsFrom_some _ _ _ (.inl q)⟩
  refine codeAny_call_function hr.depth (KX _ _ lk) rfl S.co S.gen rfl (PySem.W.codeRec_of KX hcd) (hb _ _ _ _ ?_)
  refine wpAny_newFunctionEnv_cells S.kind kinds fun env ee s1 x => ?_
  subst ee
  refine ⟨lim.keeps x.toInCall.keep, codeAny_func ?_⟩
  obtain ⟨t, ht, hq⟩ := hbody A outer s H vs Q E hg (hr.deeper _) hsp
  have I0 : Inv (cxOf CX P w K mg base N qual scope f cdv A outer s H E) [] (start N vs) H s1 := inv_start S hr.hd e0 nl r x
  refine wpAny_mono (ht.run [] s1 (start N vs) H _ I0 hq) (fun fl s' hs => ?_) fun e s' hs => hs
  cases fl with
  | ret u =>
    obtain ⟨v, σ', H', J, rv, q⟩ := hs
    exact ⟨v, H', J.os, J.bare, J.base, J.hok, rv, q⟩
  | next =>
    obtain ⟨σ', H', J, q⟩ := hs
    exact ⟨V.non, H', J.os, J.bare, J.base, J.hok, rfl, q⟩
  | brk =>
    obtain ⟨_, _, _, q⟩ := hs
    exact q.elim
  | cont =>
    obtain ⟨_, _, _, q⟩ := hs
    exact q.elim
theorem gok {x qual : Str} {st : Stmt} {N : List Str} (F : Fun K x qual st f fd) (S : FnScope N ps (defScope st)) (len : ∀ vs H Q E, sp vs H Q E → vs.length = ps.length)
    (hbody : ∀ (cdv : Value) (A : Around) (outer : List Env) (s : Shared) (H : Hp) (vs : List V) (Q : VK) (E : XK), A.guards = some [] → Room k (A.deeper (envOfC qual (defScope st) s.heap.objs.size f cdv)) → sp vs H Q E →
      ∃ t, PSs (cxOf CX0 P w K mg base N qual (defScope st) f cdv A outer s H E).nox (defBody st) t ∧ t { nx := fun _ H' => Q .non H', rt := Q } (start N vs) H) : GOk P w K mg base CX0 (k + 1) f fd ps sp := by
  obtain ⟨oc, od, kV, doc, pm, an, cdv, ct, osl, rfl, lk, hcd⟩ := F.ex
  refine gfn_of lk hcd S len fun A outer s H vs Q E hg hr hsp => ?_
  obtain ⟨t, h, q⟩ := hbody cdv A outer s H vs Q E hg hr hsp
  exact ⟨t, h.nox, q⟩
end
section
variable {X : Cx} {CX : CXT} {k : Nat} {f : Addr} {fd : FuncData} {ps : List Str} {sp : Sp} {E : XK} {ds : List Value} {dvs : List V} {x : Str} {e : Expr} {es : List Expr} {t : TA} {p pos : Pos}
theorem pe_gcall (F : GOk X.prog X.w X.K X.mg X.base CX k f fd ps sp) (gd : X.A.guards = some []) (hr : Room k X.A) (hg : Gl X x) (hm : X.mg x = some (.ref f)) (hk : PySem.W.keepIn X.K (.ref f) = true) (hb : Binds X.K fd ps ds) (hd : Vals dvs ds) (hx : Passes CX X E)
    (ha : PA X (e :: es) t) (hdb : (x == ("__debug__" : Str)) = false := by decide) (he : starEach (e :: es) X.env = (false, eval e X.env) :: starEach es X.env := by rfl) (hpl : (backTo pos (starEach es X.env)).any (·.1) = false := by rfl) :
    PE X (.Call (.Name x p) (e :: es) [] pos) (tCall sp dvs E t) := by
  refine ⟨fun pins s σ H Q I h => ?_⟩
  refine wpAny_Call_Name_kw (ld_glob I hg hm ?_ hdb)
  refine PySem.W.callWith_K (h₀ := X.base) I.ok.mod.kin hk (thn (ha.run pos pins s σ H _ I h) fun us s1 ⟨vs, H1, I1, r, q⟩ => ⟨I1.kIn, ?_⟩) he hpl
  have r2 : Vals (vs ++ dvs) (us ++ ds) := r.append hd
  have nl : (us ++ ds).length = ps.length := r2.length.symm.trans (F.len _ _ _ _ q)
  refine wpAny_call (codeAny_mono (F.run X.A X.stack s1 H1 ⟨us, []⟩ (us ++ ds) (vs ++ dvs) Q E hr gd I1.env0 (hb s1 us I1.kIn nl) r2 q) fun res s' hq => ?_)
  cases res with
  | error z => exact hx pins σ H1 s1 z s' I1 hq
  | ok fl =>
    cases fl with
    | ret u => exact I1.after hq
    | next => exact hq.elim
    | brk => exact hq.elim
    | cont => exact hq.elim
end
end Rp
/-! The law's own call, of a def that is called where no repr is under way. -/
namespace Rp
open PySem PySem.Spec PyProof.Rows L2
theorem law_gcall {P : Program} {w : World} {K : PySem.W.Frag} {mg mb : Str → Option Value} {CX : CXT} {k : Nat} {fa a : Addr} {fd : FuncData} {x : Str} {sp : Sp} {s1 : Shared} {vs : List Value} {ns : List Int}
    (KX : K.In s1.heap) (hns : s1.heap.Ns mainGlobals mg) (hb : s1.heap.Ns builtinsNs mb) (hbb : ∀ y : Str, y ≠ "__name__" → mb y = bootBuiltins y) (lim : s1.heap.NoLimit) (gens : s1.gens = #[])
    (ha : s1.heap.get? a = some { cls := .type "list", data := .seq vs.toArray }) (hi : IntsAre vs ns) (hl : ns.length ≤ sizeLine) (hr : Room k callerA)
    (F : ∀ base : Heap, K.In base → base.Ns mainGlobals mg → GOk P w K mg base CX k fa fd [x] sp) (hbind : ∀ (s : Shared) (u : Value), BindsTo s fd ⟨[u], []⟩ [(x, u)])
    (hsp : ∀ H : Hp, Only H → SqL K H a (ns.map V.int) → sp [.ref a] H (fun v _ => v = .bl true) fun _ _ _ => False)
    (hCX : ∀ H e t, CX [] H s1 (fun _ _ _ => False) e t → False) :
    codeAny (model P w) callerA (.call (.ref fa) ⟨[.ref a], []⟩) (fun r t => r = .ok (.ret (.bool true)) ∧ OldK s1.heap t.heap ∧ t.os = s1.os ∧ AllBare t.gens) s1 := by
  have rv := vals_ints hi
  have nv := hi.length
  have go : ∀ H : Hp, Only H → SqL K H a (ns.map V.int) → HOk P w H s1.heap → (∀ b, H b ≠ none → b = a) → (H a ≠ none → K.lookup a = none) →
      codeAny (model P w) callerA (.call (.ref fa) ⟨[.ref a], []⟩) (fun r t => r = .ok (.ret (.bool true)) ∧ OldK s1.heap t.heap ∧ t.os = s1.os ∧ AllBare t.gens) s1 := by
    intro H hO hS hok only_a noK
    have hid : ∀ {b : Addr} {o : Obj}, s1.heap.get? b = some o → H b = none → (hidT s1.heap H).get? b = some o := fun e n => hidT_get e n
    have dictFree : ∀ {b : Addr} {o : Obj} {es : Array DictEntry} {ep : Nat}, s1.heap.get? b = some o → o.data = .dict es ep → H b = none := fun {b o es ep} e d => by
      cases q : H b with
      | none => rfl
      | some u =>
        have eb : b = a := only_a b (by rw [q]; simp)
        subst eb
        rw [ha] at e
        cases e
        have d2 : Data.seq vs.toArray _ = Data.dict es ep := d
        cases d2
    have nsOf : ∀ {b : Addr} {m : Str → Option Value}, s1.heap.Ns b m → (hidT s1.heap H).Ns b m := fun {b m} ⟨o, es, ep, e, d, r⟩ => ⟨o, es, ep, hid e (dictFree e d), d, r⟩
    have inB : K.In (hidT s1.heap H) := fun b o e => hid (KX b o e) (by
      cases q : H b with
      | none => rfl
      | some u =>
        have eb : b = a := only_a b (by rw [q]; simp)
        subst eb
        rw [noK (by rw [q]; simp)] at e
        cases e)
    have md : Mod K mg (hidT s1.heap H) := ⟨inB, nsOf hns, ⟨mb, nsOf hb, hbb⟩, let ⟨mc, c1, c2⟩ := lim; ⟨mc, nsOf c1, c2⟩⟩
    have e0 : Env0 P w K mg (hidT s1.heap H) callerA [] s1 H := ⟨rfl, md, fun b o e => of_hidT e, Nat.le_of_eq (hidT_size _ _), trivial, fun b hb => absurd (show b ∈ ([] : List Addr) from hb) (by simp), hok, .of_eq gens⟩
    refine codeAny_mono ((F _ inB (nsOf hns)).run callerA [] s1 H ⟨[.ref a], []⟩ [.ref a] [.ref a] _ _ hr rfl e0 (hbind s1 (.ref a)) (.cons rfl .nil) (hsp H hO hS)) fun r t h => ?_
    cases r with
    | error e => exact (hCX H e t h).elim
    | ok fl =>
      cases fl with
      | next => exact h.elim
      | brk => exact h.elim
      | cont => exact h.elim
      | ret u =>
        obtain ⟨v, H', os, bare, un, hok', r', q⟩ := h
        have q' : v = .bl true := q
        subst q'
        obtain rfl : u = Value.bool true := r'
        refine ⟨rfl, OldK.of_keep fun b o e => ?_, os, bare⟩
        cases q : H b with
        | none => exact un.keep b o e q (by intro z; exact absurd (show b ∈ ([] : List Addr) from z) (by simp)) (by simp)
        | some u =>
          rcases hO b with z | ⟨ob, xs, z⟩
          · rw [q] at z
            cases z
          · have z2 := un.frzs b ob _ z
            obtain ⟨e1, _⟩ := hok b _ z
            obtain ⟨e2, _⟩ := hok' b _ z2
            rw [e] at e1
            cases e1
            exact e2
  cases hk : K.lookup a with
  | some o =>
    have e := KX a o hk
    rw [ha] at e
    cases e
    refine go (fun _ => none) (fun _ => .inl rfl) (.inr ⟨_, vs.toArray, _, hk, rfl, rfl, rfl, by rw [List.size_toArray, nv]; exact hl, by simpa using rv⟩) (fun b u z => by have z' : (none : Option HO) = some u := z; cases z') (fun b z => absurd rfl z) fun z => absurd rfl z
  | none =>
    refine go (fun b => if b = a then some (.frz { cls := .type "list", data := .seq vs.toArray } (.lst (ns.map V.int))) else none) (fun b => ?_) (.inl (.inr ⟨{ cls := .type "list", data := .seq vs.toArray }, if_pos rfl⟩)) (fun b u z => ?_) (fun b z => ?_) fun _ => hk
    · by_cases c : b = a
      · exact .inr ⟨_, _, if_pos c⟩
      · exact .inl (if_neg c)
    · by_cases c : b = a
      · have z' := (if_pos c).symm.trans z
        cases z'
        subst c
        exact ⟨ha, by rw [List.length_map]; exact hl, vs, _, rv, ha⟩
      · have z' := (if_neg c).symm.trans z
        cases z'
    · by_cases c : b = a
      · exact c
      · exact absurd (if_neg c) z
theorem walk_gof {l : PySem.W.OpenLaw} {n k : Nat} {q : Program} {loose : List Str} {XP : (Str → Option Value) → Heap → Prop} {YP : World → Heap → Prop} {d : DefRec} {K : Params → PySem.W.Frag} {CX : World → CXT} {sp : World → Sp} {x : Str}
    (hn : l.most = some n) (hn2 : n ≤ sizeLine) (hdf : d.params.defaults = []) (hr : Room k callerA)
    (hY : ∀ (w : World) (h : Heap), YP w h → (K w.params).In h)
    (F : ∀ (w : World) (mg : Str → Option Value) (fa : Addr) (h : Heap), (K w.params).In h → h.Ns mainGlobals mg → mg d.name = some (.ref fa) →
      ∃ fd : FuncData, (∀ (s : Shared) (u : Value), BindsTo s fd ⟨[u], []⟩ [(x, u)]) ∧
        ∀ base : Heap, (K w.params).In base → base.Ns mainGlobals mg → GOk l.prog w (K w.params) mg base (CX w) k fa fd [x] (sp w))
    (hsp : ∀ (w : World) (H : Hp) (a : Addr) (ns : List Int), ns.length ≤ n → Only H → SqL (K w.params) H a (ns.map V.int) → sp w [.ref a] H (fun v _ => v = .bl true) fun _ _ _ => False)
    (hCX : ∀ (w : World) (H : Hp) (s : Shared) (e : Value) (t : Shared), CX w [] H s (fun _ _ _ => False) e t → False) :
    PySem.W.WalkO q loose XP YP l.row.toRowW d [] (fun f vs => PySem.call f vs) := by
  refine Att.attach_call hn hdf fun w s0 s1 mg mb fa o pm cd doc a vs ns G Y ho hd hcd hmg hobj hints hlen hg => ?_
  have KX := hY w _ Y
  obtain ⟨fd, hb, hF⟩ := F w mg fa _ KX G.T.g hmg
  exact law_gcall KX G.T.g G.T.b G.T.builtins G.T.nolimit hg hobj hints (Nat.le_trans hlen hn2) hr hF hb (fun H hO hS => hsp w H a ns hlen hO hS) fun H e t => hCX w H s1 e t
end Rp

/-! One of two readings of what a for walks. -/
namespace L2
open PySem PySem.Spec PyProof.Rows
theorem pi_or {X : Cx} {tg e : Expr} {t u : TI} (h : PI X tg e t) (g : PI X tg e u) : PI X tg e (fun σ H R => t σ H R ∨ u σ H R) :=
  ⟨fun pins s σ H R I z => z.elim (fun z => h.run pins s σ H R I z) fun z => g.run pins s σ H R I z⟩
end L2
/-! a conditional expression as a test: c and what stands for it, each a test. -/
namespace L2
open PySem PySem.Spec PyProof.Rows
def tIfT (tc ta tb : TT) : TT := fun σ H Q => tc σ H fun k H1 => if k = true then ta σ H1 Q else tb σ H1 Q
theorem pt_ifExp {X : Cx} {c a b : Expr} {tc ta tb : TT} {pos : Pos} (hc : PT X c tc) (ha : PT X a ta) (hb : PT X b tb) : PT X (.IfExp c a b pos) (tIfT tc ta tb) := by
  refine ⟨fun pins s σ H Q I h => ?_⟩
  refine PyProof.Rows.isTrue_IfExp (thn (hc.run pins s σ H _ I h) fun d s1 ⟨H1, I1, q1⟩ => ?_)
  cases d with
  | true => exact ha.run pins s1 σ H1 Q I1 q1
  | false => exact hb.run pins s1 σ H1 Q I1 q1
end L2
/-! One expression, two readings: the prover takes one. -/
namespace L2
open PySem PySem.Spec PyProof.Rows
def tAlt (t1 t2 : TE) : TE := fun σ H Q => t1 σ H Q ∨ t2 σ H Q
theorem pe_alt {X : Cx} {e : Expr} {t1 t2 : TE} (h1 : PE X e t1) (h2 : PE X e t2) : PE X e (tAlt t1 t2) := ⟨fun pins s σ H Q I h => h.elim (fun h => h1.run pins s σ H Q I h) fun h => h2.run pins s σ H Q I h⟩
end L2
/-! An attribute as one target of several: self.f, x = a pair. -/
namespace L2
open PySem PySem.Spec PyProof.Rows
section
variable {X : Cx} {pos : Pos}
def gFld (K : PySem.W.Frag) (ta : TE) (f : Str) : TG := fun v σ H Q => ta σ H fun x H1 => ∃ a C dx fs, x = .ref a ∧ H1 a = some (.ins C dx fs) ∧ Cls K C ∧ NoAttr K C f ∧ fs.length < 1000 ∧ Q σ (upd H1 a (.ins C dx (putF f v fs)))
theorem pg_fld {o : Expr} {f : Str} {ta : TE} (ha : PE X o ta) : PG X (.Attribute o f pos) (gFld X.K ta f) := by
  refine ⟨fun pins s σ H v u Q I r h => ?_⟩
  have run : wpAny (model X.prog X.w) X.A (eval o X.env) (fun ov s₂ => wpAny (model X.prog X.w) X.A (setAttr ov f u) (fun _ s' => ∃ σ' H', Inv X pins σ' H' s' ∧ Q σ' H') X.xe s₂) X.xe s := thn (ha.run pins s σ H _ I h) fun ov s2 ⟨x, H2, I2, rx, a, C, dx, fs, ex, ea, c, n, l, q2⟩ => by
    subst ex
    obtain rfl : ov = Value.ref a := rx
    exact setattr_ok I2 ea c n l r fun s3 I3 => ⟨σ, _, I3, q2⟩
  intro Γ p hΓ
  simp only [assign_Attribute, Sem.wp_bind', Sem.wp_holding, Sem.wp_cmd_standAt, Sem.wp_release, Sem.wp_pure']
  exact Sem.wp_mono _ Γ _ (fun ov p2 s₂ h₂ => Sem.wp_mono _ Γ _ (fun _ _ _ h' => h') (fun _ _ _ h' => h') _ _ (h₂ Γ _ hΓ)) (fun _ _ _ h' => h') _ _ (run Γ _ hΓ)
end
end L2

/-! A method whose body is `return super().m() and e`. -/
namespace Su
open PySem PySem.W PySem.Calls PyProof.Rows L2
/-- the context of such a method's body: the cell __class__ is the text's own -/
def cxS (CX : CXT) (P : Program) (w : World) (K : PySem.W.Frag) (mg : Str → Option Value) (base : Heap) (N : List Str) (qual : Str) (scope : Scope) (f : Addr) (cd : Value) (cc : Addr) (A : Around) (outer : List Env) (s : Shared) (H : Hp) (E : XK) : Cx where
  prog := P
  w := w
  K := K
  mg := mg
  base := base
  A := A.deeper (ksEnv qual scope s.heap.objs.size f cd cc)
  N := N
  s_0 := s
  H_0 := H
  env := ksEnv qual scope s.heap.objs.size f cd cc
  outer := outer
  stack := ksEnv qual scope s.heap.objs.size f cd cc :: outer
  ex := []
  calm := true
  fn := fun _ => false
  pn := []
  xe := fun e s' => wpAny (model P w) (A.deeper (ksEnv qual scope s.heap.objs.size f cd cc)) (leaving (ksEnv qual scope s.heap.objs.size f cd cc) e) (fun _ s'' => CX outer H s E e s'') (fun e' s'' => CX outer H s E e' s'') s'
/-- its names -/
structure SScope (sc : Scope) : Prop where
  kind : sc.kind = .function
  co : sc.isCoroutine = false
  gen : sc.isGenerator = false
  self : sc.names.lookup ("self" : Str) = some .local
  sup : sc.names.lookup ("super" : Str) = some .globalImplicit
  cls : sc.names.lookup ("__class__" : Str) = some .free
  ncell : ∀ x ∈ sc.names, x.2 ≠ .cell
  free : ∀ x ∈ sc.names, x.2 = .free → x.1 = "__class__"
section
variable {CX : CXT} {P : Program} {w : World} {K : PySem.W.Frag} {mg : Str → Option Value} {base : Heap} {qual : Str} {scope : Scope} {f cc D : Addr} {cd cl : Value} {cld : Option Addr} {csl : Array (Option Value)} {A : Around} {outer : List Env} {s : Shared} {H : Hp} {E : XK}
theorem inv_startS {k tk : Nat} {h0 : Heap} {v : V} {u : Value} (S : SScope scope) (hr : Room k A) (e0 : Env0 P w K mg base A outer s H) (rv : RelV v u) (hcell : K.lookup cc = some ⟨cl, cld, .cell (some (.ref D)), csl⟩)
    (hns : h0.Ns s.heap.objs.size (fun x => [(("self" : Str), u)].reverse.lookup x)) (hk : ∀ b o, s.heap.get? b = some o → h0.get? b = some o) :
    Inv (cxS CX P w K mg base ["self"] qual scope f cd cc A outer s H E) [] [some v] H { s with heap := h0, toks := tk } := by
  have look : ∀ x c, [(("__class__" : Str), cc)].lookup x = some c → x = "__class__" ∧ c = cc := fun x c h => by
    have := PySem.mem_of_lookup h
    simp only [List.mem_cons, List.not_mem_nil, or_false, Prod.mk.injEq] at this
    exact this
  have KB : base.get? cc = some ⟨cl, cld, .cell (some (.ref D)), csl⟩ := e0.mod.kin _ _ hcell
  have noA : ∀ b : Addr, b ∉ (cxS CX P w K mg base ["self"] qual scope f cd cc A outer s H E).ex := fun b z => absurd (show b ∈ ([] : List Addr) from z) (by simp)
  refine ⟨⟨e0.mod, S.kind, rfl, rfl, Nat.le_refl _, fun y z c h1 h2 => ?_, fun y hy => ?_, fun y c z _ => (by cases z), fun _ => hr.hd, Around.frames_deeper e0.frames, .inr ⟨rfl, rfl⟩, fun b z => absurd z (noA b), e0.bs, e0.bsz, fun b _ _ => noA b, fun b z => absurd z (noA b), e0.funs, e0.frf⟩,
    rfl, e0.bare, Un.kept hk, ⟨_, hns, fun i y v' h1 h2 h3 => ?_⟩, fun y c h => ?_, e0.hok.fresh (Nat.le_refl _), fun y c h => ?_, fun p hp => absurd (show p ∈ ([] : List (Addr × Obj)) from hp) (by simp), e0.hok.kept hk, rfl⟩
  · rw [(look y c h1).1, (look z c h2).1]
  · have hy : scope.names.lookup y = some .cell ∨ scope.names.lookup y = some .free := hy
    rcases hy with hy | hy
    · exact absurd rfl (S.ncell _ (PySem.mem_of_lookup hy))
    · have : y = "__class__" := S.free _ (PySem.mem_of_lookup hy) rfl
      exact ⟨cc, by rw [this]; rfl⟩
  · cases i with
    | zero =>
      cases h1
      cases h2
      exact ⟨u, rv, .inl ⟨S.self, rfl⟩⟩
    | succ i => cases h1
  · obtain ⟨_, rfl⟩ := look y c h
    exact ⟨_, _, hk _ _ (e0.bs _ _ KB).1, rfl⟩
  · obtain ⟨_, rfl⟩ := look y c h
    exact (e0.bs _ _ KB).2
end
/-- e and ..: the first operand at the code itself -/
theorem wpAt_and {M : Model} {A : Around} {c : Code} {E : Value → Shared → Prop} {s : Shared} {env : Env} {e₁ e₂ : Expr} {rest : List Expr} {pos : Pos} {Q : Value → Shared → Prop}
    (h : _root_.PySem.wpAt M A c (eval e₁ env) (fun v s₁ => wpAny M A (truthy v) (fun b s₂ => if b then wpAny M A (eval (.BoolOp .And (e₂ :: rest) pos) env) Q E s₂ else Q v s₂) E s₁) E s) :
    _root_.PySem.wpAt M A c (eval (.BoolOp .And (e₁ :: e₂ :: rest) pos) env) Q E s := by
  show _root_.PySem.wpAt M A c (do
    let v ← eval e₁ env
    standAt pos
    let c ← holding [v] (truthy v)
    match BoolOp.And, c with
    | .And, false | .Or, true => pure v
    | _, _ => boolOp pos .And (eval e₂ env :: evalEach rest env)) Q E s
  refine _root_.PySem.wpAt_bind (ks_wpAt_mono h (fun v s₁ h₁ => _root_.PySem.wpAt_of_wpAny (wpAny_bind (wpAny_standAt (wpAny_bind (wpAny_holding (wpAny_mono h₁ (fun c s₂ h₂ => ?_) fun _ _ x => x)))))) fun _ _ x => x)
  cases c with
  | false => exact wpAny_pure h₂
  | true => exact h₂
section
variable {P : Program} {w : World} {K : PySem.W.Frag} {mg : Str → Option Value} {base : Heap} {k k2 : Nat} {f f2 cda cc C D : Addr} {name qual m : Str} {params : Arguments} {scope : Scope} {dV kV doc pm ct oc ccl cl : Value} {an od cdd cld : Option Addr} {osl ccs csl : Array (Option Value)} {p0 p1 apos cpos bpos rpos : Pos} {e2 : Expr} {ar : Arg} {vsc : Array Value} {file : Str} {tf : Tok} {cdD cdC : ClassData} {fd2 : FuncData} {sp sp2 : Sp}
theorem fn_super {pl : Env → Sem Bool} (he : ∀ env : Env, eval (.Call (.Attribute (.Call (.Name "super" p0) [] [] p1) m apos) [] [] cpos) env = (do
      let ov ← attributeBase (.Call (.Name "super" p0) [] [] p1) m env (eval (.Call (.Name "super" p0) [] [] p1) env)
      standAt apos.atName
      let (f, first) ← holding [ov] (getMethod ov m (pl env))
      callWith cpos f first (backTo cpos (starEach [] env)) []))
    (lk : K.lookup f = some ⟨oc, od, .func (ksFn name qual params [.Return (some (.BoolOp .And [.Call (.Attribute (.Call (.Name "super" p0) [] [] p1) m apos) [] [] cpos, e2] bpos)) rpos] scope dV kV doc pm an (.ref cda) ct cc), osl⟩)
    (hcd : codeIn K (.ref cda) qual = true) (S : SScope scope) (hp : (params.posonlyargs ++ params.args).head? = some ar) (har : ar.arg = "self")
    (hcode : K.lookup cda = some ⟨ccl, cdd, .fields vsc, ccs⟩) (hvs : vsc[2]? = some (.str file tf)) (hfile : ((P.main.file : Str) == file) = true)
    (hcell : K.lookup cc = some ⟨cl, cld, .cell (some (.ref D)), csl⟩) (hD : clsIn K D = some cdD) (hC : clsIn K C = some cdC) (hsub : mroIn K C (.ref D) = some true)
    (hsu : mg "super" = none) (htop : (P.main.scope.names.lookup ("super" : Str)).isSome = false) (hboot : bootBuiltins "super" = some (.type "super")) (hop : nsIn K cStatics "thirdparty.any" = some none)
    (hm2 : ks_superIn K C D m = some (some (.ref f2))) (ht2 : typeIn K (.ref f2) = some (.type "function")) (hfi : fnIn K f2 = true) (hn : (m == ("__class__" : Str)) = false)
    (F2 : FnOk P w K mg base CX0 k2 f2 fd2 ["self"] sp2) (hk2 : k2 ≤ k) (hb2 : Binds K fd2 ["self"] [])
    (len : ∀ vs H Q E, sp vs H Q E → vs.length = 1)
    (hbody : ∀ (A : Around) (outer : List Env) (s : Shared) (H : Hp) (vs : List V) (Q : VK) (E : XK), Room k (A.deeper (ksEnv qual scope s.heap.objs.size f (.ref cda) cc)) → sp vs H Q E →
      ∃ x dx fs t2, vs = [.ref x] ∧ H x = some (.ins C dx fs) ∧ PE (cxS CX0 P w K mg base ["self"] qual scope f (.ref cda) cc A outer s H E) (.BoolOp .And [e2] bpos) t2 ∧
        sp2 [.ref x] H (fun v H1 => ∃ b, v = .bl b ∧ if b = true then t2 [some (.ref x)] H1 Q else Q (.bl false) H1) E0) :
    FnOk P w K mg base CX0 (k + 1) f (ksFn name qual params [.Return (some (.BoolOp .And [.Call (.Attribute (.Call (.Name "super" p0) [] [] p1) m apos) [] [] cpos, e2] bpos)) rpos] scope dV kV doc pm an (.ref cda) ct cc) ["self"] sp := by
  refine ⟨len, fun A outer s H args us vs Q E hr e0 hb r hsp => ?_⟩
  obtain ⟨x, dx, fs, t2, rfl, hx, he2, hq⟩ := hbody A outer s H vs Q E (hr.deeper _) hsp
  obtain ⟨u, rfl, ru⟩ := r.one
  cases ru
  have KX : K.In s.heap := e0.mod.kin.keeps fun b o e => (e0.bs b o e).1
  have lim : s.heap.NoLimit := e0.mod.nolimit.keeps fun b o e => (e0.bs b o e).1
  refine ks_codeAny_call_defAt hr.depth (KX _ _ lk) rfl lim (codeRec_of KX hcd) rfl hb S.ncell (fun y hy => ?_) (fun h0 hns hk => ?_) S.co S.gen S.kind
  · have : y = (("self" : Str), Value.ref x) := List.mem_singleton.mp hy
    rw [this]
    exact S.self
  have I : Inv (cxS CX0 P w K mg base ["self"] qual scope f (.ref cda) cc A outer s H E) [] [some (.ref x)] H { s with heap := h0, toks := s.toks + 1 } := inv_startS S hr e0 rfl hcell hns hk
  have KI : K.In h0 := I.kIn
  obtain ⟨mA, O, _⟩ := ins_get I.hok hx
  obtain ⟨odx, J, _⟩ := O.look
  obtain ⟨oD, hD1, hD2⟩ : ∃ oD, h0.get? D = some oD ∧ oD.data = .cls cdD := by
    unfold clsIn at hD
    split at hD
    · rename_i c d cd' sl ho
      cases hD
      exact ⟨_, KI _ _ ho, rfl⟩
    · cases hD
  have nc : ∀ c, (PySem.W.instObj C dx).data ≠ .cls c := fun c e => by cases e
  refine ks_wpAt_execs_cons (ks_wpAt_Return_some (wpAt_and ?_))
  refine ks_wpAt_MethodCall (ks_wpAt_super_base S.sup S.cls hn rfl (KI _ _ lk) rfl hp rfl (KI _ _ hcode) rfl hvs hfile htop ?_) (he _)
  obtain ⟨mb, b1, b2⟩ := e0.mod.blt
  refine ks_loadName_global S.kind S.sup (Calls.loadGlobal_builtin (env := ksEnv qual scope s.heap.objs.size f (.ref cda) cc) (e0.mod.glob.keeps I.bk) hsu (b1.keeps I.bk) ((b2 "super" (by decide)).trans hboot) ⟨rfl, ?_⟩)
  refine wpAny_loadName_free S.kind S.cls rfl ⟨_, KI _ _ hcell, rfl⟩ ?_
  rw [har]
  refine wpAny_loadName_local S.kind S.self hns rfl ?_
  refine ks_wpAny_isType_cls hD1 hD2 ⟨rfl, ?_⟩
  refine ks_wpAny_call_super hD1 hD2 J.at_ rfl nc (looks_mroIn KI hsub) (fun h' e e1 => ?_)
  have K1 : K.In h' := KI.keeps e1
  obtain ⟨of, hof, hofc⟩ : ∃ of, h'.get? f2 = some of ∧ of.cls = .type "function" := by
    have ht' : (K.lookup f2).map (·.cls) = some (.type "function") := ht2
    cases z : K.lookup f2 with
    | none => rw [z] at ht'; cases ht'
    | some of => rw [z] at ht'; exact ⟨of, K1 _ _ z, Option.some.inj ht'⟩
  have hm3 : alongIn K m ((cdC.mro.dropWhile (· != .ref D)).drop 1) = some (some (.ref f2)) := by
    unfold ks_superIn at hm2
    rw [hC] at hm2
    exact hm2
  have xC : x ≠ C := ks_ne KI J hC
  refine ks_wpAny_getMethod_super e (looks_opaque K1 hop) (l₀ := cdC.mro) (fun A Q E s kp q => wpAny_bind ((looks_clsIn K1 hC) A _ E s kp (wpAny_pure q))) rfl K1 hm3 hof hofc xC hn ?_
  have kq : ∀ b o, h0.get? b = some o → (h'.push { cls := .type "method", data := .fields #[.ref f2, .ref x] }).get? b = some o := fun b o z => Heap.get?_push_of_some _ (e1 b o z)
  have I2 : Inv (cxS CX0 P w K mg base ["self"] qual scope f (.ref cda) cc A outer s H E) [] [some (.ref x)] H { s with heap := h'.push { cls := .type "method", data := .fields #[.ref f2, .ref x] }, toks := s.toks + 1 + 1 } := I.kept (t' := s.toks + 1 + 1) kq
  have hm4 : (h'.push { cls := .type "method", data := .fields #[.ref f2, .ref x] }).get? h'.objs.size = some (methodObj (.ref f2) (.ref x)) := Heap.get?_push_size h' rfl
  refine callWith_M0 ⟨hm4, I2.kIn⟩ hfi ?_
  refine wpAny_call (method_call hm4 (codeAny_mono (F2.run _ _ _ H ⟨[.ref x], []⟩ [.ref x] [.ref x] _ E0 ((hr.deeper _).mono hk2) I2.env0 (hb2 _ [.ref x] I2.kIn rfl) (.cons rfl .nil) hq) fun r' s' hq' => ?_))
  cases r' with
  | error e => exact False.elim hq'
  | ok fl =>
    cases fl with
    | next => exact False.elim hq'
    | brk => exact False.elim hq'
    | cont => exact False.elim hq'
    | ret u =>
      obtain ⟨v, H1, I3, rv, b, rfl, q3⟩ := I2.after hq'
      cases rv
      refine wpAny_truthy_bool ?_
      have fin : ∀ {σ' : L2.St} {H' : Hp} {v : V} {u : Value} {s' : Shared}, Inv (cxS CX0 P w K mg base ["self"] qual scope f (.ref cda) cc A outer s H E) [] σ' H' s' → RelV v u → Q v H' → CE outer P w H s Q u s' :=
        fun {σ' H' v u s'} J rv q => ⟨v, H', J.os, J.bare, J.base, J.hok, rv, q⟩
      cases b with
      | false => exact fin I3 (v := .bl false) rfl q3
      | true =>
        refine wpAny_mono (he2.run [] s' [some (.ref x)] H1 _ I3 q3) (fun u2 s2 h2 => ?_) fun e s2 h2 => h2
        obtain ⟨v2, H2, I4, rv2, q4⟩ := h2
        exact fin I4 rv2 q4
end
end Su

namespace K16
open PySem L2
def top (i : Nat) : Stmt := PySem.Challenge.pw_wheelchorus_k16_boxes_alone.main.body.getD i (.Pass ⟨0, 0, 0, 0⟩)
abbrev s_is_number : Stmt := top 13
abbrev s_check_number : Stmt := top 14
abbrev s_blocks : Stmt := top 15
abbrev s_row_of : Stmt := top 16
abbrev s_init : Stmt := inClass (top 30) 0
abbrev s_standing : Stmt := inClass (top 30) 1
abbrev s_breaks : Stmt := inClass (top 30) 2
abbrev s_pull : Stmt := inClass (top 30) 3
abbrev s_wcan : Stmt := inClass (top 30) 4
abbrev s_begin : Stmt := inClass (top 30) 5
abbrev s_go_on : Stmt := inClass (top 30) 6
abbrev s_stand_as : Stmt := inClass (top 30) 7
abbrev s_pcall : Stmt := inClass (top 31) 0
abbrev s_pcopied : Stmt := inClass (top 31) 1
abbrev s_scall : Stmt := inClass (top 32) 1
abbrev s_scopied : Stmt := inClass (top 32) 2
abbrev s_wheel : Stmt := top 33
abbrev s_source : Stmt := top 35
abbrev s_draw : Stmt := top 36
abbrev s_number : Stmt := top 37
abbrev s_times : Stmt := top 38
abbrev s_row : Stmt := top 39
abbrev s_bool : Stmt := top 40
abbrev s_begins : Stmt := top 41
abbrev s_behind : Stmt := top 42
abbrev s_stands : Stmt := top 43
abbrev s_pulled : Stmt := top 44
abbrev s_ticked : Stmt := top 45
abbrev s_walk : Stmt := top 46
abbrev s_kind : Stmt := top 47
abbrev s_copy : Stmt := top 48
abbrev s_law : Stmt := top 49
abbrev nm_is_number : List Str := ["thing", "letter"]
theorem sc_is_number : FnScope nm_is_number ["thing"] (defScope s_is_number) :=
  ⟨rfl, rfl, rfl, by decide +kernel, rfl, by decide +kernel, by decide +kernel⟩
abbrev nm_check_number : List Str := ["thing"]
theorem sc_check_number : FnScope nm_check_number ["thing"] (defScope s_check_number) :=
  ⟨rfl, rfl, rfl, by decide +kernel, rfl, by decide +kernel, by decide +kernel⟩
abbrev nm_blocks : List Str := ["number", "letter"]
theorem sc_blocks : FnScope nm_blocks ["number"] (defScope s_blocks) :=
  ⟨rfl, rfl, rfl, by decide +kernel, rfl, by decide +kernel, by decide +kernel⟩
abbrev nm_row_of : List Str := ["number", "row", "strokes"]
theorem sc_row_of : FnScope nm_row_of ["number"] (defScope s_row_of) :=
  ⟨rfl, rfl, rfl, by decide +kernel, rfl, by decide +kernel, by decide +kernel⟩
abbrev nm_init : List Str := ["self", "number", "rounds"]
theorem sc_init : FnScope nm_init ["self", "number", "rounds"] (defScope s_init) :=
  ⟨rfl, rfl, rfl, by decide +kernel, rfl, by decide +kernel, by decide +kernel⟩
abbrev nm_standing : List Str := ["self"]
theorem sc_standing : FnScope nm_standing ["self"] (defScope s_standing) :=
  ⟨rfl, rfl, rfl, by decide +kernel, rfl, by decide +kernel, by decide +kernel⟩
abbrev nm_breaks : List Str := ["self"]
theorem sc_breaks : FnScope nm_breaks ["self"] (defScope s_breaks) :=
  ⟨rfl, rfl, rfl, by decide +kernel, rfl, by decide +kernel, by decide +kernel⟩
abbrev nm_pull : List Str := ["self"]
theorem sc_pull : FnScope nm_pull ["self"] (defScope s_pull) :=
  ⟨rfl, rfl, rfl, by decide +kernel, rfl, by decide +kernel, by decide +kernel⟩
abbrev nm_wcan : List Str := ["self"]
theorem sc_wcan : FnScope nm_wcan ["self"] (defScope s_wcan) :=
  ⟨rfl, rfl, rfl, by decide +kernel, rfl, by decide +kernel, by decide +kernel⟩
abbrev nm_begin : List Str := ["self"]
theorem sc_begin : FnScope nm_begin ["self"] (defScope s_begin) :=
  ⟨rfl, rfl, rfl, by decide +kernel, rfl, by decide +kernel, by decide +kernel⟩
abbrev nm_go_on : List Str := ["self"]
theorem sc_go_on : FnScope nm_go_on ["self"] (defScope s_go_on) :=
  ⟨rfl, rfl, rfl, by decide +kernel, rfl, by decide +kernel, by decide +kernel⟩
abbrev nm_stand_as : List Str := ["self", "other"]
theorem sc_stand_as : FnScope nm_stand_as ["self", "other"] (defScope s_stand_as) :=
  ⟨rfl, rfl, rfl, by decide +kernel, rfl, by decide +kernel, by decide +kernel⟩
abbrev nm_pcall : List Str := ["self", "broken"]
theorem sc_pcall : FnScope nm_pcall ["self", "broken"] (defScope s_pcall) :=
  ⟨rfl, rfl, rfl, by decide +kernel, rfl, by decide +kernel, by decide +kernel⟩
abbrev nm_pcopied : List Str := ["self", "fresh"]
theorem sc_pcopied : FnScope nm_pcopied ["self"] (defScope s_pcopied) :=
  ⟨rfl, rfl, rfl, by decide +kernel, rfl, by decide +kernel, by decide +kernel⟩
abbrev nm_scall : List Str := ["self", "broken", "is_sent"]
theorem sc_scall : FnScope nm_scall ["self", "broken"] (defScope s_scall) :=
  ⟨rfl, rfl, rfl, by decide +kernel, rfl, by decide +kernel, by decide +kernel⟩
abbrev nm_scopied : List Str := ["self", "fresh"]
theorem sc_scopied : FnScope nm_scopied ["self"] (defScope s_scopied) :=
  ⟨rfl, rfl, rfl, by decide +kernel, rfl, by decide +kernel, by decide +kernel⟩
abbrev nm_wheel : List Str := ["number", "sort", "rounds"]
theorem sc_wheel : FnScope nm_wheel ["number", "sort", "rounds"] (defScope s_wheel) :=
  ⟨rfl, rfl, rfl, by decide +kernel, rfl, by decide +kernel, by decide +kernel⟩
abbrev nm_source : List Str := ["_law_script", "_law_cells", "_law_cell"]
theorem sc_source : FnScope nm_source ["_law_script"] (defScope s_source) :=
  ⟨rfl, rfl, rfl, by decide +kernel, rfl, by decide +kernel, by decide +kernel⟩
abbrev nm_draw : List Str := ["_law_source_here", "_law_many", "_law_cell"]
theorem sc_draw : FnScope nm_draw ["_law_source_here", "_law_many"] (defScope s_draw) :=
  ⟨rfl, rfl, rfl, by decide +kernel, rfl, by decide +kernel, by decide +kernel⟩
abbrev nm_number : List Str := ["_law_source_here", "_law_many", "_law_top", "_law_left", "_law_word", "_law_k", "_law_digit"]
theorem sc_number : FnScope nm_number ["_law_source_here"] (defScope s_number) :=
  ⟨rfl, rfl, rfl, by decide +kernel, rfl, by decide +kernel, by decide +kernel⟩
abbrev nm_times : List Str := ["_law_source_here"]
theorem sc_times : FnScope nm_times ["_law_source_here"] (defScope s_times) :=
  ⟨rfl, rfl, rfl, by decide +kernel, rfl, by decide +kernel, by decide +kernel⟩
abbrev nm_row : List Str := ["_law_number_here", "_law_row_here", "_law_digit"]
theorem sc_row : FnScope nm_row ["_law_number_here"] (defScope s_row) :=
  ⟨rfl, rfl, rfl, by decide +kernel, rfl, by decide +kernel, by decide +kernel⟩
abbrev nm_bool : List Str := ["_law_thing", "_law_due"]
theorem sc_bool : FnScope nm_bool ["_law_thing", "_law_due"] (defScope s_bool) :=
  ⟨rfl, rfl, rfl, by decide +kernel, rfl, by decide +kernel, by decide +kernel⟩
abbrev nm_begins : List Str := ["_law_model", "_law_sort", "_law_left", "_law_sent", "_law_place", "_law_quiet"]
theorem sc_begins : FnScope nm_begins ["_law_model", "_law_sort"] (defScope s_begins) :=
  ⟨rfl, rfl, rfl, by decide +kernel, rfl, by decide +kernel, by decide +kernel⟩
abbrev nm_behind : List Str := ["_law_model", "_law_sort", "_law_row_here", "_law_broken", "_law_left", "_law_sent", "_law_place", "_law_quiet", "_law_done"]
theorem sc_behind : FnScope nm_behind ["_law_model", "_law_sort", "_law_row_here", "_law_broken"] (defScope s_behind) :=
  ⟨rfl, rfl, rfl, by decide +kernel, rfl, by decide +kernel, by decide +kernel⟩
abbrev nm_stands : List Str := ["_law_box", "_law_model", "_law_standing"]
theorem sc_stands : FnScope nm_stands ["_law_box", "_law_model"] (defScope s_stands) :=
  ⟨rfl, rfl, rfl, by decide +kernel, rfl, by decide +kernel, by decide +kernel⟩
abbrev nm_pulled : List Str := ["_law_box", "_law_model", "_law_times_here", "_law_told"]
theorem sc_pulled : FnScope nm_pulled ["_law_box", "_law_model", "_law_times_here"] (defScope s_pulled) :=
  ⟨rfl, rfl, rfl, by decide +kernel, rfl, by decide +kernel, by decide +kernel⟩
abbrev nm_ticked : List Str := ["_law_box", "_law_model", "_law_sort", "_law_row_here", "_law_mode", "_law_broken", "_law_due", "_law_own", "_law_done"]
theorem sc_ticked : FnScope nm_ticked ["_law_box", "_law_model", "_law_sort", "_law_row_here", "_law_mode", "_law_broken"] (defScope s_ticked) :=
  ⟨rfl, rfl, rfl, by decide +kernel, rfl, by decide +kernel, by decide +kernel⟩
abbrev nm_walk : List Str := ["_law_source_here", "_law_box", "_law_model", "_law_sort", "_law_row_here", "_law_mode", "_law_many", "_law_odd", "_law_k", "_law_broken"]
theorem sc_walk : FnScope nm_walk ["_law_source_here", "_law_box", "_law_model", "_law_sort", "_law_row_here"] (defScope s_walk) :=
  ⟨rfl, rfl, rfl, by decide +kernel, rfl, by decide +kernel, by decide +kernel⟩
abbrev nm_kind : List Str := ["_law_box", "_law_sort"]
theorem sc_kind : FnScope nm_kind ["_law_box", "_law_sort"] (defScope s_kind) :=
  ⟨rfl, rfl, rfl, by decide +kernel, rfl, by decide +kernel, by decide +kernel⟩
abbrev nm_copy : List Str := ["_law_source_here", "_law_one", "_law_box", "_law_sort", "_law_times_here", "_law_model", "_law_row_here", "_law_other", "_law_near", "_law_k"]
theorem sc_copy : FnScope nm_copy ["_law_source_here", "_law_one"] (defScope s_copy) :=
  ⟨rfl, rfl, rfl, by decide +kernel, rfl, by decide +kernel, by decide +kernel⟩
abbrev nm_law : List Str := ["_law_script", "_law_source_here", "_law_boxes", "_law_k", "_law_number_here", "_law_sort", "_law_times_here", "_law_box", "_law_kept", "_law_one", "_law_what", "_law_model", "_law_other"]
theorem sc_law : FnScope nm_law ["_law_script"] (defScope s_law) :=
  ⟨rfl, rfl, rfl, by decide +kernel, rfl, by decide +kernel, by decide +kernel⟩
abbrev s_scan : Stmt := inClass (top 32) 0
/-- what the text says of ShyBox.can_begin, which asks super() -/
structure SupOk (P : Program) (K : PySem.W.Frag) (mg : Str → Option Value) (SB : Addr) (f : Addr) (fd : FuncData) (f2 : Addr) : Prop where
  ex : ∃ (kV doc pm ct oc ccl cl : Value) (an od cdd cld : Option Addr) (osl ccs csl : Array (Option Value)) (cda cc : Addr) (vsc : Array Value) (file : Str) (tf : Tok) (cdC : ClassData),
    fd = PySem.W.ksFn "can_begin" "ShyBox.can_begin" (defArgs s_scan) (defBody s_scan) (defScope s_scan) .none kV doc pm an (.ref cda) ct cc ∧
    K.lookup f = some ⟨oc, od, .func fd, osl⟩ ∧ PySem.W.codeIn K (.ref cda) "ShyBox.can_begin" = true ∧ K.lookup cda = some ⟨ccl, cdd, .fields vsc, ccs⟩ ∧ vsc[2]? = some (.str file tf) ∧ ((P.main.file : Str) == file) = true ∧
    K.lookup cc = some ⟨cl, cld, .cell (some (.ref SB)), csl⟩ ∧ PySem.W.clsIn K SB = some cdC
  sub : PySem.W.mroIn K SB (.ref SB) = some true
  mgn : mg "super" = none
  top : (P.main.scope.names.lookup ("super" : Str)).isSome = false
  stat : PySem.W.nsIn K cStatics "thirdparty.any" = some none
  sup : PySem.W.ks_superIn K SB SB "can_begin" = some (some (.ref f2))
  ty : PySem.W.typeIn K (.ref f2) = some (.type "function")
  fn : PySem.W.fnIn K f2 = true
structure Txt (P : Program) (K : PySem.W.Frag) (mg : Str → Option Value) where
  WB : Addr
  PB : Addr
  SB : Addr
  TC : Addr
  gWB : mg "WheelBox" = some (.ref WB)
  gPB : mg "PlainBox" = some (.ref PB)
  gSB : mg "ShyBox" = some (.ref SB)
  gTC : mg "Town" = some (.ref TC)
  clPB : Cls K PB
  clSB : Cls K SB
  mcT : Value
  rdT : ClX.CRead K TC mcT
  uPl : Value
  vPl : ClX.CVal K TC mcT "PLAIN" (.str "plain") uPl
  na : ∀ C, C = PB ∨ C = SB → ∀ f ∈ ([("number" : Str), "_rounds", "_row", "_left", "_sent", "_place", "_quiet"]), NoAttr K C f
  isP : SlX.SIsi K PB
  isS : SlX.SIsi K SB
  kPW : PySem.W.kitOne K (.ref PB) (.ref WB) = some true
  kSW : PySem.W.kitOne K (.ref SB) (.ref WB) = some true
  kPS : PySem.W.kitOne K (.ref PB) (.ref SB) = some false
  kSS : PySem.W.kitOne K (.ref SB) (.ref SB) = some true
  kPP : PySem.W.kitOne K (.ref PB) (.ref PB) = some true
  kSP : PySem.W.kitOne K (.ref SB) (.ref PB) = some false
  PBne : PB ≠ SB
  a_is_number : Addr
  d_is_number : FuncData
  F_is_number : Fun K "is_number" "is_number" s_is_number a_is_number d_is_number
  b_is_number : Binds K d_is_number ["thing"] []
  g_is_number : mg "is_number" = some (.ref a_is_number)
  a_check_number : Addr
  d_check_number : FuncData
  F_check_number : Fun K "check_number" "check_number" s_check_number a_check_number d_check_number
  b_check_number : Binds K d_check_number ["thing"] []
  g_check_number : mg "check_number" = some (.ref a_check_number)
  a_blocks : Addr
  d_blocks : FuncData
  F_blocks : Fun K "blocks" "blocks" s_blocks a_blocks d_blocks
  b_blocks : Binds K d_blocks ["number"] []
  g_blocks : mg "blocks" = some (.ref a_blocks)
  a_row_of : Addr
  d_row_of : FuncData
  F_row_of : Fun K "row_of" "row_of" s_row_of a_row_of d_row_of
  b_row_of : Binds K d_row_of ["number"] []
  g_row_of : mg "row_of" = some (.ref a_row_of)
  a_init : Addr
  d_init : FuncData
  F_init : Fun K "__init__" "WheelBox.__init__" s_init a_init d_init
  b_init : Binds K d_init ["self", "number", "rounds"] []
  a_standing : Addr
  d_standing : FuncData
  F_standing : Fun K "standing" "WheelBox.standing" s_standing a_standing d_standing
  b_standing : Binds K d_standing ["self"] []
  a_breaks : Addr
  d_breaks : FuncData
  F_breaks : Fun K "breaks" "WheelBox.breaks" s_breaks a_breaks d_breaks
  b_breaks : Binds K d_breaks ["self"] []
  a_pull : Addr
  d_pull : FuncData
  F_pull : Fun K "pull" "WheelBox.pull" s_pull a_pull d_pull
  b_pull : Binds K d_pull ["self"] []
  a_wcan : Addr
  d_wcan : FuncData
  F_wcan : Fun K "can_begin" "WheelBox.can_begin" s_wcan a_wcan d_wcan
  b_wcan : Binds K d_wcan ["self"] []
  a_begin : Addr
  d_begin : FuncData
  F_begin : Fun K "begin" "WheelBox.begin" s_begin a_begin d_begin
  b_begin : Binds K d_begin ["self"] []
  a_go_on : Addr
  d_go_on : FuncData
  F_go_on : Fun K "go_on" "WheelBox.go_on" s_go_on a_go_on d_go_on
  b_go_on : Binds K d_go_on ["self"] []
  a_stand_as : Addr
  d_stand_as : FuncData
  F_stand_as : Fun K "stand_as" "WheelBox.stand_as" s_stand_as a_stand_as d_stand_as
  b_stand_as : Binds K d_stand_as ["self", "other"] []
  a_pcall : Addr
  d_pcall : FuncData
  F_pcall : Fun K "__call__" "PlainBox.__call__" s_pcall a_pcall d_pcall
  b_pcall : Binds K d_pcall ["self", "broken"] []
  a_pcopied : Addr
  d_pcopied : FuncData
  F_pcopied : Fun K "copied" "PlainBox.copied" s_pcopied a_pcopied d_pcopied
  b_pcopied : Binds K d_pcopied ["self"] []
  a_scall : Addr
  d_scall : FuncData
  F_scall : Fun K "__call__" "ShyBox.__call__" s_scall a_scall d_scall
  b_scall : Binds K d_scall ["self", "broken"] []
  a_scopied : Addr
  d_scopied : FuncData
  F_scopied : Fun K "copied" "ShyBox.copied" s_scopied a_scopied d_scopied
  b_scopied : Binds K d_scopied ["self"] []
  a_wheel : Addr
  d_wheel : FuncData
  F_wheel : Fun K "wheel" "wheel" s_wheel a_wheel d_wheel
  b_wheel : Binds K d_wheel ["number", "sort", "rounds"] []
  g_wheel : mg "wheel" = some (.ref a_wheel)
  a_source : Addr
  d_source : FuncData
  F_source : Fun K "_law_source" "_law_source" s_source a_source d_source
  b_source : Binds K d_source ["_law_script"] []
  g_source : mg "_law_source" = some (.ref a_source)
  a_draw : Addr
  d_draw : FuncData
  F_draw : Fun K "_law_draw" "_law_draw" s_draw a_draw d_draw
  b_draw : Binds K d_draw ["_law_source_here", "_law_many"] []
  g_draw : mg "_law_draw" = some (.ref a_draw)
  a_number : Addr
  d_number : FuncData
  F_number : Fun K "_law_number" "_law_number" s_number a_number d_number
  b_number : Binds K d_number ["_law_source_here"] []
  g_number : mg "_law_number" = some (.ref a_number)
  a_times : Addr
  d_times : FuncData
  F_times : Fun K "_law_times" "_law_times" s_times a_times d_times
  b_times : Binds K d_times ["_law_source_here"] []
  g_times : mg "_law_times" = some (.ref a_times)
  a_row : Addr
  d_row : FuncData
  F_row : Fun K "_law_row" "_law_row" s_row a_row d_row
  b_row : Binds K d_row ["_law_number_here"] []
  g_row : mg "_law_row" = some (.ref a_row)
  a_bool : Addr
  d_bool : FuncData
  F_bool : Fun K "_law_bool" "_law_bool" s_bool a_bool d_bool
  b_bool : Binds K d_bool ["_law_thing", "_law_due"] []
  g_bool : mg "_law_bool" = some (.ref a_bool)
  a_begins : Addr
  d_begins : FuncData
  F_begins : Fun K "_law_begins" "_law_begins" s_begins a_begins d_begins
  b_begins : Binds K d_begins ["_law_model", "_law_sort"] []
  g_begins : mg "_law_begins" = some (.ref a_begins)
  a_behind : Addr
  d_behind : FuncData
  F_behind : Fun K "_law_behind" "_law_behind" s_behind a_behind d_behind
  b_behind : Binds K d_behind ["_law_model", "_law_sort", "_law_row_here", "_law_broken"] []
  g_behind : mg "_law_behind" = some (.ref a_behind)
  a_stands : Addr
  d_stands : FuncData
  F_stands : Fun K "_law_stands" "_law_stands" s_stands a_stands d_stands
  b_stands : Binds K d_stands ["_law_box", "_law_model"] []
  g_stands : mg "_law_stands" = some (.ref a_stands)
  a_pulled : Addr
  d_pulled : FuncData
  F_pulled : Fun K "_law_pulled" "_law_pulled" s_pulled a_pulled d_pulled
  b_pulled : Binds K d_pulled ["_law_box", "_law_model", "_law_times_here"] []
  g_pulled : mg "_law_pulled" = some (.ref a_pulled)
  a_ticked : Addr
  d_ticked : FuncData
  F_ticked : Fun K "_law_ticked" "_law_ticked" s_ticked a_ticked d_ticked
  b_ticked : Binds K d_ticked ["_law_box", "_law_model", "_law_sort", "_law_row_here", "_law_mode", "_law_broken"] []
  g_ticked : mg "_law_ticked" = some (.ref a_ticked)
  a_walk : Addr
  d_walk : FuncData
  F_walk : Fun K "_law_walk" "_law_walk" s_walk a_walk d_walk
  b_walk : Binds K d_walk ["_law_source_here", "_law_box", "_law_model", "_law_sort", "_law_row_here"] []
  g_walk : mg "_law_walk" = some (.ref a_walk)
  a_kind : Addr
  d_kind : FuncData
  F_kind : Fun K "_law_kind" "_law_kind" s_kind a_kind d_kind
  b_kind : Binds K d_kind ["_law_box", "_law_sort"] []
  g_kind : mg "_law_kind" = some (.ref a_kind)
  a_copy : Addr
  d_copy : FuncData
  F_copy : Fun K "_law_copy" "_law_copy" s_copy a_copy d_copy
  b_copy : Binds K d_copy ["_law_source_here", "_law_one"] []
  g_copy : mg "_law_copy" = some (.ref a_copy)
  a_law : Addr
  d_law : FuncData
  F_law : Fun K "law" "law" s_law a_law d_law
  b_law : Binds K d_law ["_law_script"] []
  g_law : mg "law" = some (.ref a_law)
  t_DIGITS : Tok
  c_DIGITS : mg "DIGITS" = some (.str "123456789" t_DIGITS)
  t_MOST_DIGITS : Tok
  c_MOST_DIGITS : mg "MOST_DIGITS" = some (.int 4 t_MOST_DIGITS)
  t_GREATEST_SUM : Tok
  c_GREATEST_SUM : mg "GREATEST_SUM" = some (.int 24 t_GREATEST_SUM)
  t_MOST_LOOPS : Tok
  c_MOST_LOOPS : mg "MOST_LOOPS" = some (.int 3 t_MOST_LOOPS)
  t_MOST_BOXES : Tok
  c_MOST_BOXES : mg "MOST_BOXES" = some (.int 10 t_MOST_BOXES)
  t_MOST_ROUNDS : Tok
  c_MOST_ROUNDS : mg "MOST_ROUNDS" = some (.int 8 t_MOST_ROUNDS)
  t_QUIET_AHEAD : Tok
  c_QUIET_AHEAD : mg "QUIET_AHEAD" = some (.int 8 t_QUIET_AHEAD)
  t_MOST_QUIET : Tok
  c_MOST_QUIET : mg "MOST_QUIET" = some (.int 16 t_MOST_QUIET)
  z_abs : mg "abs" = none
  z_all : mg "all" = none
  z_bool : mg "bool" = none
  z_int : mg "int" = none
  z_isinstance : mg "isinstance" = none
  z_len : mg "len" = none
  z_min : mg "min" = none
  z_range : mg "range" = none
  z_repr : mg "repr" = none
  z_str : mg "str" = none
  z_sum : mg "sum" = none
  z_tuple : mg "tuple" = none
  mkP : Mk K PB a_init
  mkS : Mk K SB a_init
  pyst : Addr
  pybr : Addr
  pP_standing : PropOf K PB "standing" pyst a_standing
  pS_standing : PropOf K SB "standing" pyst a_standing
  pP_breaks : PropOf K PB "breaks" pybr a_breaks
  pS_breaks : PropOf K SB "breaks" pybr a_breaks
  mP_pull : Meth K PB "pull" a_pull
  mS_pull : Meth K SB "pull" a_pull
  mP_begin : Meth K PB "begin" a_begin
  mS_begin : Meth K SB "begin" a_begin
  mP_go_on : Meth K PB "go_on" a_go_on
  mS_go_on : Meth K SB "go_on" a_go_on
  mP_stand_as : Meth K PB "stand_as" a_stand_as
  mS_stand_as : Meth K SB "stand_as" a_stand_as
  mP_wcan : Meth K PB "can_begin" a_wcan
  a_scan : Addr
  d_scan : FuncData
  mS_scan : Meth K SB "can_begin" a_scan
  b_scan : Binds K d_scan ["self"] []
  su : SupOk P K mg SB a_scan d_scan a_wcan
  mP_pcopied : Meth K PB "copied" a_pcopied
  mS_scopied : Meth K SB "copied" a_scopied
  cP : StX.CallO K PB a_pcall
  cS : StX.CallO K SB a_scall
end K16

/-! The promises. -/
namespace K16
open PySem L2 Wm TL Dv
def sortS (b : Bool) : Str := if b then "shy" else "plain"
structure Md where
  l : Nat
  s : Nat
  p : Option Nat
  q : Nat
def oV : Option Nat → V
  | some d => .int (d : Nat)
  | none => .non
def oD : Option Nat → PyData
  | some d => .int (d : Nat)
  | none => .none
def mdV (m : Md) : List V := [.int (m.l : Nat), .int (m.s : Nat), oV m.p, .int (m.q : Nat)]
def mdD (m : Md) : PyData := .tuple [.int (m.l : Nat), .int (m.s : Nat), oD m.p, .int (m.q : Nat)]
def MdAt (K : PySem.W.Frag) (H : Hp) (v : V) (m : Md) : Prop := ∃ q, v = .ref q ∧ SqT K H q (mdV m)
def rowV (ds : List Nat) : List V := (rowL ds).map V.int
/-- what a box does -/
def brk (ds : List Nat) (m : Md) : Bool := match m.p with
  | none => false
  | some i => decide ((rowL ds)[i]? = some 1)
def wcan (m : Md) : Bool := m.p.isNone && decide (0 < m.l)
def can (b : Bool) (m : Md) : Bool := wcan m && (!b || decide (8 + m.s ≤ m.q))
def pulled (rd : Nat) (m : Md) : Md := if m.l = 0 then ⟨rd, 0, m.p, m.q⟩ else m
def begun (b : Bool) (m : Md) : Md := if can b m then ⟨m.l, m.s, some 0, m.q⟩ else m
def go (n : Nat) (m : Md) : Md × Bool := match m.p with
  | none => (m, false)
  | some i => if i + 1 < n then (⟨m.l, m.s, some (i + 1), m.q⟩, false) else (⟨m.l - 1, if 1 < m.l then m.s + 1 else 0, none, m.q⟩, true)
def calm (br : Bool) (m : Md) : Md := ⟨m.l, m.s, m.p, if br then 0 else min (m.q + 1) 16⟩
def shyc (ds : List Nat) (br : Bool) (m : Md) : Md × Bool :=
  if br && m.p.isSome && !brk ds m then (calm br ⟨m.l, m.s, none, m.q⟩, false) else (calm br (go (rowL ds).length m).1, (go (rowL ds).length m).2)
def called (b : Bool) (ds : List Nat) (br : Bool) (m : Md) : Md × Bool := if b then shyc ds br m else go (rowL ds).length m
structure MOk (n : Nat) (m : Md) : Prop where
  pl : ∀ i, m.p = some i → i < n ∧ 1 ≤ m.l
  sl : m.s + m.l ≤ 8
  q : m.q ≤ 16
def flds : List Str := ["number", "_rounds", "_row", "_left", "_sent", "_place", "_quiet"]
structure Fs (fs : List (Str × V)) (ds : List Nat) (rd : Nat) (r : Addr) (m : Md) : Prop where
  num : fs.lookup ("number" : Str) = some (.str (numS ds))
  rds : fs.lookup ("_rounds" : Str) = some (.int (rd : Nat))
  row : fs.lookup ("_row" : Str) = some (.ref r)
  lf : fs.lookup ("_left" : Str) = some (.int (m.l : Nat))
  st : fs.lookup ("_sent" : Str) = some (.int (m.s : Nat))
  pc : fs.lookup ("_place" : Str) = some (oV m.p)
  qt : fs.lookup ("_quiet" : Str) = some (.int (m.q : Nat))
  no : ∀ f, f ∉ flds → fs.lookup f = none
  len : fs.length ≤ 100
def clOf (PB SB : Addr) (b : Bool) : Addr := if b then SB else PB
def BoxAt (K : PySem.W.Frag) (PB SB : Addr) (H : Hp) (x : Addr) (b : Bool) (ds : List Nat) (rd : Nat) (m : Md) : Prop :=
  ∃ dx fs r, H x = some (.ins (clOf PB SB b) dx fs) ∧ Fs fs ds rd r m ∧ SqT K H r (rowV ds) ∧ Num ds ∧ 1 ≤ rd ∧ rd ≤ 8 ∧ MOk (rowL ds).length m
/-- all but x stands -/
def FX (x : Addr) (H H' : Hp) : Prop := ∀ q o, q ≠ x → H q = some o → H' q = some o
def FX3 (s a x : Addr) (H H' : Hp) : Prop := ∀ q o, q ≠ s → q ≠ a → q ≠ x → H q = some o → H' q = some o
/-- the cells: two lists of whole numbers, a seed, a count of draws -/
def Src (H : Hp) (s a b : Addr) : Prop :=
  ∃ (x m : Int) (ns ms : List Int), H s = some (.lst [.ref a, .ref b, .int x, .int m]) ∧ H a = some (.lst (ns.map V.int)) ∧ H b = some (.lst (ms.map V.int)) ∧ a ≠ b ∧ a ≠ s ∧ b ≠ s ∧ 0 ≤ m
structure But2 (s a : Addr) (H H' : Hp) : Prop where
  keep : ∀ p o, p ≠ s → p ≠ a → H p = some o → H' p = some o
def sp_is_number (K : PySem.W.Frag) : Sp := fun vs H Q _ => ∃ (t : Str), t.length ≤ 100000 ∧ vs = [.str t] ∧ ∀ H' b, Same H H' → (b = true ↔ IsNum t) → Q (.bl b) H'
def sp_check_number (K : PySem.W.Frag) : Sp := fun vs H Q _ => ∃ (ds : List Nat), Num ds ∧ vs = [.str (numS ds)] ∧ ∀ H', Same H H' → Q .non H'
def sp_blocks (K : PySem.W.Frag) : Sp := fun vs H Q _ => ∃ (ds : List Nat), Num ds ∧ vs = [.str (numS ds)] ∧ ∀ H' p, Same H H' → H p = none → H' p = some (.tup (ds.map fun (d : Nat) => V.int (d : Int))) → Q (.ref p) H'
def sp_row_of (K : PySem.W.Frag) : Sp := fun vs H Q _ => ∃ (ds : List Nat), Num ds ∧ vs = [.str (numS ds)] ∧ ∀ H' p, Same H H' → H p = none → H' p = some (.tup ((rowL ds).map V.int)) → Q (.ref p) H'
section
variable (K : PySem.W.Frag) (PB SB : Addr)
def sp_init : Sp := fun vs H Q _ => ∃ (p dx : Addr) (b : Bool) (ds : List Nat) (rd : Nat), vs = [.ref p, .str (numS ds), .int (rd : Nat)] ∧ H p = some (.ins (clOf PB SB b) dx []) ∧ Num ds ∧ 1 ≤ rd ∧ rd ≤ 8 ∧ ∀ H', FX p H H' → BoxAt K PB SB H' p b ds rd ⟨0, 0, none, 0⟩ → Q .non H'
def sp_standing : Sp := fun vs H Q _ => ∃ x b ds rd m, vs = [.ref x] ∧ BoxAt K PB SB H x b ds rd m ∧ ∀ H' q, Same H H' → H q = none → H' q = some (.tup (mdV m)) → Q (.ref q) H'
def sp_breaks : Sp := fun vs H Q _ => ∃ x b ds rd m, vs = [.ref x] ∧ BoxAt K PB SB H x b ds rd m ∧ Q (.bl (brk ds m)) H
def sp_pull : Sp := fun vs H Q _ => ∃ x b ds rd m, vs = [.ref x] ∧ BoxAt K PB SB H x b ds rd m ∧ ∀ H', FX x H H' → BoxAt K PB SB H' x b ds rd (pulled rd m) → Q (.bl (decide (m.l = 0))) H'
def sp_wcan : Sp := fun vs H Q _ => ∃ x b ds rd m, vs = [.ref x] ∧ BoxAt K PB SB H x b ds rd m ∧ Q (.bl (wcan m)) H
def sp_scan : Sp := fun vs H Q _ => ∃ x ds rd m, vs = [.ref x] ∧ BoxAt K PB SB H x true ds rd m ∧ Q (.bl (can true m)) H
def sp_begin : Sp := fun vs H Q _ => ∃ x b ds rd m, vs = [.ref x] ∧ BoxAt K PB SB H x b ds rd m ∧ ∀ H', FX x H H' → BoxAt K PB SB H' x b ds rd (begun b m) → Q .non H'
def sp_go_on : Sp := fun vs H Q _ => ∃ x b ds rd m, vs = [.ref x] ∧ BoxAt K PB SB H x b ds rd m ∧ ∀ H', FX x H H' → BoxAt K PB SB H' x b ds rd (go (rowL ds).length m).1 → Q (.bl (go (rowL ds).length m).2) H'
def sp_stand_as : Sp := fun vs H Q _ => ∃ x y b ds rd m m2, vs = [.ref x, .ref y] ∧ x ≠ y ∧ BoxAt K PB SB H x b ds rd m ∧ BoxAt K PB SB H y b ds rd m2 ∧ ∀ H', FX x H H' → BoxAt K PB SB H' x b ds rd m2 → Q .non H'
def sp_pcall : Sp := fun vs H Q _ => ∃ x br ds rd m, vs = [.ref x, .bl br] ∧ BoxAt K PB SB H x false ds rd m ∧ ∀ H', FX x H H' → BoxAt K PB SB H' x false ds rd (called false ds br m).1 → Q (.bl (called false ds br m).2) H'
def sp_scall : Sp := fun vs H Q _ => ∃ x br ds rd m, vs = [.ref x, .bl br] ∧ BoxAt K PB SB H x true ds rd m ∧ ∀ H', FX x H H' → BoxAt K PB SB H' x true ds rd (called true ds br m).1 → Q (.bl (called true ds br m).2) H'
def sp_pcopied : Sp := fun vs H Q _ => ∃ x ds rd m, vs = [.ref x] ∧ BoxAt K PB SB H x false ds rd m ∧ ∀ H' y, Same H H' → H y = none → BoxAt K PB SB H' y false ds rd m → Q (.ref y) H'
def sp_scopied : Sp := fun vs H Q _ => ∃ x ds rd m, vs = [.ref x] ∧ BoxAt K PB SB H x true ds rd m ∧ ∀ H' y, Same H H' → H y = none → BoxAt K PB SB H' y true ds rd m → Q (.ref y) H'
def sp_wheel : Sp := fun vs H Q _ => ∃ b ds rd, vs = [.str (numS ds), .str (sortS b), .int (rd : Nat)] ∧ Num ds ∧ 1 ≤ rd ∧ rd ≤ 8 ∧ ∀ H' x, Same H H' → H x = none → BoxAt K PB SB H' x b ds rd ⟨0, 0, none, 0⟩ → Q (.ref x) H'
def sp_stands : Sp := fun vs H Q _ => ∃ x v b ds rd m, vs = [.ref x, v] ∧ BoxAt K PB SB H x b ds rd m ∧ MdAt K H v m ∧ ∀ H', Same H H' → Q (.bl true) H'
def sp_pulled : Sp := fun vs H Q _ => ∃ x v b ds rd m, vs = [.ref x, v, .int (rd : Nat)] ∧ BoxAt K PB SB H x b ds rd m ∧ MdAt K H v m ∧ ∀ H' v', FX x H H' → BoxAt K PB SB H' x b ds rd (pulled rd m) → MdAt K H' v' (pulled rd m) → Q v' H'
def sp_ticked : Sp := fun vs H Q _ => ∃ x v b r ds rd m br, ∃ mode : Int, vs = [.ref x, v, .str (sortS b), .ref r, .int mode, .bl br] ∧ BoxAt K PB SB H x b ds rd m ∧ MdAt K H v m ∧ SqT K H r (rowV ds) ∧ ∀ H' v' m', FX x H H' → BoxAt K PB SB H' x b ds rd m' → MdAt K H' v' m' → Q v' H'
def sp_walk : Sp := fun vs H Q _ => ∃ s a c x v b r ds rd m, vs = [.ref s, .ref x, v, .str (sortS b), .ref r] ∧ Src H s a c ∧ BoxAt K PB SB H x b ds rd m ∧ MdAt K H v m ∧ SqT K H r (rowV ds) ∧ ∀ H' v' m', FX3 s a x H H' → Src H' s a c → BoxAt K PB SB H' x b ds rd m' → MdAt K H' v' m' → Q v' H'
def sp_kind : Sp := fun vs H Q _ => ∃ x b ds rd m, vs = [.ref x, .str (sortS b)] ∧ BoxAt K PB SB H x b ds rd m ∧ Q (.bl true) H
def sp_copy : Sp := fun vs H Q _ => ∃ s a c l x v b r ds rd m, vs = [.ref s, .ref l] ∧ Src H s a c ∧ H l = some (.lst [.ref x, .str (sortS b), .int (rd : Nat), v, .ref r]) ∧ BoxAt K PB SB H x b ds rd m ∧ MdAt K H v m ∧ SqT K H r (rowV ds) ∧ ∀ H', But2 s a H H' → Src H' s a c → Q (.bl true) H'
end
def sp_source (K : PySem.W.Frag) : Sp := fun vs H Q _ => ∃ (a : Addr) (ns : List Int), vs = [.ref a] ∧ SqL K H a (ns.map V.int) ∧ ns.length ≤ 63 ∧ ∀ H' s a b, Same H H' → Src H' s a b → H s = none → H a = none → Q (.ref s) H'
def sp_draw (K : PySem.W.Frag) : Sp := fun vs H Q _ => ∃ (s a b : Addr) (lim : Int), vs = [.ref s, .int lim] ∧ 0 < lim ∧ lim < 1073741824 ∧ Src H s a b ∧
  ∀ H' (d : Int), 0 ≤ d → d < lim → Src H' s a b → But2 s a H H' → Q (.int d) H'
def sp_number (K : PySem.W.Frag) : Sp := fun vs H Q _ => ∃ (s a b : Addr), vs = [.ref s] ∧ Src H s a b ∧ ∀ H' (ds : List Nat), Num ds → Src H' s a b → But2 s a H H' → Q (.str (numS ds)) H'
def sp_times (K : PySem.W.Frag) : Sp := fun vs H Q _ => ∃ (s a b : Addr), vs = [.ref s] ∧ Src H s a b ∧ ∀ H' (rd : Nat), 1 ≤ rd → rd ≤ 8 → Src H' s a b → But2 s a H H' → Q (.int (rd : Nat)) H'
def sp_row (K : PySem.W.Frag) : Sp := fun vs H Q _ => ∃ (ds : List Nat), Num ds ∧ vs = [.str (numS ds)] ∧ ∀ H' p, Same H H' → H p = none → H' p = some (.tup (rowV ds)) → Q (.ref p) H'
def sp_bool (K : PySem.W.Frag) : Sp := fun vs H Q _ => ∃ a b : Bool, vs = [.bl a, .bl b] ∧ Q (.bl (a == b)) H
def sp_begins (K : PySem.W.Frag) : Sp := fun vs H Q _ => ∃ v b m, vs = [v, .str (sortS b)] ∧ MdAt K H v m ∧ Q (.bl (can b m)) H
def sp_behind (K : PySem.W.Frag) : Sp := fun vs H Q _ => ∃ v b r br ds m, vs = [v, .str (sortS b), .ref r, .bl br] ∧ MdAt K H v m ∧ SqT K H r (rowV ds) ∧ MOk (rowL ds).length m ∧ ∀ H' q v', Same H H' → H' q = some (.tup [v', .bl (called b ds br m).2]) → MdAt K H' v' (called b ds br m).1 → Q (.ref q) H'
def sp_law (K : PySem.W.Frag) : Sp := fun vs H Q _ => ∃ (a : Addr) (ns : List Int), vs = [.ref a] ∧ SqL K H a (ns.map V.int) ∧ ns.length ≤ 63 ∧ ∀ H', Same H H' → Q (.bl true) H'
end K16

namespace K16
open PySem L2 Wm TL Dv
section
variable {P : Program} {w : World} {K : PySem.W.Frag} {mg : Str → Option Value} {base : Heap}
theorem small_len {n : Nat} (h : n ≤ 100000) : n ≤ sizeLine := by
  have : (100000 : Nat) ≤ sizeLine := by decide
  omega
theorem sum_cast : ∀ ds : List Nat, (ds.map fun (d : Nat) => (d : Int)).sum = ((ds.sum : Nat) : Int)
  | [] => rfl
  | d :: ds => by
    rw [List.map_cons, List.sum_cons, List.sum_cons, sum_cast ds]
    omega
def letters (t : Str) : List Bool := (tl t).map fun c => decide (c ∈ ("123456789" : Str).cps.toList)
theorem letters_all {t : Str} : (letters t).all id = true ↔ ∀ c ∈ tl t, c ∈ ("123456789" : Str).cps.toList := by
  unfold letters
  rw [List.all_map, List.all_eq_true]
  constructor
  · intro h c m
    exact of_decide_eq_true (h c m)
  · intro h c m
    exact decide_eq_true (h c m)
theorem cps_at {t : Str} {i c : Nat} (h : t.cps[i]? = some c) : (tl t)[i]? = some c := by
  rw [← h]
  exact Array.getElem?_toList ..
theorem ok_is_number (T : Txt P K mg) : FnOk P w K mg base CX0 1 T.a_is_number T.d_is_number ["thing"] (sp_is_number K) := by
  refine T.F_is_number.ok sc_is_number (fun vs H Q E h => ?_) (fun cdv A outer s H vs Q E hr h => ?_)
  · obtain ⟨t, _, rfl, _⟩ := h
    rfl
  · obtain ⟨t, hz, rfl, k⟩ := h
    have hl : t.length = (tl t).length := len_tl t
    have numlen : IsNum t → 1 ≤ t.length ∧ t.length ≤ 4 := fun ⟨ds, N, e⟩ => by
      rw [e, numS_len]
      exact ⟨N.pos, N.len⟩
    refine ⟨_, (pss_cons (ps_if (PW.pt (pw_or (pt_not (pt_val (pe_callB call_isi (by rfl) T.z_isinstance (by decide +kernel) (pa_cons (pv 0) (pa_cons (pe_bltn (v := V.ty "str") (by rfl) T.z_str (by decide +kernel) rfl) pa_nil))))) (pw_or1 (pt_not (pt_chain op_le op_le pe_int (pe_callB call_len_str (by rfl) T.z_len PySem.boot_len (pa_cons (pv 0) pa_nil)) (pe_glob (v := V.int 4) rfl T.c_MOST_DIGITS ⟨_, rfl⟩))))))
        (pss_one (ps_ret pe_bl))
        pss_nil)
      (pss_cons (ps_if (pt_not (pt_val (pe_callB (cr_all rfl) (by rfl) T.z_all (by decide +kernel) (pa_cons (pe_lc (own := [("letter", 1)]) (g := gName 1) (tt := tYes) rfl sc_is_number.nd (pi_str (pv 0)) (blkOk_by (own := [("letter", 1)]) (N := nm_is_number) (sc := (defScope s_is_number)) (by decide +kernel)) (fun _ _ _ _ _ => pg_name (i := 1) sc_is_number.nd rfl (Or.inl rfl)) (fun _ _ _ _ _ => pts_nil) (fun _ _ _ _ _ => (pe_cmpR op_in_sign (pv 1) (pe_glob (v := V.str "123456789") rfl T.c_DIGITS ⟨_, rfl⟩) rfl))) pa_nil))))
        (pss_one (ps_ret pe_bl))
        pss_nil)
      (pss_one (ps_ret (pe_cmpR op_le (pe_callB (cr_sum rfl) (by rfl) T.z_sum (by decide +kernel) (pa_cons (pe_lc (own := [("letter", 1)]) (g := gName 1) (tt := tYes) rfl sc_is_number.nd (pi_str (pv 0)) (blkOk_by (own := [("letter", 1)]) (N := nm_is_number) (sc := (defScope s_is_number)) (by decide +kernel)) (fun _ _ _ _ _ => pg_name (i := 1) sc_is_number.nd rfl (Or.inl rfl)) (fun _ _ _ _ _ => pts_nil) (fun _ _ _ _ _ => (pe_callTy call_int_str (by rfl) T.z_int (by decide +kernel) (pa_cons (pv 1) pa_nil)))) pa_nil)) (pe_glob (v := V.int 24) rfl T.c_GREATEST_SUM ⟨_, rfl⟩) (nomark _)))))), ?_⟩
    refine ⟨_, rfl, _, _, _, _, true, rfl, .ty "str", .base (.str _), kit_ty (by decide +kernel), true, rfl, ?_⟩
    refine iteF ?_
    refine ⟨_, rfl, _, rfl, small_len hz, _, _, rfl, rfl, _, rfl, ?_⟩
    refine ite2 (fun c1 => ?_) (fun c1 => ?_)
    case refine_2 =>
      have c1' : ¬ (1 : Int) ≤ (t.length : Nat) := fun z => c1 (decide_eq_true z)
      refine ⟨false, rfl, iteT ?_⟩
      exact k _ _ (Same.refl _) ⟨fun z => (by cases z), fun z => absurd (numlen z).1 (by omega)⟩
    have c1' : (1 : Int) ≤ (t.length : Nat) := of_decide_eq_true c1
    refine ⟨_, _, rfl, rfl, _, rfl, ?_⟩
    by_cases c2 : ((t.length : Nat) : Int) ≤ 4
    case neg =>
      rw [decide_eq_false c2]
      refine iteT ?_
      exact k _ _ (Same.refl _) ⟨fun z => (by cases z), fun z => absurd (numlen z).2 (by omega)⟩
    rw [decide_eq_true c2]
    refine iteF ?_
    refine ⟨_, rfl, _, rfl, fun D hD => ?_⟩
    have hsz : t.cps.size = (tl t).length := hl
    refine lc_it walk_str (fun i H' => Same H H' ∧ H' D = some (.lst (((letters t).take i).map V.bl))) ⟨same_new hD, upd_same⟩ (fun _ _ _ _ => trivial) (fun i x H1 H' hi hP hY => ?_) (fun H1 hP => ?_)
    · obtain ⟨sm, hL⟩ := hP
      obtain ⟨rfl, c, hc, rfl⟩ := hY
      have hc2 : (letters t)[i]? = some (decide (c ∈ ("123456789" : Str).cps.toList)) := by
        unfold letters
        rw [List.getElem?_map, cps_at hc]
        rfl
      refine ⟨rfl, yesT ?_⟩
      refine ⟨_, rfl, _, _, rfl, rfl, _, hL, by rw [List.length_map, List.length_take]; exact small1000 (by omega), ?_⟩
      refine ⟨same_mut sm hD, ?_⟩
      rw [upd_same, take_succ_map _ hc2]
    · obtain ⟨sm, hL⟩ := hP
      have ell : (letters t).length = t.cps.size := by unfold letters; rw [List.length_map, hsz]
      rw [← ell, List.take_length] at hL
      refine ⟨D, letters t, rfl, SqL.of hL, _, rfl, ?_⟩
      by_cases c3 : (letters t).all id = true
      case neg =>
        rw [Bool.not_eq_true] at c3
        rw [c3]
        refine iteT ?_
        refine k _ _ sm ⟨fun z => (by cases z), fun ⟨ds, N, e⟩ => ?_⟩
        have q := letters_all.mpr (by rw [e]; exact num_codes N.dig : ∀ c ∈ tl t, c ∈ ("123456789" : Str).cps.toList)
        rw [c3] at q
        cases q
      rw [c3]
      refine iteF ?_
      obtain ⟨ds, dig, et⟩ := dig_text t (letters_all.mp c3)
      subst et
      rw [numS_len] at c1' c2
      refine ⟨_, rfl, _, rfl, fun D2 hD2 => ?_⟩
      refine lc_it walk_str (fun i H' => Same H H' ∧ H' D2 = some (.lst ((ds.take i).map fun (d : Nat) => V.int (d : Int)))) ⟨sm.trans (same_new hD2), upd_same⟩ (fun _ _ _ _ => trivial) (fun i x H2 H' hi hP hY => ?_) (fun H2 hP => ?_)
      · obtain ⟨sm2, hl2⟩ := hP
        obtain ⟨rfl, c, hc, rfl⟩ := hY
        rw [numS_size] at hi
        rw [numS_at ds i hi] at hc
        have hc' := (Option.some.inj hc).symm
        subst hc'
        refine ⟨rfl, yesT ?_⟩
        refine ⟨_, rfl, _, _, rfl, dig_int (dig _ (List.getElem_mem hi)), (by show 1 ≤ 640; decide), _, hl2, by rw [List.length_map, List.length_take]; exact small1000 (by omega), ?_⟩
        refine ⟨same_mut sm2 (sm.free hD2), ?_⟩
        rw [upd_same, take_succ_map _ (List.getElem?_eq_getElem hi)]
      · obtain ⟨sm2, hl2⟩ := hP
        rw [numS_size, List.take_length] at hl2
        refine ⟨D2, ds.map fun (d : Nat) => (d : Int), rfl, SqL.of (by rw [hl2, List.map_map]; rfl), _, _, rfl, rfl, ?_⟩
        rw [sum_cast]
        refine k _ _ sm2 ?_
        rw [isnum_dig]
        constructor
        · intro z
          have z' : ((ds.sum : Nat) : Int) ≤ 24 := of_decide_eq_true z
          exact ⟨by omega, by omega, dig, by omega⟩
        · intro N
          exact decide_eq_true (show ((ds.sum : Nat) : Int) ≤ 24 by have := N.sum; omega)
theorem ok_check_number (T : Txt P K mg) : FnOk P w K mg base CX0 2 T.a_check_number T.d_check_number ["thing"] (sp_check_number K) := by
  refine T.F_check_number.ok sc_check_number (fun vs H Q E h => ?_) (fun cdv A outer s H vs Q E hr h => ?_)
  · obtain ⟨ds, _, rfl, _⟩ := h
    rfl
  · obtain ⟨ds, N, rfl, k⟩ := h
    refine ⟨_, (pss_one (ps_if (pt_not (pt_val (pe_call (ok_is_number T) (hr.mono (by decide)) (by rfl) T.g_is_number T.F_is_number.kp T.b_is_number .nil pass0 (pa_cons (pv 0) pa_nil))))
        (pss_one ps_never)
        pss_nil)), ?_⟩
    have hlen := N.len
    refine ⟨_, rfl, numS ds, by rw [numS_len]; omega, rfl, fun H1 b s1 hb => ?_⟩
    have e : b = true := hb.mpr ⟨ds, N, rfl⟩
    subst e
    refine ⟨true, rfl, iteF ?_⟩
    exact k _ s1
theorem ok_blocks (T : Txt P K mg) : FnOk P w K mg base CX0 3 T.a_blocks T.d_blocks ["number"] (sp_blocks K) := by
  refine T.F_blocks.ok sc_blocks (fun vs H Q E h => ?_) (fun cdv A outer s H vs Q E hr h => ?_)
  · obtain ⟨ds, _, rfl, _⟩ := h
    rfl
  · obtain ⟨ds, N, rfl, k⟩ := h
    have hlen := N.len
    refine ⟨_, (pss_cons (ps_expr (pe_call (ok_check_number T) (hr.mono (by decide)) (by rfl) T.g_check_number T.F_check_number.kp T.b_check_number .nil pass0 (pa_cons (pv 0) pa_nil)))
      (pss_one (ps_ret (pe_callTy call_tuple_of (by rfl) T.z_tuple (by decide +kernel) (pa_cons (pe_lc (own := [("letter", 1)]) (g := gName 1) (tt := tYes) rfl sc_blocks.nd (pi_str (pv 0)) (blkOk_by (own := [("letter", 1)]) (N := nm_blocks) (sc := (defScope s_blocks)) (by decide +kernel)) (fun _ _ _ _ _ => pg_name (i := 1) sc_blocks.nd rfl (Or.inl rfl)) (fun _ _ _ _ _ => pts_nil) (fun _ _ _ _ _ => (pe_callTy call_int_str (by rfl) T.z_int (by decide +kernel) (pa_cons (pv 1) pa_nil)))) pa_nil))))), ?_⟩
    refine ⟨_, rfl, ds, N, rfl, fun H1 s1 => ?_⟩
    refine ⟨_, rfl, _, rfl, fun D hD => ?_⟩
    refine lc_it walk_str (fun i H' => Same H1 H' ∧ H' D = some (.lst ((ds.take i).map fun (d : Nat) => V.int (d : Int)))) ⟨same_new hD, upd_same⟩ (fun _ _ _ _ => trivial) (fun i x H2 H' hi hP hY => ?_) (fun H2 hP => ?_)
    · obtain ⟨sm2, hl2⟩ := hP
      obtain ⟨rfl, c, hc, rfl⟩ := hY
      rw [numS_size] at hi
      rw [numS_at ds i hi] at hc
      have hc' := (Option.some.inj hc).symm
      subst hc'
      refine ⟨rfl, yesT ?_⟩
      refine ⟨_, rfl, _, _, rfl, dig_int (N.dig _ (List.getElem_mem hi)), (by show 1 ≤ 640; decide), _, hl2, by rw [List.length_map, List.length_take]; exact small1000 (by omega), ?_⟩
      refine ⟨same_mut sm2 hD, ?_⟩
      rw [upd_same, take_succ_map _ (List.getElem?_eq_getElem hi)]
    · obtain ⟨sm2, hl2⟩ := hP
      rw [numS_size, List.take_length] at hl2
      refine ⟨D, _, rfl, .inl ⟨SqL.of hl2, fun p hp => ?_⟩⟩
      exact k _ p ((s1.trans sm2).trans (same_new hp)) ((s1.trans sm2).free hp) upd_same
theorem ok_row_of (T : Txt P K mg) : FnOk P w K mg base CX0 4 T.a_row_of T.d_row_of ["number"] (sp_row_of K) := by
  refine T.F_row_of.ok sc_row_of (fun vs H Q E h => ?_) (fun cdv A outer s H vs Q E hr h => ?_)
  · obtain ⟨ds, _, rfl, _⟩ := h
    rfl
  · obtain ⟨ds, N, rfl, k⟩ := h
    have hlen := N.len
    refine ⟨_, (pss_cons (ps_set (i := 1) sc_row_of.nd rfl (Or.inl rfl) (pe_lst pa_nil))
      (pss_cons (ps_for PassesOwn.never rfl (pi_tup (pe_call (ok_blocks T) (hr.mono (by decide)) (by rfl) T.g_blocks T.F_blocks.kp T.b_blocks .nil pass0 (pa_cons (pv 0) pa_nil))) (pg_name (i := 2) sc_row_of.nd rfl (Or.inl rfl))
        (pss_cons (ps_expr (pe_bm PySem.F.plainAttrs_list PySem.F.slot_list_extend PySem.F.type_list_extend mt_extend (pv 1) (pa_cons (pe_op op_rep (pe_lst (pa_cons pe_int (pa_cons pe_int pa_nil))) (pv 2)) pa_nil)))
        (pss_one (ps_expr (pe_bm PySem.F.plainAttrs_list PySem.F.slot_list_extend PySem.F.type_list_extend mt_extend (pv 1) (pa_cons (pe_lst (pa_cons pe_int (pa_cons pe_int pa_nil))) pa_nil))))))
      (pss_cons (ps_expr (pe_bm PySem.F.plainAttrs_list PySem.F.slot_list_extend PySem.F.type_list_extend mt_extend (pv 1) (pa_cons (pe_lst (pa_cons pe_int (pa_cons pe_int pa_nil))) pa_nil)))
      (pss_one (ps_ret (pe_callTy call_tuple_of (by rfl) T.z_tuple (by decide +kernel) (pa_cons (pv 1) pa_nil))))))), ?_⟩
    refine ⟨Nat.zero_le _, fun r hr0 => ?_⟩
    refine ⟨_, rfl, ds, N, rfl, fun H1 t s1 ht0 ht => ?_⟩
    have hrt : r ≠ t := fun e => by
      rw [e] at hr0
      have := ne_of_none (upd_same (H := H) (a := r) (o := .lst [])) ht0
      exact this e
    have hr1 : H1 r = some (.lst []) := s1 _ _ upd_same
    have sH : Same H H1 := (same_new hr0).trans s1
    refine ⟨t, rfl, ⟨_, SqT.of ht⟩, ?_⟩
    refine for_tup (xs := ds.map fun (d : Nat) => V.int (d : Int)) (fun i σ H2 => ∃ v, σ = [some (.str (numS ds)), some (.ref r), v] ∧ Same H H2 ∧ H2 t = some (.tup (ds.map fun (d : Nat) => V.int (d : Int))) ∧ H2 r = some (.lst ((Wm.pre (ds.take i)).map V.int)))
      ⟨_, rfl, sH, ht, hr1⟩ (fun i σ H2 _ hP => ?_) (fun i x σ H2 hx hP => ?_) (fun σ H2 hP => ?_)
    · obtain ⟨v, rfl, _, h2, _⟩ := hP
      exact SqT.of h2
    · obtain ⟨v, rfl, sm, h2, h3⟩ := hP
      have hi : i < ds.length := by
        have := (List.getElem?_eq_some_iff.mp hx).1
        rw [List.length_map] at this
        exact this
      have ex : x = .int (ds[i] : Nat) := by
        rw [List.getElem?_map, List.getElem?_eq_getElem hi] at hx
        exact (Option.some.inj hx).symm
      subst ex
      have hd := N.dig _ (List.getElem_mem hi)
      have hp9 := pre_le (ds.take i) fun d m => (N.dig d (List.mem_of_mem_take m)).2
      rw [List.length_take] at hp9
      have hrn : H r = none := hr0
      -- row.extend([1, 0] * strokes)
      refine ⟨.ref r, rfl, .inl ⟨rfl, _, SqL.of h3⟩, by decide, fun a ha => ?_⟩
      refine ⟨_, rfl, a, _, _, rfl, rfl, upd_same, by omega, by omega, by rw [Int.toNat_natCast]; show 2 * ds[i] ≤ _; exact Nat.le_of_lt (small1000 (by omega)), fun b hb => ?_⟩
      rw [Int.toNat_natCast, blk_V]
      have ra : r ≠ a := ne_of_none h3 ha
      have rb : r ≠ b := ne_of_none (at_old h3 ha) hb
      refine ⟨r, b, _, _, rfl, rfl, at_old (at_old h3 ha) hb, upd_same, ?_, ?_⟩
      · rw [List.length_map, List.length_map, blk_len]
        exact Nat.le_of_lt (small1000 (by omega))
      -- row.extend([0, 0])
      have h4 : upd (upd (upd H2 a (.lst [.int 1, .int 0])) b (.lst ((blk ds[i]).map V.int))) r (.lst ((Wm.pre (ds.take i)).map V.int ++ (blk ds[i]).map V.int)) r = some (.lst ((Wm.pre (ds.take i)).map V.int ++ (blk ds[i]).map V.int)) := upd_same
      refine ⟨.ref r, rfl, .inl ⟨rfl, _, SqL.of h4⟩, by decide, fun c hc => ?_⟩
      refine ⟨r, c, _, _, rfl, rfl, at_old h4 hc, upd_same, ?_, ?_⟩
      · rw [List.length_append, List.length_map, List.length_map, blk_len]
        exact Nat.le_of_lt (small1000 (by simp only [List.length_cons, List.length_nil]; omega))
      refine ⟨_, rfl, ?_, ?_, ?_⟩
      · have s2 : Same H2 (upd (upd H2 a (.lst [.int 1, .int 0])) b (.lst ((blk ds[i]).map V.int))) := (same_new ha).trans (same_new hb)
        have s3 : Same H (upd (upd (upd H2 a (.lst [.int 1, .int 0])) b (.lst ((blk ds[i]).map V.int))) r (.lst ((Wm.pre (ds.take i)).map V.int ++ (blk ds[i]).map V.int))) := same_mut (sm.trans s2) hrn
        exact same_mut (s3.trans (same_new hc)) hrn
      · rw [upd_ne hrt.symm]
        refine at_old ?_ hc
        rw [upd_ne hrt.symm]
        exact at_old (at_old h2 ha) hb
      · rw [upd_same, take_succ_app (List.getElem?_eq_getElem hi), pre_app]
        simp only [List.map_append, List.append_assoc]
        rfl
    · obtain ⟨v, rfl, sm, h2, h3⟩ := hP
      rw [List.length_map, List.take_length] at h3
      have hp9 := pre_le ds fun d m => (N.dig d m).2
      refine ⟨.ref r, rfl, .inl ⟨rfl, _, SqL.of h3⟩, by decide, fun a ha => ?_⟩
      refine ⟨r, a, _, _, rfl, rfl, at_old h3 ha, upd_same, ?_, ?_⟩
      · rw [List.length_map]
        exact Nat.le_of_lt (small1000 (by simp only [List.length_cons, List.length_nil]; omega))
      refine ⟨.ref r, rfl, r, _, rfl, .inl ⟨SqL.of upd_same, fun p hp => ?_⟩⟩
      have s2 : Same H (upd (upd H2 a (.lst [.int 0, .int 0])) r (.lst ((Wm.pre ds).map V.int ++ [.int 0, .int 0]))) := same_mut (sm.trans (same_new ha)) hr0
      refine k _ p (s2.trans (same_new hp)) (s2.free hp) ?_
      rw [upd_same, ← pre_row ds, List.map_append]
      rfl
end
end K16

namespace K16
open PySem L2 Wm TL Dv
section
variable {P : Program} {w : World} {K : PySem.W.Frag} {mg : Str → Option Value} {base : Heap}
theorem putF_ex (f : Str) (v : V) (fs : List (Str × V)) : ∃ fs', putF f v fs = fs' ∧ (∀ g, fs'.lookup g = if g = f then some v else fs.lookup g) ∧ fs'.length ≤ fs.length + 1 := ⟨_, rfl, fun g => lookup_putF f g v fs, length_putF f v fs⟩
theorem putF_same {f : Str} {v u : V} : ∀ {fs : List (Str × V)}, fs.lookup f = some u → (putF f v fs).length = fs.length
  | [], h => by cases h
  | (g, x) :: r, h => by
    show (if g = f then (g, v) :: r else (g, x) :: putF f v r).length = _
    by_cases e : g = f
    · rw [if_pos e]; rfl
    · rw [if_neg e]
      have h : r.lookup f = some u := by
        have : (f == g) = false := by
          rw [beq_eq_false_iff_ne]
          exact fun z => e z.symm
        rw [List.lookup_cons, this] at h
        exact h
      show (putF f v r).length + 1 = r.length + 1
      rw [putF_same h]
theorem FX.refl {x : Addr} {H : Hp} : FX x H H := fun _ _ _ h => h
theorem FX.of {x : Addr} {H H' : Hp} (s : Same H H') : FX x H H' := fun q o _ h => s q o h
theorem FX.trans {x : Addr} {H H1 H2 : Hp} (a : FX x H H1) (b : FX x H1 H2) : FX x H H2 := fun q o n h => b q o n (a q o n h)
theorem FX.set {x : Addr} {H : Hp} {o : HO} : FX x H (upd H x o) := fun q u n h => by rw [upd_ne n]; exact h
theorem FX.kt {x C dx : Addr} {fs : List (Str × V)} {H H' : Hp} (a : FX x H H') (h : H x = some (.ins C dx fs)) : Kt K H H' := fun p xs q => by
  rcases q with (q | ⟨ob, q⟩) | q
  · exact .inl (.inl (a p _ (fun e => by rw [e, h] at q; cases q) q))
  · exact .inl (.inr ⟨ob, a p _ (fun e => by rw [e, h] at q; cases q) q⟩)
  · exact .inr q
theorem cl_or {PB SB : Addr} (b : Bool) : clOf PB SB b = PB ∨ clOf PB SB b = SB := by cases b; exact .inl rfl; exact .inr rfl
theorem cls_ok (T : Txt P K mg) (b : Bool) : Cls K (clOf T.PB T.SB b) := by cases b; exact T.clPB; exact T.clSB
theorem na_ok (T : Txt P K mg) (b : Bool) {f : Str} (h : f ∈ flds) : NoAttr K (clOf T.PB T.SB b) f := T.na _ (cl_or b) f h
theorem BoxAt.k {PB SB : Addr} {H H' : Hp} {x : Addr} {b : Bool} {ds : List Nat} {rd : Nat} {m : Md} (h : BoxAt K PB SB H x b ds rd m) (s : Same H H') : BoxAt K PB SB H' x b ds rd m := by
  obtain ⟨dx, fs, r, e, f, q, c⟩ := h
  exact ⟨dx, fs, r, s _ _ e, f, sameT s q, c⟩
theorem BoxAt.kt {PB SB : Addr} {H H' : Hp} {x : Addr} {b : Bool} {ds : List Nat} {rd : Nat} {m : Md} (h : BoxAt K PB SB H x b ds rd m) (s : ∀ o, H x = some o → H' x = some o) (kt : Kt K H H') : BoxAt K PB SB H' x b ds rd m := by
  obtain ⟨dx, fs, r, e, f, q, c⟩ := h
  exact ⟨dx, fs, r, s _ e, f, kt _ _ q, c⟩
theorem rowV_len (ds : List Nat) : (rowV ds).length = (rowL ds).length := by unfold rowV; rw [List.length_map]
theorem rowV_at {ds : List Nat} {i : Nat} (h : i < (rowL ds).length) : (rowV ds)[i]? = some (.int ((rowL ds)[i])) := by unfold rowV; rw [List.getElem?_map, List.getElem?_eq_getElem h]; rfl
theorem oV_dec (o : Option Nat) : decide (oV o = V.non) = o.isNone := by
  cases o with
  | none => rfl
  | some d => exact decide_eq_false (fun z => by cases z)
theorem inT {p : Addr} {H : Hp} {xs : List V} (h : SqT K H p xs) : SqT K H p xs := h
theorem Fs.l {fs : List (Str × V)} {ds : List Nat} {rd : Nat} {r : Addr} {m : Md} (h : Fs fs ds rd r m) (l : Nat) : Fs (putF "_left" (.int (l : Nat)) fs) ds rd r ⟨l, m.s, m.p, m.q⟩ :=
  ⟨by rw [lookup_putF, if_neg (by decide +kernel)]; exact h.num, by rw [lookup_putF, if_neg (by decide +kernel)]; exact h.rds, by rw [lookup_putF, if_neg (by decide +kernel)]; exact h.row, by rw [lookup_putF, if_pos rfl], by rw [lookup_putF, if_neg (by decide +kernel)]; exact h.st, by rw [lookup_putF, if_neg (by decide +kernel)]; exact h.pc, by rw [lookup_putF, if_neg (by decide +kernel)]; exact h.qt, fun f hf => by rw [lookup_putF, if_neg (fun e => hf (by rw [e]; decide +kernel))]; exact h.no f hf, by rw [putF_same h.lf]; exact h.len⟩
theorem Fs.s {fs : List (Str × V)} {ds : List Nat} {rd : Nat} {r : Addr} {m : Md} (h : Fs fs ds rd r m) (s : Nat) : Fs (putF "_sent" (.int (s : Nat)) fs) ds rd r ⟨m.l, s, m.p, m.q⟩ :=
  ⟨by rw [lookup_putF, if_neg (by decide +kernel)]; exact h.num, by rw [lookup_putF, if_neg (by decide +kernel)]; exact h.rds, by rw [lookup_putF, if_neg (by decide +kernel)]; exact h.row, by rw [lookup_putF, if_neg (by decide +kernel)]; exact h.lf, by rw [lookup_putF, if_pos rfl], by rw [lookup_putF, if_neg (by decide +kernel)]; exact h.pc, by rw [lookup_putF, if_neg (by decide +kernel)]; exact h.qt, fun f hf => by rw [lookup_putF, if_neg (fun e => hf (by rw [e]; decide +kernel))]; exact h.no f hf, by rw [putF_same h.st]; exact h.len⟩
theorem Fs.p {fs : List (Str × V)} {ds : List Nat} {rd : Nat} {r : Addr} {m : Md} (h : Fs fs ds rd r m) (p : Option Nat) : Fs (putF "_place" (oV p) fs) ds rd r ⟨m.l, m.s, p, m.q⟩ :=
  ⟨by rw [lookup_putF, if_neg (by decide +kernel)]; exact h.num, by rw [lookup_putF, if_neg (by decide +kernel)]; exact h.rds, by rw [lookup_putF, if_neg (by decide +kernel)]; exact h.row, by rw [lookup_putF, if_neg (by decide +kernel)]; exact h.lf, by rw [lookup_putF, if_neg (by decide +kernel)]; exact h.st, by rw [lookup_putF, if_pos rfl], by rw [lookup_putF, if_neg (by decide +kernel)]; exact h.qt, fun f hf => by rw [lookup_putF, if_neg (fun e => hf (by rw [e]; decide +kernel))]; exact h.no f hf, by rw [putF_same h.pc]; exact h.len⟩
theorem Fs.q {fs : List (Str × V)} {ds : List Nat} {rd : Nat} {r : Addr} {m : Md} (h : Fs fs ds rd r m) (q : Nat) : Fs (putF "_quiet" (.int (q : Nat)) fs) ds rd r ⟨m.l, m.s, m.p, q⟩ :=
  ⟨by rw [lookup_putF, if_neg (by decide +kernel)]; exact h.num, by rw [lookup_putF, if_neg (by decide +kernel)]; exact h.rds, by rw [lookup_putF, if_neg (by decide +kernel)]; exact h.row, by rw [lookup_putF, if_neg (by decide +kernel)]; exact h.lf, by rw [lookup_putF, if_neg (by decide +kernel)]; exact h.st, by rw [lookup_putF, if_neg (by decide +kernel)]; exact h.pc, by rw [lookup_putF, if_pos rfl], fun f hf => by rw [lookup_putF, if_neg (fun e => hf (by rw [e]; decide +kernel))]; exact h.no f hf, by rw [putF_same h.qt]; exact h.len⟩
theorem go_ok {n : Nat} {m : Md} (h : MOk n m) (_h1 : 1 ≤ n) : MOk n (go n m).1 := by
  unfold go
  cases hp : m.p with
  | none => exact h
  | some i =>
    have hi := h.pl i hp
    have hs := h.sl
    dsimp only
    by_cases c : i + 1 < n
    · rw [if_pos c]
      exact ⟨(fun j e => by cases e; exact ⟨c, hi.2⟩), hs, h.q⟩
    · rw [if_neg c]
      refine ⟨(fun j e => by cases e), ?_, h.q⟩
      show (if 1 < m.l then m.s + 1 else 0) + (m.l - 1) ≤ 8
      split <;> omega
theorem pulled_ok {n rd : Nat} {m : Md} (h : MOk n m) (r1 : 1 ≤ rd) (r8 : rd ≤ 8) : MOk n (pulled rd m) := by
  unfold pulled
  split
  · exact ⟨fun i e => ⟨(h.pl i e).1, r1⟩, by show 0 + rd ≤ 8; omega, h.q⟩
  · exact h
theorem begun_ok {n : Nat} {b : Bool} {m : Md} (h : MOk n m) (h1 : 1 ≤ n) : MOk n (begun b m) := by
  unfold begun
  split
  · rename_i c
    have c : can b m = true := c
    unfold can wcan at c
    rw [Bool.and_eq_true, Bool.and_eq_true] at c
    have := of_decide_eq_true c.1.2
    exact ⟨(fun i e => by cases e; exact ⟨h1, this⟩), h.sl, h.q⟩
  · exact h
theorem called_ok {ds : List Nat} {b br : Bool} {m : Md} (h : MOk (rowL ds).length m) (h1 : 1 ≤ (rowL ds).length) : MOk (rowL ds).length (called b ds br m).1 := by
  have g := go_ok h h1
  have calmk : ∀ {x : Md}, MOk (rowL ds).length x → MOk (rowL ds).length (calm br x) := fun {x} h => ⟨h.pl, h.sl, by
    show (if br then 0 else min (x.q + 1) 16) ≤ 16
    split <;> omega⟩
  unfold called
  split
  · unfold shyc
    split
    · exact calmk ⟨(fun i e => by cases e), h.sl, h.q⟩
    · exact calmk g
  · exact g
theorem row_pos (ds : List Nat) : 1 ≤ (rowL ds).length := by rw [row_sum]; omega
theorem ok_init (T : Txt P K mg) : FnOk P w K mg base CX0 5 T.a_init T.d_init ["self", "number", "rounds"] (sp_init K T.PB T.SB) := by
  refine T.F_init.ok sc_init (fun vs H Q E h => ?_) (fun cdv A outer s H vs Q E hr h => ?_)
  · obtain ⟨p, dx, b, ds, rd, rfl, _⟩ := h
    rfl
  · obtain ⟨p, dx, b, ds, rd, rfl, hp, N, r1, r8, k⟩ := h
    refine ⟨_, (pss_cons (ps_fld (pv 0) (pv 1) rfl)
      (pss_cons (ps_fld (pv 0) (pv 2) rfl)
      (pss_cons (ps_fld (pv 0) (pe_call (ok_row_of T) (hr.mono (by decide)) (by rfl) T.g_row_of T.F_row_of.kp T.b_row_of .nil pass0 (pa_cons (pv 1) pa_nil)) rfl)
      (pss_cons (ps_fld (pv 0) pe_int rfl)
      (pss_cons (ps_fld (pv 0) pe_int rfl)
      (pss_cons (ps_fld (pv 0) pe_non rfl)
      (pss_one (ps_fld (pv 0) pe_int rfl)))))))), ?_⟩
    have cl := cls_ok T b
    have na := fun {f} => na_ok T b (f := f)
    have st0 : ∀ g : Str, ([] : List (Str × V)).lookup g = none := fun _ => rfl
    refine ⟨_, rfl, _, rfl, p, _, dx, [], rfl, hp, cl, na (by decide), by show 0 < 1000; decide, ?_⟩
    obtain ⟨f1, e1, g1, n1⟩ := putF_ex "number" (.str (numS ds)) []
    have n1 : f1.length ≤ 1 := n1
    rw [e1]
    have b1 : FX p H (upd H p (.ins (clOf T.PB T.SB b) dx f1)) := FX.set
    have hp1 : upd H p (.ins (clOf T.PB T.SB b) dx f1) p = some (.ins (clOf T.PB T.SB b) dx f1) := upd_same
    generalize upd H p (.ins (clOf T.PB T.SB b) dx f1) = H1 at b1 hp1 ⊢
    refine ⟨_, rfl, _, rfl, p, _, dx, f1, rfl, hp1, cl, na (by decide), by omega, ?_⟩
    obtain ⟨f2, e2, g2, n2⟩ := putF_ex "_rounds" (.int (rd : Nat)) f1
    have n2 : f2.length ≤ 2 := by omega
    rw [e2]
    have b2 : FX p H (upd H1 p (.ins (clOf T.PB T.SB b) dx f2)) := b1.trans FX.set
    have hp2 : upd H1 p (.ins (clOf T.PB T.SB b) dx f2) p = some (.ins (clOf T.PB T.SB b) dx f2) := upd_same
    generalize upd H1 p (.ins (clOf T.PB T.SB b) dx f2) = H2 at b2 hp2 ⊢
    refine ⟨_, rfl, ds, N, rfl, fun H2' t s2 ht0 ht => ?_⟩
    refine ⟨_, rfl, p, _, dx, f2, rfl, s2 _ _ hp2, cl, na (by decide), by omega, ?_⟩
    obtain ⟨f3, e3, g3, n3⟩ := putF_ex "_row" (.ref t) f2
    have n3 : f3.length ≤ 3 := by omega
    rw [e3]
    have b3 : FX p H (upd H2' p (.ins (clOf T.PB T.SB b) dx f3)) := (b2.trans (FX.of s2)).trans FX.set
    have hp3 : upd H2' p (.ins (clOf T.PB T.SB b) dx f3) p = some (.ins (clOf T.PB T.SB b) dx f3) := upd_same
    have ht3 : SqT K (upd H2' p (.ins (clOf T.PB T.SB b) dx f3)) t (rowV ds) := (FX.set (x := p)).kt (s2 _ _ hp2) _ _ (SqT.of ht)
    generalize upd H2' p (.ins (clOf T.PB T.SB b) dx f3) = H3 at b3 hp3 ht3 ⊢
    refine ⟨_, rfl, p, _, dx, f3, rfl, hp3, cl, na (by decide), by omega, ?_⟩
    obtain ⟨f4, e4, g4, n4⟩ := putF_ex "_left" (.int 0) f3
    have n4 : f4.length ≤ 4 := by omega
    rw [e4]
    have b4 : FX p H (upd H3 p (.ins (clOf T.PB T.SB b) dx f4)) := b3.trans FX.set
    have hp4 : upd H3 p (.ins (clOf T.PB T.SB b) dx f4) p = some (.ins (clOf T.PB T.SB b) dx f4) := upd_same
    have ht4 : SqT K (upd H3 p (.ins (clOf T.PB T.SB b) dx f4)) t (rowV ds) := (FX.set (x := p)).kt hp3 _ _ ht3
    generalize upd H3 p (.ins (clOf T.PB T.SB b) dx f4) = H4 at b4 hp4 ht4 ⊢
    refine ⟨_, rfl, p, _, dx, f4, rfl, hp4, cl, na (by decide), by omega, ?_⟩
    obtain ⟨f5, e5, g5, n5⟩ := putF_ex "_sent" (.int 0) f4
    have n5 : f5.length ≤ 5 := by omega
    rw [e5]
    have b5 : FX p H (upd H4 p (.ins (clOf T.PB T.SB b) dx f5)) := b4.trans FX.set
    have hp5 : upd H4 p (.ins (clOf T.PB T.SB b) dx f5) p = some (.ins (clOf T.PB T.SB b) dx f5) := upd_same
    have ht5 : SqT K (upd H4 p (.ins (clOf T.PB T.SB b) dx f5)) t (rowV ds) := (FX.set (x := p)).kt hp4 _ _ ht4
    generalize upd H4 p (.ins (clOf T.PB T.SB b) dx f5) = H5 at b5 hp5 ht5 ⊢
    refine ⟨_, rfl, p, _, dx, f5, rfl, hp5, cl, na (by decide), by omega, ?_⟩
    obtain ⟨f6, e6, g6, n6⟩ := putF_ex "_place" .non f5
    have n6 : f6.length ≤ 6 := by omega
    rw [e6]
    have b6 : FX p H (upd H5 p (.ins (clOf T.PB T.SB b) dx f6)) := b5.trans FX.set
    have hp6 : upd H5 p (.ins (clOf T.PB T.SB b) dx f6) p = some (.ins (clOf T.PB T.SB b) dx f6) := upd_same
    have ht6 : SqT K (upd H5 p (.ins (clOf T.PB T.SB b) dx f6)) t (rowV ds) := (FX.set (x := p)).kt hp5 _ _ ht5
    generalize upd H5 p (.ins (clOf T.PB T.SB b) dx f6) = H6 at b6 hp6 ht6 ⊢
    refine ⟨_, rfl, p, _, dx, f6, rfl, hp6, cl, na (by decide), by omega, ?_⟩
    obtain ⟨f7, e7, g7, n7⟩ := putF_ex "_quiet" (.int 0) f6
    have n7 : f7.length ≤ 7 := by omega
    rw [e7]
    have b7 : FX p H (upd H6 p (.ins (clOf T.PB T.SB b) dx f7)) := b6.trans FX.set
    have hp7 : upd H6 p (.ins (clOf T.PB T.SB b) dx f7) p = some (.ins (clOf T.PB T.SB b) dx f7) := upd_same
    have ht7 : SqT K (upd H6 p (.ins (clOf T.PB T.SB b) dx f7)) t (rowV ds) := (FX.set (x := p)).kt hp6 _ _ ht6
    generalize upd H6 p (.ins (clOf T.PB T.SB b) dx f7) = H7 at b7 hp7 ht7 ⊢
    refine k _ b7 ⟨dx, f7, t, hp7, ?_, ht7, N, r1, r8, ⟨(fun i e => by cases e), by decide, by decide⟩⟩
    have L : ∀ g : Str, f7.lookup g = if g = "_quiet" then some (V.int 0) else if g = "_place" then some V.non else if g = "_sent" then some (V.int 0) else if g = "_left" then some (V.int 0) else if g = "_row" then some (V.ref t) else if g = "_rounds" then some (V.int (rd : Nat)) else if g = "number" then some (V.str (numS ds)) else none := fun g => by
      rw [g7, g6, g5, g4, g3, g2, g1, st0]
    refine ⟨?_, ?_, ?_, ?_, ?_, ?_, ?_, fun f hf => ?_, by omega⟩
    case refine_8 =>
      rw [L]
      have hf : ¬ (f = "number" ∨ f = "_rounds" ∨ f = "_row" ∨ f = "_left" ∨ f = "_sent" ∨ f = "_place" ∨ f = "_quiet") := by simpa [flds] using hf
      rw [if_neg (fun e => hf (by simp [e])), if_neg (fun e => hf (by simp [e])), if_neg (fun e => hf (by simp [e])), if_neg (fun e => hf (by simp [e])), if_neg (fun e => hf (by simp [e])), if_neg (fun e => hf (by simp [e])), if_neg (fun e => hf (by simp [e]))]
    all_goals
      rw [L]
      repeat first | rw [if_pos rfl] | rw [if_neg (by decide +kernel)]
      try rfl
theorem ok_standing (T : Txt P K mg) : FnOk P w K mg base CX0 1 T.a_standing T.d_standing ["self"] (sp_standing K T.PB T.SB) := by
  refine T.F_standing.ok sc_standing (fun vs H Q E h => ?_) (fun cdv A outer s H vs Q E hr h => ?_)
  · obtain ⟨x, b, ds, rd, m, rfl, _⟩ := h
    rfl
  · obtain ⟨x, b, ds, rd, m, rfl, hB, k⟩ := h
    obtain ⟨dx, fs, r, e, f, q, N, r1, r8, ok⟩ := id hB
    refine ⟨_, (pss_one (ps_ret (pe_tup (pa_cons (pe_fld (pv 0) rfl) (pa_cons (pe_fld (pv 0) rfl) (pa_cons (pe_fld (pv 0) rfl) (pa_cons (pe_fld (pv 0) rfl) pa_nil))))))), ?_⟩
    have cl := cls_ok T b
    have na := fun {f} => na_ok T b (f := f)
    refine ⟨_, rfl, x, _, dx, fs, _, rfl, e, cl, na (by decide), f.lf, _, rfl, x, _, dx, fs, _, rfl, e, cl, na (by decide), f.st, _, rfl, x, _, dx, fs, _, rfl, e, cl, na (by decide), f.pc, _, rfl, x, _, dx, fs, _, rfl, e, cl, na (by decide), f.qt, by show 4 ≤ sizeLine; decide, fun t ht => ?_⟩
    exact k _ t (same_new ht) ht upd_same
theorem ok_breaks (T : Txt P K mg) : FnOk P w K mg base CX0 1 T.a_breaks T.d_breaks ["self"] (sp_breaks K T.PB T.SB) := by
  refine T.F_breaks.ok sc_breaks (fun vs H Q E h => ?_) (fun cdv A outer s H vs Q E hr h => ?_)
  · obtain ⟨x, b, ds, rd, m, rfl, _⟩ := h
    rfl
  · obtain ⟨x, b, ds, rd, m, rfl, hB, k⟩ := h
    obtain ⟨dx, fs, r, e, f, q, N, r1, r8, ok⟩ := id hB
    refine ⟨_, (pss_one (ps_ret (pe_and (pe_cmpR op_notN (pe_fld (pv 0) rfl) pe_non (nomark _)) (pe_one (pe_cmpR op_eq (pe_ix ix_tup (pe_fld (pv 0) rfl) (pe_fld (pv 0) rfl) (fun _ _ => rfl)) pe_int (nomark _)))))), ?_⟩
    have cl := cls_ok T b
    have na := fun {f} => na_ok T b (f := f)
    refine ⟨_, rfl, x, _, dx, fs, _, rfl, e, cl, na (by decide), f.pc, rfl, ?_⟩
    refine ⟨_, rfl, ?_⟩
    rw [oV_dec]
    cases hp : m.p with
    | none =>
      have eb : brk ds m = false := by unfold brk; rw [hp]
      rw [eb] at k
      exact k
    | some i =>
      have hi := (ok.pl i hp).1
      have pc : fs.lookup ("_place" : Str) = some (.int (i : Nat)) := by rw [f.pc, hp]; rfl
      have eb : brk ds m = decide (V.int ((rowL ds)[i]) = V.int 1) := by
        unfold brk
        rw [hp]
        show decide ((rowL ds)[i]? = some 1) = _
        rw [List.getElem?_eq_getElem hi]
        exact decide_eq_decide.mpr ⟨fun z => by rw [Option.some.inj z], fun z => by injection z with z; rw [z]⟩
      rw [eb] at k
      refine iteT ⟨_, rfl, x, _, dx, fs, _, rfl, e, cl, na (by decide), f.row, _, rfl, x, _, dx, fs, _, rfl, e, cl, na (by decide), pc, ?_⟩
      exact ⟨r, rowV ds, i, _, rfl, rfl, q, atI_nat (rowV_at hi), rfl, k⟩
theorem ok_pull (T : Txt P K mg) : FnOk P w K mg base CX0 1 T.a_pull T.d_pull ["self"] (sp_pull K T.PB T.SB) := by
  refine T.F_pull.ok sc_pull (fun vs H Q E h => ?_) (fun cdv A outer s H vs Q E hr h => ?_)
  · obtain ⟨x, b, ds, rd, m, rfl, _⟩ := h
    rfl
  · obtain ⟨x, b, ds, rd, m, rfl, hB, k⟩ := h
    obtain ⟨dx, fs, r, e, f, q, N, r1, r8, ok⟩ := id hB
    refine ⟨_, (pss_cons (ps_if (pt_cmpR op_gt (pe_fld (pv 0) rfl) pe_int (nomark _))
        (pss_one (ps_ret pe_bl))
        pss_nil)
      (pss_cons (ps_fld (pv 0) (pe_fld (pv 0) rfl) rfl)
      (pss_cons (ps_fld (pv 0) pe_int rfl)
      (pss_one (ps_ret pe_bl))))), ?_⟩
    have cl := cls_ok T b
    have na := fun {f} => na_ok T b (f := f)
    have pk := pulled_ok ok r1 r8
    refine ⟨_, rfl, x, _, dx, fs, _, rfl, e, cl, na (by decide), f.lf, _, _, rfl, rfl, _, rfl, ite2 (fun c => ?_) (fun c => ?_)⟩
    · have hl : ¬ m.l = 0 := by have := of_decide_eq_true c; omega
      have k := k H FX.refl (by unfold pulled; rw [if_neg hl]; exact hB)
      rw [decide_eq_false hl] at k
      exact k
    · have hl : m.l = 0 := by have := of_decide_eq_false (Bool.not_eq_true _ ▸ c); omega
      unfold pulled at k pk
      rw [if_pos hl] at k pk
      rw [decide_eq_true hl] at k
      refine ⟨_, rfl, x, _, dx, fs, _, rfl, e, cl, na (by decide), f.rds, _, rfl, x, _, dx, fs, rfl, e, cl, na (by decide), by have := f.len; omega, ?_⟩
      have f1 := f.l rd
      refine ⟨_, rfl, x, _, dx, _, rfl, upd_same, cl, na (by decide), by have := f1.len; omega, ?_⟩
      have f2 := f1.s 0
      have x1 : FX x H (upd H x (.ins (clOf T.PB T.SB b) dx (putF "_left" (.int (rd : Nat)) fs))) := FX.set
      have x2 := x1.trans (FX.set (x := x) (H := upd H x (.ins (clOf T.PB T.SB b) dx (putF "_left" (.int (rd : Nat)) fs))) (o := .ins (clOf T.PB T.SB b) dx (putF "_sent" (.int (0 : Nat)) (putF "_left" (.int (rd : Nat)) fs))))
      exact k _ x2 ⟨dx, _, r, upd_same, f2, x2.kt e _ _ q, N, r1, r8, pk⟩
theorem ok_wcan (T : Txt P K mg) : FnOk P w K mg base CX0 1 T.a_wcan T.d_wcan ["self"] (sp_wcan K T.PB T.SB) := by
  refine T.F_wcan.ok sc_wcan (fun vs H Q E h => ?_) (fun cdv A outer s H vs Q E hr h => ?_)
  · obtain ⟨x, b, ds, rd, m, rfl, _⟩ := h
    rfl
  · obtain ⟨x, b, ds, rd, m, rfl, hB, k⟩ := h
    obtain ⟨dx, fs, r, e, f, q, N, r1, r8, ok⟩ := id hB
    refine ⟨_, (pss_one (ps_ret (pe_and (pe_cmpR op_isN (pe_fld (pv 0) rfl) pe_non (nomark _)) (pe_one (pe_cmpR op_gt (pe_fld (pv 0) rfl) pe_int (nomark _)))))), ?_⟩
    have cl := cls_ok T b
    have na := fun {f} => na_ok T b (f := f)
    refine ⟨_, rfl, x, _, dx, fs, _, rfl, e, cl, na (by decide), f.pc, rfl, _, rfl, ?_⟩
    rw [oV_dec]
    unfold wcan at k
    cases hp : m.p with
    | some i => rw [hp] at k; exact k
    | none =>
      rw [hp] at k
      refine iteT ⟨_, rfl, x, _, dx, fs, _, rfl, e, cl, na (by decide), f.lf, _, _, rfl, rfl, ?_⟩
      have e2 : (true && decide (0 < m.l)) = decide ((0 : Int) < ((m.l : Nat) : Int)) := by
        rw [Bool.true_and]
        exact decide_eq_decide.mpr ⟨fun h => by omega, fun h => by omega⟩
      show Q (.bl (decide ((0 : Int) < ((m.l : Nat) : Int)))) H
      rw [← e2]
      exact k
end
end K16

namespace K16
open PySem L2 Wm TL Dv
section
variable {P : Program} {w : World} {K : PySem.W.Frag} {mg : Str → Option Value} {base : Heap}
/-- what repr lays: short, small, shallow -/
structure Sh (n w : Nat) (d : PyData) : Prop where
  lay : d.canLay0 = true
  isn : d.intsShort 13 = true
  wt : d.weight ≤ w
  sh : d.showable = true
  nd : d.hasDict = false
  dp : d.depth ≤ n
theorem Sh.mono {n m w v : Nat} {d : PyData} (h : Sh n w d) (a : n ≤ m) (b : w ≤ v) : Sh m v d := ⟨h.lay, h.isn, Nat.le_trans h.wt b, h.sh, h.nd, Nat.le_trans h.dp a⟩
theorem Sh.shows {n w : Nat} {d : PyData} (h : Sh n w d) (a : n ≤ 60) (b : w ≤ 1000000) : Shows d :=
  ⟨h.sh, h.nd, Nat.le_trans h.dp a, PyData.shown_fits (B := 13) (by decide) (by decide) (PyData.leavesShort_of_canLay0 13 d h.lay h.isn) (Nat.le_trans h.wt (by omega))⟩
theorem sh_int {i : Int} (h : i.natAbs < 1000000) : Sh 0 20 (.int i) := by
  have g := tg_shows (.int (i := i) (by omega))
  refine ⟨by simp [PyData.canLay0], decide_eq_true (PyData.shown_int_le (by omega)), ?_, g.sh, rfl, Nat.zero_le _⟩
  show (if i == 0 then 0 else i.natAbs.log2 + 1) ≤ 20
  split
  · exact Nat.zero_le _
  · rename_i z
    have z : i ≠ 0 := by simpa using z
    exact (Nat.log2_lt (by omega)).mpr (by omega)
theorem sh_bool (b : Bool) : Sh 0 0 (.bool b) := ⟨by simp [PyData.canLay0], rfl, Nat.le_refl _, rfl, rfl, Nat.zero_le _⟩
theorem sh_none : Sh 0 0 .none := ⟨by simp [PyData.canLay0], rfl, Nat.le_refl _, rfl, rfl, Nat.zero_le _⟩
theorem sh_all {n w : Nat} : ∀ {ds : List PyData}, (∀ d ∈ ds, Sh n w d) → PyData.canLayAll0 ds = true ∧ PyData.intsShortAll 13 ds = true ∧ PyData.weightAll ds ≤ ds.length * (w + 1) ∧ PyData.showableAll ds = true ∧ PyData.hasDictAll ds = false ∧ PyData.depthAll ds ≤ n
  | [], _ => by simp [PyData.canLayAll0, PyData.intsShortAll, PyData.weightAll, PyData.showableAll, PyData.hasDictAll, PyData.depthAll]
  | x :: xs, h => by
    have a := h x (by simp)
    obtain ⟨b1, b2, b3, b4, b5, b6⟩ := sh_all (ds := xs) fun y m => h y (List.mem_cons_of_mem _ m)
    refine ⟨by simp only [PyData.canLayAll0, a.lay, b1, Bool.and_self], by simp only [PyData.intsShortAll, a.isn, b2, Bool.and_self], ?_, by simp only [PyData.showableAll, a.sh, b4, Bool.and_self], by simp only [PyData.hasDictAll, a.nd, b5, Bool.or_self], ?_⟩
    · simp only [PyData.weightAll, List.length_cons, Nat.add_mul, Nat.one_mul]
      have := a.wt
      omega
    · simp only [PyData.depthAll]
      have := a.dp
      omega
theorem sh_tup {n w k : Nat} {ds : List PyData} (h : ∀ d ∈ ds, Sh n w d) (l : ds.length ≤ k) : Sh (n + 1) (k * (w + 1)) (.tuple ds) := by
  obtain ⟨b1, b2, b3, b4, b5, b6⟩ := sh_all h
  have := Nat.mul_le_mul_right (w + 1) l
  exact ⟨by simp only [PyData.canLay0, b1], by simp only [PyData.intsShort, b2], by simp only [PyData.weight]; omega, by simp only [PyData.showable, b4], by simp only [PyData.hasDict, b5], by simp only [PyData.depth]; omega⟩
theorem sh_lst {n w k : Nat} {ds : List PyData} (h : ∀ d ∈ ds, Sh n w d) (l : ds.length ≤ k) : Sh (n + 1) (k * (w + 1)) (.list ds) := by
  obtain ⟨b1, b2, b3, b4, b5, b6⟩ := sh_all h
  have := Nat.mul_le_mul_right (w + 1) l
  exact ⟨by simp only [PyData.canLay0, b1], by simp only [PyData.intsShort, b2], by simp only [PyData.weight]; omega, by simp only [PyData.showable, b4], by simp only [PyData.hasDict, b5], by simp only [PyData.depth]; omega⟩
end
end K16

namespace K16
open PySem L2 Wm TL Dv
section
variable {P : Program} {w : World} {K : PySem.W.Frag} {mg : Str → Option Value} {base : Heap}
theorem iteT' {c : Bool} {A B : Prop} (e : c = true) (h : A) : if c = true then A else B := by rw [if_pos e]; exact h
theorem iteF' {c : Bool} {A B : Prop} (e : c = false) (h : B) : if c = true then A else B := by rw [if_neg (by rw [e]; exact Bool.false_ne_true)]; exact h
theorem fx_new {x : Addr} {H H1 H2 : Hp} (h : H x = none) (s : Same H H1) (f : FX x H1 H2) : Same H H2 := fun q o e => f q o (fun z => by subst z; rw [h] at e; cases e) (s q o e)
theorem oV_not (o : Option Nat) : (!decide (oV o = V.non)) = o.isSome := by rw [oV_dec]; cases o <;> rfl
theorem can_f (m : Md) : can false m = wcan m := by unfold can; simp
theorem called_f (ds : List Nat) (br : Bool) (m : Md) : called false ds br m = go (rowL ds).length m := rfl
def shy1 (ds : List Nat) (br : Bool) (m : Md) : Md × Bool := if br && m.p.isSome && !brk ds m then (⟨m.l, m.s, none, m.q⟩, false) else go (rowL ds).length m
theorem called_t (ds : List Nat) (br : Bool) (m : Md) : called true ds br m = (calm br (shy1 ds br m).1, (shy1 ds br m).2) := by
  unfold called shyc shy1
  rw [if_pos rfl]
  split <;> rfl
theorem go_q {n : Nat} {m : Md} : (go n m).1.q = m.q := by
  unfold go
  cases m.p with
  | none => rfl
  | some i =>
    dsimp only
    split <;> rfl
theorem shy1_ok {ds : List Nat} {br : Bool} {m : Md} (h : MOk (rowL ds).length m) : MOk (rowL ds).length (shy1 ds br m).1 := by
  unfold shy1
  split
  · exact ⟨(fun i e => by cases e), h.sl, h.q⟩
  · exact go_ok h (row_pos ds)
theorem ok_stand_as (T : Txt P K mg) : FnOk P w K mg base CX0 3 T.a_stand_as T.d_stand_as ["self", "other"] (sp_stand_as K T.PB T.SB) := by
  refine T.F_stand_as.ok sc_stand_as (fun vs H Q E h => ?_) (fun cdv A outer s H vs Q E hr h => ?_)
  · obtain ⟨x, y, b, ds, rd, m, m2, rfl, _⟩ := h
    rfl
  · obtain ⟨x, y, b, ds, rd, m, m2, rfl, nxy, hB, hC, k⟩ := h
    obtain ⟨dx, fs, r, e, f, q, N, r1, r8, ok⟩ := id hB
    obtain ⟨dx2, fs2, r2, e2, f2, q2, _, _, _, ok2⟩ := id hC
    refine ⟨_, (pss_one (ps_asg (pe_alt (pe_prop (pv 1) T.clPB T.pP_standing (ok_standing T) (hr.mono (by decide)) T.b_standing .nil pass0 rfl) (pe_prop (pv 1) T.clSB T.pS_standing (ok_standing T) (hr.mono (by decide)) T.b_standing .nil pass0 rfl)) (pg_tup rfl (pgs_cons (pg_fld (pv 0)) (pgs_cons (pg_fld (pv 0)) (pgs_cons (pg_fld (pv 0)) (pgs_cons (pg_fld (pv 0)) pgs_nil))))))), ?_⟩
    have cl := cls_ok T b
    have na := fun {f} => na_ok T b (f := f)
    have st : ∀ {R : VK}, (∀ H' t, Same H H' → H t = none → H' t = some (.tup (mdV m2)) → R (.ref t) H') → sp_standing K T.PB T.SB [.ref y] H R E0 := fun h => ⟨y, b, ds, rd, m2, rfl, hC, h⟩
    have go : ∀ {D : Ends} {σ : L2.St}, σ = [some (.ref x), some (.ref y)] → (∀ H', FX x H H' → BoxAt K T.PB T.SB H' x b ds rd m2 → D.nx σ H') → ∀ H' t, Same H H' → H t = none → H' t = some (.tup (mdV m2)) →
        gTup K 4 (gCons (gFld K (tVar 0) "_left") (gCons (gFld K (tVar 0) "_sent") (gCons (gFld K (tVar 0) "_place") (gCons (gFld K (tVar 0) "_quiet") gNil)))) (.ref t) σ H' D.nx := by
      rintro D σ rfl kk H' t s t0 ht
      have hx := s _ _ e
      have F1 := f.l m2.l
      have F2 := F1.s m2.s
      have F3 := F2.p m2.p
      have F4 := F3.q m2.q
      have X1 : FX x H' _ := FX.set (o := .ins (clOf T.PB T.SB b) dx (putF "_left" (.int (m2.l : Nat)) fs))
      have X2 := X1.trans (FX.set (o := .ins (clOf T.PB T.SB b) dx (putF "_sent" (.int (m2.s : Nat)) (putF "_left" (.int (m2.l : Nat)) fs))))
      have X3 := X2.trans (FX.set (o := .ins (clOf T.PB T.SB b) dx (putF "_place" (oV m2.p) (putF "_sent" (.int (m2.s : Nat)) (putF "_left" (.int (m2.l : Nat)) fs)))))
      have X4 := X3.trans (FX.set (o := .ins (clOf T.PB T.SB b) dx (putF "_quiet" (.int (m2.q : Nat)) (putF "_place" (oV m2.p) (putF "_sent" (.int (m2.s : Nat)) (putF "_left" (.int (m2.l : Nat)) fs))))))
      refine ⟨t, _, rfl, SqT.of ht, rfl, _, _, rfl, _, rfl, x, _, dx, fs, rfl, hx, cl, na (by decide), by have := f.len; omega, ?_⟩
      refine ⟨_, _, rfl, _, rfl, x, _, dx, _, rfl, upd_same, cl, na (by decide), by have := F1.len; omega, ?_⟩
      refine ⟨_, _, rfl, _, rfl, x, _, dx, _, rfl, upd_same, cl, na (by decide), by have := F2.len; omega, ?_⟩
      refine ⟨_, _, rfl, _, rfl, x, _, dx, _, rfl, upd_same, cl, na (by decide), by have := F3.len; omega, ?_⟩
      exact ⟨rfl, kk _ ((FX.of s).trans X4) ⟨dx, _, r, upd_same, F4, X4.kt hx _ _ (sameT s q), N, r1, r8, ok2⟩⟩
    cases b with
    | false => exact .inl ⟨_, rfl, y, dx2, fs2, rfl, e2, st (go rfl k)⟩
    | true => exact .inr ⟨_, rfl, y, dx2, fs2, rfl, e2, st (go rfl k)⟩
theorem ok_go_on (T : Txt P K mg) : FnOk P w K mg base CX0 1 T.a_go_on T.d_go_on ["self"] (sp_go_on K T.PB T.SB) := by
  refine T.F_go_on.ok sc_go_on (fun vs H Q E h => ?_) (fun cdv A outer s H vs Q E hr h => ?_)
  · obtain ⟨x, b, ds, rd, m, rfl, _⟩ := h
    rfl
  · obtain ⟨x, b, ds, rd, m, rfl, hB, k⟩ := h
    obtain ⟨dx, fs, r, e, f, q, N, r1, r8, ok⟩ := id hB
    refine ⟨_, (pss_cons (ps_if (pt_cmpR op_isN (pe_fld (pv 0) rfl) pe_non (nomark _))
        (pss_one (ps_ret pe_bl))
        pss_nil)
      (pss_cons (ps_fldaug (pv 0) pe_int in_add)
      (pss_cons (ps_if (pt_cmpR op_lt (pe_fld (pv 0) rfl) (pe_callB call_len_seq (by rfl) T.z_len PySem.boot_len (pa_cons (pe_fld (pv 0) rfl) pa_nil)) (nomark _))
        (pss_one (ps_ret pe_bl))
        pss_nil)
      (pss_cons (ps_fld (pv 0) pe_non rfl)
      (pss_cons (ps_fldaug (pv 0) pe_int in_sub)
      (pss_cons (ps_fld (pv 0) (pe_ifExp (pt_cmpR op_gt (pe_fld (pv 0) rfl) pe_int (nomark _)) (pe_op op_add (pe_fld (pv 0) rfl) pe_int) pe_int) rfl)
      (pss_one (ps_ret pe_bl)))))))), ?_⟩
    have cl := cls_ok T b
    have na := fun {f} => na_ok T b (f := f)
    have gk := go_ok ok (row_pos ds)
    unfold go at k gk
    refine ⟨_, rfl, x, _, dx, fs, _, rfl, e, cl, na (by decide), f.pc, rfl, _, rfl, ?_⟩
    rw [oV_dec]
    cases hp : m.p with
    | none =>
      rw [hp] at k
      exact iteT (k H FX.refl hB)
    | some i =>
      rw [hp] at k gk
      have hi := ok.pl i hp
      have sl := ok.sl
      have pc : fs.lookup ("_place" : Str) = some (.int (i : Nat)) := by rw [f.pc, hp]; rfl
      refine iteF ⟨_, rfl, x, _, dx, fs, _, rfl, e, cl, na (by decide), pc, _, _, rfl, rfl, dx, fs, e, by have := f.len; omega, ?_⟩
      have F1 := f.p (some (i + 1))
      have e1 : putF "_place" (V.int ((i : Nat) + 1)) fs = putF "_place" (oV (some (i + 1))) fs := by unfold oV; congr 2
      have X1 : FX x H _ := FX.set (o := .ins (clOf T.PB T.SB b) dx (putF "_place" (oV (some (i + 1))) fs))
      have h1 : upd H x (.ins (clOf T.PB T.SB b) dx (putF "_place" (oV (some (i + 1))) fs)) x = some (.ins (clOf T.PB T.SB b) dx (putF "_place" (oV (some (i + 1))) fs)) := upd_same
      have q1 : SqT K (upd H x (.ins (clOf T.PB T.SB b) dx (putF "_place" (oV (some (i + 1))) fs))) r (rowV ds) := X1.kt e _ _ q
      rw [e1]
      generalize hH1 : upd H x (.ins (clOf T.PB T.SB b) dx (putF "_place" (oV (some (i + 1))) fs)) = H1 at X1 h1 q1 ⊢
      generalize putF "_place" (oV (some (i + 1))) fs = g1 at F1 h1
      refine ⟨_, rfl, x, _, dx, g1, _, rfl, h1, cl, na (by decide), F1.pc, _, rfl, x, _, dx, g1, _, rfl, h1, cl, na (by decide), F1.row, r, _, rfl, .inr q1, _, _, rfl, rfl, _, rfl, ?_⟩
      rw [rowV_len]
      dsimp only at k gk
      by_cases c : i + 1 < (rowL ds).length
      · rw [if_pos c] at k gk
        refine iteT' (decide_eq_true (by omega)) ?_
        exact k H1 X1 ⟨dx, g1, r, h1, F1, q1, N, r1, r8, gk⟩
      rw [if_neg c] at k gk
      refine iteF' (decide_eq_false (by omega)) ?_
      have F2 : Fs (putF "_place" V.non g1) ds rd r ⟨m.l, m.s, none, m.q⟩ := F1.p none
      have X2 := X1.trans (FX.set (o := .ins (clOf T.PB T.SB b) dx (putF "_place" V.non g1)))
      refine ⟨_, rfl, x, _, dx, g1, rfl, h1, cl, na (by decide), by have := F1.len; omega, ?_⟩
      have h2 : upd H1 x (.ins (clOf T.PB T.SB b) dx (putF "_place" V.non g1)) x = some (.ins (clOf T.PB T.SB b) dx (putF "_place" V.non g1)) := upd_same
      have q2 : SqT K (upd H1 x (.ins (clOf T.PB T.SB b) dx (putF "_place" V.non g1))) r (rowV ds) := X2.kt e _ _ q
      generalize upd H1 x (.ins (clOf T.PB T.SB b) dx (putF "_place" V.non g1)) = H2 at X2 h2 q2 ⊢
      generalize putF "_place" V.non g1 = g2 at F2 h2
      refine ⟨_, rfl, x, _, dx, g2, _, rfl, h2, cl, na (by decide), F2.lf, _, _, rfl, rfl, dx, g2, h2, by have := F2.len; omega, ?_⟩
      have eL : ((m.l : Nat) : Int) - 1 = ((m.l - 1 : Nat) : Int) := by omega
      dsimp only
      rw [eL]
      have F3 := F2.l (m.l - 1)
      have X3 := X2.trans (FX.set (o := .ins (clOf T.PB T.SB b) dx (putF "_left" (.int ((m.l - 1 : Nat) : Int)) g2)))
      have h3 : upd H2 x (.ins (clOf T.PB T.SB b) dx (putF "_left" (.int ((m.l - 1 : Nat) : Int)) g2)) x = some (.ins (clOf T.PB T.SB b) dx (putF "_left" (.int ((m.l - 1 : Nat) : Int)) g2)) := upd_same
      have q3 : SqT K (upd H2 x (.ins (clOf T.PB T.SB b) dx (putF "_left" (.int ((m.l - 1 : Nat) : Int)) g2))) r (rowV ds) := X3.kt e _ _ q
      generalize upd H2 x (.ins (clOf T.PB T.SB b) dx (putF "_left" (.int ((m.l - 1 : Nat) : Int)) g2)) = H3 at X3 h3 q3 ⊢
      generalize putF "_left" (.int ((m.l - 1 : Nat) : Int)) g2 = g3 at F3 h3
      by_cases c2 : 1 < m.l
      · rw [if_pos c2] at k gk
        refine ⟨_, rfl, x, _, dx, g3, _, rfl, h3, cl, na (by decide), F3.lf, _, _, rfl, rfl, _, rfl, iteT' (decide_eq_true (show ((m.l - 1 : Nat) : Int) > 0 by omega)) ?_⟩
        refine ⟨_, rfl, x, _, dx, g3, _, rfl, h3, cl, na (by decide), F3.st, _, _, rfl, rfl, _, rfl, x, _, dx, g3, rfl, h3, cl, na (by decide), by have := F3.len; omega, ?_⟩
        have F4 := F3.s (m.s + 1)
        have X4 := X3.trans (FX.set (o := .ins (clOf T.PB T.SB b) dx (putF "_sent" (.int ((m.s + 1 : Nat) : Int)) g3)))
        exact k _ X4 ⟨dx, _, r, upd_same, F4, X4.kt e _ _ q, N, r1, r8, gk⟩
      · rw [if_neg c2] at k gk
        refine ⟨_, rfl, x, _, dx, g3, _, rfl, h3, cl, na (by decide), F3.lf, _, _, rfl, rfl, _, rfl, iteF' (decide_eq_false (show ¬ ((m.l - 1 : Nat) : Int) > 0 by omega)) ?_⟩
        refine ⟨_, rfl, x, _, dx, g3, rfl, h3, cl, na (by decide), by have := F3.len; omega, ?_⟩
        have F4 := F3.s 0
        have X4 := X3.trans (FX.set (o := .ins (clOf T.PB T.SB b) dx (putF "_sent" (.int ((0 : Nat) : Int)) g3)))
        exact k _ X4 ⟨dx, _, r, upd_same, F4, X4.kt e _ _ q, N, r1, r8, gk⟩
end
end K16

namespace K16
open PySem L2 Wm TL Dv
section
variable {P : Program} {w : World} {K : PySem.W.Frag} {mg : Str → Option Value} {base : Heap}
theorem ixN_ofNat {n j : Nat} (hj : j < n) : ixN n (j : Int) = some j := by
  unfold ixN
  rw [if_pos (by omega), if_pos (by omega)]; simp
theorem eqv_nil : ∀ ds : List PyData, PyData.eqv (.list ds) (.list []) = decide (ds = [])
  | [] => by simp [PyData.eqv, PyData.eqvAll]
  | d :: ds => by simp [PyData.eqv, PyData.eqvAll]
theorem shaped_il (ns : List Int) : SeqAt.shaped (.list (ns.map PyData.int)) = true := PySem.W.ke_shaped_ints ns
theorem dp_ints {H : Hp} : ∀ ns : List Int, DpAll K H (ns.map V.int) (ns.map PyData.int)
  | [] => .nil
  | n :: ns => .cons (.int n) (dp_ints ns)
theorem But2.refl {s a : Addr} {H : Hp} : But2 s a H H := ⟨fun _ _ _ _ h => h⟩
theorem But2.trans {s a : Addr} {H H1 H2 : Hp} (x : But2 s a H H1) (y : But2 s a H1 H2) : But2 s a H H2 := ⟨fun p o n1 n2 h => y.keep p o n1 n2 (x.keep p o n1 n2 h)⟩
theorem But2.of {s a : Addr} {H H' : Hp} (e : Same H H') : But2 s a H H' := ⟨fun p o _ _ h => e p o h⟩
theorem But2.set1 {s a : Addr} {H : Hp} {o : HO} : But2 s a H (upd H s o) := ⟨fun p u n _ h => by rw [upd_ne n]; exact h⟩
theorem But2.set2 {s a : Addr} {H : Hp} {o : HO} : But2 s a H (upd H a o) := ⟨fun p u _ n h => by rw [upd_ne n]; exact h⟩
theorem fmod_in {x l : Int} (h : 0 < l) : 0 ≤ x.fmod l ∧ x.fmod l < l := by
  rw [Int.fmod_eq_emod_of_nonneg x (Int.le_of_lt h)]
  exact ⟨Int.emod_nonneg x (by omega), Int.emod_lt_of_pos x h⟩
theorem mapV_at {xs : List Int} {i : Nat} {v : V} (h : (xs.map V.int)[i]? = some v) : ∃ x, xs[i]? = some x ∧ v = .int x := by
  rw [List.getElem?_map] at h
  obtain ⟨x, hx, rfl⟩ := Option.map_eq_some_iff.mp h
  exact ⟨x, hx, rfl⟩
theorem ints_of {ys : List V} (h : ∀ (i : Nat) y, ys[i]? = some y → ∃ z : Int, y = .int z) : ∃ zs : List Int, ys = zs.map V.int := by
  induction ys with
  | nil => exact ⟨[], rfl⟩
  | cons y ys ih =>
    obtain ⟨zs, e⟩ := ih fun i z hz => h (i + 1) z (by simpa using hz)
    obtain ⟨z, e2⟩ := h 0 y rfl
    exact ⟨z :: zs, by rw [e, e2]; rfl⟩
theorem ok_source (T : Txt P K mg) : FnOk P w K mg base CX0 1 T.a_source T.d_source ["_law_script"] (sp_source K) := by
  refine T.F_source.ok sc_source (fun vs H Q E h => ?_) (fun cdv A outer s H vs Q E hr h => ?_)
  · obtain ⟨a, ns, rfl, _⟩ := h
    rfl
  · obtain ⟨a, ns, rfl, hS, hlen, k⟩ := h
    refine ⟨_, (pss_cons (ps_setLc (i := 1) (own := [("_law_cell", 2)]) (g := gName 2) (tt := tYes) rfl sc_source.nd rfl rfl (sw_true rfl rfl rfl (by decide +kernel)) (pi_list (pe_slice sl_list (pv 0) po_none (po_some pe_int))) (blkOk_by (own := [("_law_cell", 2)]) (N := nm_source) (sc := (defScope s_source)) (by decide +kernel)) (fun _ _ _ _ _ => pg_name (i := 2) sc_source.nd rfl (Or.inl rfl)) (fun _ _ _ _ _ => pts_nil) (fun _ _ _ _ _ => (pe_op op_add (pe_op op_mul pe_int (pe_callB call_abs (by rfl) T.z_abs (by decide +kernel) (pa_cons (pe_callTy call_int1 (by rfl) T.z_int (by decide +kernel) (pa_cons (pv 2) pa_nil)) pa_nil))) (pe_callTy call_int1 (by rfl) T.z_int (by decide +kernel) (pa_cons (pe_cmpR op_lt (pe_callTy call_int1 (by rfl) T.z_int (by decide +kernel) (pa_cons (pv 2) pa_nil)) pe_int (nomark _)) pa_nil)))))
      (pss_one (ps_ret (pe_lst (pa_cons (pe_lc (own := [("_law_cell", 2)]) (g := gName 2) rfl sc_source.nd (pi_list (pv 1)) (blkOk_by (own := [("_law_cell", 2)]) (N := nm_source) (sc := (defScope s_source)) (by decide +kernel)) (fun _ _ _ _ _ => pg_name (i := 2) sc_source.nd rfl (Or.inl rfl)) (fun _ _ _ _ _ => (pts_one (pt_cmpR op_ge (pv 2) (pe_op op_pow pe_int pe_int) (nomark _)))) (fun _ _ _ _ _ => (pv 2))) (pa_cons (pe_lc (own := [("_law_cell", 2)]) (g := gName 2) rfl sc_source.nd (pi_list (pv 1)) (blkOk_by (own := [("_law_cell", 2)]) (N := nm_source) (sc := (defScope s_source)) (by decide +kernel)) (fun _ _ _ _ _ => pg_name (i := 2) sc_source.nd rfl (Or.inl rfl)) (fun _ _ _ _ _ => (pts_one (pt_cmpR op_lt (pv 2) (pe_op op_pow pe_int pe_int) (nomark _)))) (fun _ _ _ _ _ => (pv 2))) (pa_cons pe_int (pa_cons pe_int pa_nil)))))))), ?_⟩
    refine ⟨.ref a, rfl, 63, rfl, a, _, rfl, hS, fun p hp => ?_⟩
    have lc : (cutV (ns.map V.int) none (some 63)).length ≤ 63 := Nat.le_trans (cutV_length _ _ _) (by rw [List.length_map]; exact hlen)
    have ic : ∀ (i : Nat) v, (cutV (ns.map V.int) none (some 63))[i]? = some v → ∃ z : Int, v = .int z := fun i v hv => by
      have m := List.mem_of_mem_drop (List.mem_of_mem_take (List.mem_of_getElem? hv))
      obtain ⟨z, _, e⟩ := List.mem_map.mp m
      exact ⟨z, e.symm⟩
    generalize cutV (ns.map V.int) none (some 63) = cs at lc ic
    have hcs : upd H p (.lst cs) p = some (.lst cs) := upd_same
    refine ⟨p, rfl, ⟨_, SqL.of hcs⟩, fun D hD => ?_⟩
    refine Lm.lc_map (K := K) walk_list (fun _ y _ => ∃ z : Int, y = .int z) (fun _ _ _ _ h _ => h) hD (by omega) (fun H' s => SqL.of (s _ _ hcs)) (fun i x H' hi hx sm Q2 Z q => ?_) (fun H2 ys s2 hy ly hR => ?_)
    · obtain ⟨z, rfl⟩ := ic i x hx
      refine ⟨rfl, yesT ?_⟩
      exact ⟨_, rfl, .inl ⟨_, rfl, _, rfl, _, _, rfl, rfl, .inl ⟨by decide, by decide⟩, _, rfl, .inl ⟨_, rfl, _, _, rfl, rfl, .inr ⟨_, rfl, _, _, rfl, rfl, q _ _ (Same.refl _) ⟨_, rfl⟩⟩⟩⟩⟩
    obtain ⟨zs, rfl⟩ := ints_of hR
    rw [List.length_map] at ly
    have lz : zs.length ≤ 63 := by omega
    have s02 : Same H H2 := (same_new hp).trans s2
    refine ⟨_, rfl, D, rfl, ⟨_, SqL.of hy⟩, fun A1 hA1 => ?_⟩
    refine lc_list (xs := zs.map V.int) (fun i H' => Same H2 H' ∧ ∃ qs : List Int, qs.length ≤ i ∧ H' A1 = some (.lst (qs.map V.int))) ⟨same_new hA1, [], Nat.le_refl _, upd_same⟩ (fun i H3 _ hP => SqL.of (hP.1 _ _ hy)) (fun i x H3 hx hP => ?_) (fun H3 hP => ?_)
    · obtain ⟨sm, qs, eq, hq⟩ := hP
      obtain ⟨z, hz, rfl⟩ := mapV_at hx
      have hi := (List.getElem?_eq_some_iff.mp hz).1
      refine ⟨rfl, ?_⟩
      refine ⟨_, rfl, _, _, rfl, rfl, ⟨by decide, by decide, by decide⟩, _, _, rfl, rfl, _, rfl, ite2 (fun c => ?_) (fun c => ?_)⟩
      · exact ⟨_, rfl, _, hq, by rw [List.length_map]; exact small1000 (by omega), same_mut sm hA1, qs ++ [z], by rw [List.length_append, List.length_singleton]; omega, by rw [upd_same, List.map_append]; rfl⟩
      · exact ⟨sm, qs, by omega, hq⟩
    obtain ⟨s3, q1, _, h1⟩ := hP
    refine ⟨_, rfl, D, rfl, ⟨_, SqL.of (s3 _ _ hy)⟩, fun A2 hA2 => ?_⟩
    refine lc_list (xs := zs.map V.int) (fun i H' => Same H3 H' ∧ ∃ qs : List Int, qs.length ≤ i ∧ H' A2 = some (.lst (qs.map V.int))) ⟨same_new hA2, [], Nat.le_refl _, upd_same⟩ (fun i H4 _ hP => SqL.of (hP.1 _ _ (s3 _ _ hy))) (fun i x H4 hx hP => ?_) (fun H4 hP => ?_)
    · obtain ⟨sm, qs, eq, hq⟩ := hP
      obtain ⟨z, hz, rfl⟩ := mapV_at hx
      have hi := (List.getElem?_eq_some_iff.mp hz).1
      refine ⟨rfl, ?_⟩
      refine ⟨_, rfl, _, _, rfl, rfl, ⟨by decide, by decide, by decide⟩, _, _, rfl, rfl, _, rfl, ite2 (fun c => ?_) (fun c => ?_)⟩
      · exact ⟨_, rfl, _, hq, by rw [List.length_map]; exact small1000 (by omega), same_mut sm hA2, qs ++ [z], by rw [List.length_append, List.length_singleton]; omega, by rw [upd_same, List.map_append]; rfl⟩
      · exact ⟨sm, qs, by omega, hq⟩
    obtain ⟨s4, q2, _, h2⟩ := hP
    refine ⟨by show 4 ≤ sizeLine; decide, fun s hs => ?_⟩
    have h14 := s4 _ _ h1
    have s04 := (s02.trans s3).trans s4
    refine k _ s A1 A2 (s04.trans (same_new hs)) ⟨1, 0, q1, q2, upd_same, at_old h14 hs, at_old h2 hs, (fun e => ?_), (fun e => ?_), (fun e => ?_), by decide⟩ (s04.free hs) (s02.free hA1)
    · rw [e] at h1
      rw [hA2] at h1
      cases h1
    · rw [e] at h14
      rw [hs] at h14
      cases h14
    · rw [e] at h2
      rw [hs] at h2
      cases h2
theorem ok_draw (T : Txt P K mg) : FnOk P w K mg base CX0 1 T.a_draw T.d_draw ["_law_source_here", "_law_many"] (sp_draw K) := by
  refine T.F_draw.ok sc_draw (fun vs H Q E h => ?_) (fun cdv A outer s H vs Q E hr h => ?_)
  · obtain ⟨s, a, b, lim, rfl, _⟩ := h
    rfl
  · obtain ⟨s, a, b, lim, rfl, l0, l1, ⟨x, m, ns, ms, hs, ha, hb, nab, nas, nbs, m0⟩, kk⟩ := h
    refine ⟨_, (C8.pss_cut (ps_while PassesOwn.never (PW.pt (pw_and (pt_cmpR (op_neD hr.units) (pe_ix ix_list (pv 0) pe_int (fun _ _ => rfl)) (pe_lst pa_nil) (nomark _)) (pw_and1 (pt_cmpR op_eq (pe_ix ix_list (pe_ix ix_list (pv 0) pe_int (fun _ _ => rfl)) pe_int (fun _ _ => rfl)) pe_int (nomark _)))))
        (pss_one (ps_expr (pe_bm PySem.F.plainAttrs_list PySem.F.slot_list_pop PySem.F.type_list_pop mt_popAt (pe_ix ix_list (pv 0) pe_int (fun _ _ => rfl)) (pa_cons pe_int pa_nil)))))
      (pss_cons (ps_if (pt_cmpR (op_neD hr.units) (pe_ix ix_list (pv 0) pe_int (fun _ _ => rfl)) (pe_lst pa_nil) (nomark _))
        (pss_cons (ps_set (i := 2) sc_draw.nd rfl (Or.inl rfl) (pe_ix ix_list (pe_ix ix_list (pv 0) pe_int (fun _ _ => rfl)) pe_int (fun _ _ => rfl)))
        (pss_cons (ps_asg (pe_op op_fdivN (pv 2) (pv 1)) (pg_sub (pe_ix ix_list (pv 0) pe_int (fun _ _ => rfl)) pe_int set_list))
        (pss_one (ps_ret (pe_op op_modN (pe_callTy call_int1 (by rfl) T.z_int (by decide +kernel) (pa_cons (pv 2) pa_nil)) (pv 1))))))
        pss_nil)
      (pss_cons (ps_augS (pv 0) pe_int Sl.get_list pe_int ip_add set_list)
      (pss_cons (ps_set (i := 2) sc_draw.nd rfl (Or.inl rfl) pe_int)
      (C8.pss_cut (ps_if (pt_cmpR (op_neD hr.units) (pe_ix ix_list (pv 0) pe_int (fun _ _ => rfl)) (pe_lst pa_nil) (nomark _))
        (pss_one (ps_set (i := 2) sc_draw.nd rfl (Or.inl rfl) (pe_ix ix_list (pe_ix ix_list (pv 0) pe_int (fun _ _ => rfl)) (pe_op op_modN (pe_callTy call_int1 (by rfl) T.z_int (by decide +kernel) (pa_cons (pe_ix ix_list (pv 0) pe_int (fun _ _ => rfl)) pa_nil)) (pe_callB call_len_seq (by rfl) T.z_len PySem.boot_len (pa_cons (pe_ix ix_list (pv 0) pe_int (fun _ _ => rfl)) pa_nil))) (fun _ _ => rfl))))
        pss_nil)
      (pss_cons (ps_asg (pe_op op_modN (pe_callTy call_int1 (by rfl) T.z_int (by decide +kernel) (pa_cons (pe_op op_add (pe_op op_add (pe_op op_mul (pe_ix ix_list (pv 0) pe_int (fun _ _ => rfl)) pe_int) (pe_op op_mul (pv 2) pe_int)) (pe_op op_mul (pe_ix ix_list (pv 0) pe_int (fun _ _ => rfl)) pe_int)) pa_nil)) pe_int) (pg_sub (pv 0) pe_int set_list))
      (pss_one (ps_ret (pe_op op_modN (pe_callTy call_int1 (by rfl) T.z_int (by decide +kernel) (pa_cons (pe_op op_fdivN (pe_ix ix_list (pv 0) pe_int (fun _ _ => rfl)) pe_int) pa_nil)) (pv 1)))))))))), ?_⟩
    refine ⟨fun σ H1 => ∃ ns : List Int, σ = [some (.ref s), some (.int lim), none] ∧ But2 s a H H1 ∧ H1 s = some (.lst [.ref a, .ref b, .int x, .int m]) ∧ H1 a = some (.lst (ns.map V.int)) ∧ H1 b = some (.lst (ms.map V.int)), ?_, ?_⟩
    · refine ⟨fun k σ H1 => ∃ ns : List Int, ns.length = k ∧ σ = [some (.ref s), some (.int lim), none] ∧ But2 s a H H1 ∧ H1 s = some (.lst [.ref a, .ref b, .int x, .int m]) ∧ H1 a = some (.lst (ns.map V.int)) ∧ H1 b = some (.lst (ms.map V.int)), ⟨_, ns, rfl, rfl, But2.refl, hs, ha, hb⟩, ?_⟩
      clear hs ha hb
      rintro k σ H1 ⟨ns, rfl, rfl, but, hs, ha, hb⟩
      refine ⟨_, rfl, s, _, 0, _, rfl, rfl, SqL.of hs, atI_nat (j := 0) rfl, Nat.zero_le _, fun E1 hE1 => ?_⟩
      refine ⟨_, _, .lst (SqL.of (at_old ha hE1)) (dp_ints ns), .lst (SqL.of upd_same) .nil, shaped_il _, by decide +kernel, _, rfl, ?_⟩
      rw [eqv_nil]
      have but1 : But2 s a H (upd H1 E1 (.lst [])) := but.trans (But2.of (same_new hE1))
      have hs1 := at_old (u := .lst []) hs hE1
      have ha1 := at_old (u := .lst []) ha hE1
      have hb1 := at_old (u := .lst []) hb hE1
      generalize upd H1 E1 (.lst []) = H2 at *
      cases ns with
      | nil =>
        refine iteF ?_
        exact iteF ⟨[], rfl, but1, hs1, ha1, hb1⟩
      | cons z r =>
        refine iteT ?_
        refine ⟨_, rfl, s, _, 0, _, rfl, rfl, SqL.of hs1, atI_nat (j := 0) rfl, a, _, 0, _, rfl, rfl, SqL.of ha1, atI_nat (j := 0) rfl, rfl, _, rfl, ite2 (fun c => ?_) (fun c => ?_)⟩
        · refine ⟨fun σ H1 => ∃ ns : List Int, ns.length = r.length ∧ σ = [some (.ref s), some (.int lim), none] ∧ But2 s a H H1 ∧ H1 s = some (.lst [.ref a, .ref b, .int x, .int m]) ∧ H1 a = some (.lst (ns.map V.int)) ∧ H1 b = some (.lst (ms.map V.int)), fun σ' H' h => ⟨r.length, by simp, h⟩, ?_⟩
          refine ⟨_, rfl, s, _, 0, _, rfl, rfl, SqL.of hs1, atI_nat (j := 0) rfl, .inl ⟨rfl, _, SqL.of ha1⟩, a, _, 0, 0, _, rfl, rfl, ha1, by decide, by decide, (ixN_seq (ixN_ofNat (j := 0) (by simp))).1, rfl, ?_⟩
          exact ⟨r, rfl, rfl, but1.trans But2.set2, by rw [upd_ne (Ne.symm nas)]; exact hs1, upd_same, by rw [upd_ne (Ne.symm nab)]; exact hb1⟩
        · exact ⟨z :: r, rfl, but1, hs1, ha1, hb1⟩
    clear hs ha hb
    rintro σ H0 ⟨ns, rfl, but0, hs0, ha0, hb0⟩
    refine ⟨_, rfl, s, _, 0, _, rfl, rfl, SqL.of hs0, atI_nat (j := 0) rfl, Nat.zero_le _, fun E1 hE1 => ?_⟩
    refine ⟨_, _, .lst (SqL.of (at_old ha0 hE1)) (dp_ints ns), .lst (SqL.of upd_same) .nil, shaped_il _, by decide +kernel, _, rfl, ?_⟩
    rw [eqv_nil]
    have but : But2 s a H (upd H0 E1 (.lst [])) := but0.trans (But2.of (same_new hE1))
    have hs := at_old (u := .lst []) hs0 hE1
    have ha := at_old (u := .lst []) ha0 hE1
    have hb := at_old (u := .lst []) hb0 hE1
    generalize upd H0 E1 (.lst []) = H1 at *
    cases ns with
    | cons z r =>
      refine iteT ?_
      refine ⟨_, rfl, s, _, 0, _, rfl, rfl, SqL.of hs, atI_nat (j := 0) rfl, a, _, 0, _, rfl, rfl, SqL.of ha, atI_nat (j := 0) rfl, ?_⟩
      refine ⟨_, rfl, _, rfl, _, _, rfl, rfl, ⟨by omega, by omega⟩, _, rfl, s, _, 0, _, rfl, rfl, SqL.of hs, atI_nat (j := 0) rfl, a, _, 0, 0, rfl, rfl, ha, ixN_ofNat (j := 0) (by simp), ?_⟩
      refine ⟨_, rfl, .inl ⟨_, rfl, _, rfl, _, _, rfl, rfl, by omega, ?_⟩⟩
      refine kk _ _ (fmod_in l0).1 (fmod_in l0).2 ⟨x, m, (z.fdiv lim) :: r, ms, ?_, upd_same, ?_, nab, nas, nbs, m0⟩ (but.trans But2.set2)
      · rw [upd_ne (Ne.symm nas)]
        exact hs
      · rw [upd_ne (Ne.symm nab)]
        exact hb
    | nil =>
      refine iteF ?_
      refine ⟨_, rfl, s, _, 3, _, rfl, rfl, SqL.of hs, atI_nat (j := 3) rfl, _, _, rfl, rfl, s, _, 3, 3, rfl, rfl, hs, rfl, ?_⟩
      have but2 : But2 s a H (upd H1 s (.lst [.ref a, .ref b, .int x, .int (m + 1)])) := but.trans But2.set1
      have hs2 : upd H1 s (.lst [.ref a, .ref b, .int x, .int (m + 1)]) s = some (.lst [.ref a, .ref b, .int x, .int (m + 1)]) := upd_same
      have ha2 : upd H1 s (.lst [.ref a, .ref b, .int x, .int (m + 1)]) a = some (.lst []) := by rw [upd_ne nas]; exact ha
      have hb2 : upd H1 s (.lst [.ref a, .ref b, .int x, .int (m + 1)]) b = some (.lst (ms.map V.int)) := by rw [upd_ne nbs]; exact hb
      show _
      refine ⟨fun σ H2 => ∃ c : Int, σ = [some (.ref s), some (.int lim), some (.int c)] ∧ But2 s a H H2 ∧ H2 s = some (.lst [.ref a, .ref b, .int x, .int (m + 1)]) ∧ H2 a = some (.lst []) ∧ H2 b = some (.lst (ms.map V.int)), ?_, ?_⟩
      · refine ⟨_, rfl, s, _, 1, _, rfl, rfl, SqL.of hs2, atI_nat (j := 1) rfl, Nat.zero_le _, fun E2 hE2 => ?_⟩
        refine ⟨_, _, .lst (SqL.of (at_old hb2 hE2)) (dp_ints ms), .lst (SqL.of upd_same) .nil, shaped_il _, by decide +kernel, _, rfl, ?_⟩
        rw [eqv_nil]
        have but3 := but2.trans (But2.of (same_new (o := .lst []) hE2))
        have hs3 := at_old (u := .lst []) hs2 hE2
        have ha3 := at_old (u := .lst []) ha2 hE2
        have hb3 := at_old (u := .lst []) hb2 hE2
        cases ms with
        | nil =>
          refine iteF ?_
          exact ⟨5, rfl, but3, hs3, ha3, hb3⟩
        | cons z r =>
          refine iteT ?_
          have lp : (0 : Int) < ((((z :: r).map V.int).length : Nat) : Int) := by rw [List.length_map, List.length_cons]; omega
          have fi := fmod_in (x := m + 1) lp
          have hlt : ((m + 1).fmod ((((z :: r).map V.int).length : Nat) : Int)).toNat < (z :: r).length := by rw [List.length_map] at fi ⊢; omega
          have hg : ((z :: r).map V.int)[((m + 1).fmod ((((z :: r).map V.int).length : Nat) : Int)).toNat]? = some (.int (z :: r)[((m + 1).fmod ((((z :: r).map V.int).length : Nat) : Int)).toNat]) := by rw [List.getElem?_map, List.getElem?_eq_getElem hlt]; rfl
          refine ⟨_, rfl, s, _, 1, _, rfl, rfl, SqL.of hs3, atI_nat (j := 1) rfl, _, rfl, s, _, 3, _, rfl, rfl, SqL.of hs3, atI_nat (j := 3) rfl, .inl ⟨_, rfl, _, rfl, s, _, 1, _, rfl, rfl, SqL.of hs3, atI_nat (j := 1) rfl, b, _, rfl, .inl (SqL.of hb3), _, _, rfl, rfl, by omega, b, _, _, _, rfl, rfl, SqL.of hb3, at_of (by omega) hg, ?_⟩⟩
          exact ⟨_, rfl, but3, hs3, ha3, hb3⟩
      · rintro σ H2 ⟨c, rfl, but, hs, ha, hb⟩
        refine ⟨_, rfl, s, _, 2, _, rfl, rfl, SqL.of hs, atI_nat (j := 2) rfl, _, _, rfl, rfl, .inr ⟨by decide, by decide⟩, _, rfl, _, _, rfl, rfl, .inr ⟨by decide, by decide⟩, _, _, rfl, rfl, ?_⟩
        refine ⟨_, rfl, s, _, 3, _, rfl, rfl, SqL.of hs, atI_nat (j := 3) rfl, _, _, rfl, rfl, .inr ⟨by decide, by decide⟩, _, _, rfl, rfl, .inl ⟨_, rfl, _, _, rfl, rfl, by omega, _, rfl, s, _, 2, 2, rfl, rfl, hs, rfl, ?_⟩⟩
        refine ⟨_, rfl, s, _, 2, _, rfl, rfl, SqL.of upd_same, atI_nat (j := 2) rfl, _, _, rfl, rfl, ⟨by decide, by decide⟩, .inl ⟨_, rfl, _, rfl, _, _, rfl, rfl, by omega, ?_⟩⟩
        refine kk _ _ (fmod_in l0).1 (fmod_in l0).2 ⟨_, m + 1, [], ms, upd_same, ?_, ?_, nab, nas, nbs, by omega⟩ (but.trans But2.set1)
        · rw [upd_ne nas]
          exact ha
        · rw [upd_ne nbs]
          exact hb
end
end K16

namespace K16
open PySem L2 Wm TL Dv
section
variable {P : Program} {w : World} {K : PySem.W.Frag} {mg : Str → Option Value} {base : Heap}
theorem dig_log {d : Nat} (h : 1 ≤ d ∧ d ≤ 9) : ((d : Int)).natAbs.log2 < 1920 := by
  rcases dig_cases h with e | e | e | e | e | e | e | e | e <;> subst e <;> decide +kernel
theorem sum_snoc (ds : List Nat) (d : Nat) : (ds ++ [d]).sum = ds.sum + d := by
  rw [List.sum_append]
  simp
theorem len_snoc (ds : List Nat) (d : Nat) : (ds ++ [d]).length = ds.length + 1 := by simp
theorem dig_snoc {ds : List Nat} {d : Nat} (h : ∀ y ∈ ds, 1 ≤ y ∧ y ≤ 9) (g : 1 ≤ d ∧ d ≤ 9) : ∀ y ∈ ds ++ [d], 1 ≤ y ∧ y ≤ 9 := fun y m => by
  rcases List.mem_append.mp m with m | m
  · exact h y m
  · rw [List.mem_singleton.mp m]
    exact g
theorem Src.keep {H H' : Hp} {s a b : Addr} (h : Src H s a b) (e : Same H H') : Src H' s a b := by
  obtain ⟨x, y, ns, ms, h1, h2, h3, h4⟩ := h
  exact ⟨x, y, ns, ms, e _ _ h1, e _ _ h2, e _ _ h3, h4⟩
theorem ok_number (T : Txt P K mg) : FnOk P w K mg base CX0 2 T.a_number T.d_number ["_law_source_here"] (sp_number K) := by
  refine T.F_number.ok sc_number (fun vs H Q E h => ?_) (fun cdv A outer s H vs Q E hr h => ?_)
  · obtain ⟨s0, a, b, rfl, _⟩ := h
    rfl
  · obtain ⟨s0, a, b, rfl, hbag, kk⟩ := h
    refine ⟨_, (pss_cons (ps_set (i := 1) sc_number.nd rfl (Or.inl rfl) (pe_op op_add pe_int (pe_call (ok_draw T) (hr.mono (by decide)) (by rfl) T.g_draw T.F_draw.kp T.b_draw .nil pass0 (pa_cons (pv 0) (pa_cons pe_int pa_nil)))))
      (C8.pss_cut (ps_set (i := 2) sc_number.nd rfl (Or.inl rfl) (pe_ifExp (pt_cmpR op_gt (pe_call (ok_draw T) (hr.mono (by decide)) (by rfl) T.g_draw T.F_draw.kp T.b_draw .nil pass0 (pa_cons (pv 0) (pa_cons pe_int pa_nil))) pe_int (nomark _)) pe_int pe_int))
      (pss_cons (ps_set (i := 3) sc_number.nd rfl (Or.inl rfl) pe_int)
      (pss_cons (ps_set (i := 4) sc_number.nd rfl (Or.inl rfl) pe_str)
      (pss_cons (ps_for PassesOwn.never rfl (pi_range1 (by rfl) T.z_range (pa_cons (pv 1) pa_nil)) (pg_name (i := 5) sc_number.nd rfl (Or.inl rfl))
        (pss_cons (ps_set (i := 6) sc_number.nd rfl (Or.inl rfl) (pe_op op_add pe_int (pe_call (ok_draw T) (hr.mono (by decide)) (by rfl) T.g_draw T.F_draw.kp T.b_draw .nil pass0 (pa_cons (pv 0) (pa_cons (pe_callB (call_min2 rfl) (by rfl) T.z_min (by decide +kernel) (pa_cons (pv 2) (pa_cons (pe_op op_sub (pv 3) (pe_op op_sub (pe_op op_sub (pv 1) pe_int) (pv 5))) pa_nil))) pa_nil)))))
        (pss_cons (ps_set (i := 4) sc_number.nd rfl (Or.inl rfl) (pe_op op_add_str (pv 4) (pe_callTy call_str_int (by rfl) T.z_str (by decide +kernel) (pa_cons (pv 6) pa_nil))))
        (pss_one (ps_set (i := 3) sc_number.nd rfl (Or.inl rfl) (pe_op op_sub (pv 3) (pv 6)))))))
      (pss_one (ps_ret (pv 4)))))))), ?_⟩
    refine ⟨_, rfl, s0, a, b, 4, rfl, by decide, by decide, hbag, fun H1 d1 g0 g1 bag1 but1 => ?_⟩
    refine ⟨_, _, rfl, rfl, ?_⟩
    obtain ⟨many, em⟩ : ∃ many : Nat, (1 : Int) + d1 = (many : Nat) := ⟨(1 + d1).toNat, by omega⟩
    try dsimp only
    rw [em]
    have m1 : 1 ≤ many := by omega
    have m4 : many ≤ 4 := by omega
    refine ⟨fun σ H2 => ∃ top : Int, σ = [some (.ref s0), some (.int (many : Nat)), some (.int top), none, none, none, none] ∧ 3 ≤ top ∧ top ≤ 9 ∧ Src H2 s0 a b ∧ But2 s0 a H H2, ?_, ?_⟩
    · refine ⟨_, rfl, s0, a, b, 5, rfl, by decide, by decide, bag1, fun H2 way w0 w1 bag2 but2 => ?_⟩
      refine ⟨_, _, rfl, rfl, _, rfl, ite2 (fun c => ?_) (fun c => ?_)⟩
      · exact ⟨3, rfl, by decide, by decide, bag2, but1.trans but2⟩
      · exact ⟨9, rfl, by decide, by decide, bag2, but1.trans but2⟩
    rintro σ H3 ⟨top, rfl, t3, t9, bag3, but3⟩
    clear bag1 but1 hbag
    refine ⟨_, rfl, _, rfl, by omega, by omega, ?_⟩
    rw [Int.toNat_natCast]
    refine for_range (fun i σ H' => ∃ (ds : List Nat) (vk vd : Option V), σ = [some (.ref s0), some (.int (many : Nat)), some (.int top), some (.int (24 - (ds.sum : Nat))), some (.str (numS ds)), vk, vd] ∧
      ds.length = i ∧ (∀ d ∈ ds, 1 ≤ d ∧ d ≤ 9) ∧ ds.sum + (many - i) ≤ 24 ∧ Src H' s0 a b ∧ But2 s0 a H H')
      ⟨[], none, none, by rw [numS_nil]; rfl, rfl, fun _ m => absurd m (List.not_mem_nil), by show 0 + (many - 0) ≤ 24; omega, bag3, but3⟩ (fun i σ H' hi hP => ?_) (fun σ H' hP => ?_)
    · obtain ⟨ds, vk, vd, rfl, el, hd, hs, bag, but⟩ := hP
      have eL : ((24 : Int) - (ds.sum : Nat)) - ((many : Nat) - 1 - (0 + (i : Nat))) = ((24 - ds.sum - (many - 1 - i) : Nat) : Int) := by omega
      refine ⟨_, rfl, _, rfl, _, rfl, _, rfl, _, _, rfl, rfl, _, rfl, _, _, rfl, rfl, _, _, rfl, rfl, _, _, rfl, ?_⟩
      (try dsimp only; rw [eL])
      generalize hlim : (if ((24 - ds.sum - (many - 1 - i) : Nat) : Int) < top then ((24 - ds.sum - (many - 1 - i) : Nat) : Int) else top) = lim
      have lim1 : 1 ≤ lim ∧ lim ≤ 9 ∧ lim ≤ ((24 - ds.sum - (many - 1 - i) : Nat) : Int) := by
        rw [← hlim]
        split <;> omega
      refine ⟨s0, a, b, lim, rfl, by omega, by omega, bag, fun H3 g q0 q1 bag4 but4 => ?_⟩
      refine ⟨_, _, rfl, rfl, ?_⟩
      have mid : ∃ d : Nat, (1 : Int) + g = (d : Nat) ∧ (1 ≤ d ∧ d ≤ 9) ∧ ds.sum + d + (many - 1 - i) ≤ 24 := ⟨(1 + g).toNat, by omega, by omega, by omega⟩
      obtain ⟨d, ed, hd9, hsum⟩ := mid
      (try dsimp only; rw [ed])
      refine ⟨_, rfl, _, rfl, _, rfl, dig_log hd9, _, _, rfl, rfl, ?_, ?_⟩
      · rw [dig_str hd9, numS_len, numS_len]
        exact Nat.le_of_lt (small1000 (by show ds.length + 1 ≤ 1000; omega))
      rw [dig_str hd9, numS_app]
      refine ⟨_, rfl, _, rfl, _, _, rfl, rfl, ?_⟩
      have e3 : (24 : Int) - (ds.sum : Nat) - (d : Nat) = 24 - ((ds ++ [d]).sum : Nat) := by rw [sum_snoc]; omega
      (try dsimp only; rw [e3])
      exact ⟨ds ++ [d], _, _, rfl, by rw [len_snoc, el], dig_snoc hd hd9, by rw [sum_snoc]; omega, bag4, but.trans but4⟩
    · obtain ⟨ds, vk, vd, rfl, el, hd, hs, bag, but⟩ := hP
      refine ⟨_, rfl, kk _ ds ⟨by omega, by omega, hd, by omega⟩ bag but⟩
end
end K16

namespace K16
open PySem L2 Wm TL Dv
section
variable {P : Program} {w : World} {K : PySem.W.Frag} {mg : Str → Option Value} {base : Heap}
theorem ok_scan (T : Txt P K mg) : FnOk P w K mg base CX0 4 T.a_scan T.d_scan ["self"] (sp_scan K T.PB T.SB) := by
  obtain ⟨kV, doc, pm, ct, oc, ccl, cl, an, od, cdd, cld, osl, ccs, csl, cda, cc, vsc, file, tf, cdC, e, lk, hcd, hcode, hvs, hfile, hcell, hC⟩ := T.su.ex
  rw [e] at lk ⊢
  refine Su.fn_super (k := 3) (k2 := 1) (f2 := T.a_wcan) (fd2 := T.d_wcan) (C := T.SB) (D := T.SB) (m := "can_begin") (sp2 := sp_wcan K T.PB T.SB) (fun env => rfl) lk hcd ⟨rfl, rfl, rfl, rfl, rfl, rfl, by decide +kernel, by decide +kernel⟩ rfl rfl hcode hvs hfile hcell hC hC T.su.sub T.su.mgn T.su.top (by decide +kernel) T.su.stat T.su.sup T.su.ty T.su.fn rfl (ok_wcan T) (by decide) T.b_wcan (fun vs H Q E h => ?_) (fun A outer s H vs Q E hr h => ?_)
  · obtain ⟨x, ds, rd, m, rfl, _⟩ := h
    rfl
  · obtain ⟨x, ds, rd, m, rfl, hB, k⟩ := h
    obtain ⟨dx, fs, r, e, f, q, N, r1, r8, ok⟩ := id hB
    refine ⟨x, dx, fs, _, rfl, e, pe_one (pe_cmpR op_ge (pe_fld (pv 0) rfl) (pe_op op_add (pe_glob (v := V.int 8) rfl T.c_QUIET_AHEAD ⟨_, rfl⟩) (pe_fld (pv 0) rfl)) (nomark _)), ⟨x, true, ds, rd, m, rfl, hB, _, rfl, ?_⟩⟩
    have cl := cls_ok T true
    have na := fun {f} => na_ok T true (f := f)
    unfold can at k
    cases c : wcan m with
    | false => rw [c] at k; exact iteF k
    | true =>
      rw [c] at k
      refine iteT ⟨_, rfl, x, _, dx, fs, _, rfl, e, cl, na (by decide), f.qt, _, rfl, x, _, dx, fs, _, rfl, e, cl, na (by decide), f.st, _, _, rfl, rfl, _, _, rfl, rfl, ?_⟩
      have e2 : (true && (!true || decide (8 + m.s ≤ m.q))) = decide (((m.q : Nat) : Int) ≥ 8 + ((m.s : Nat) : Int)) := by
        rw [Bool.true_and, Bool.not_true, Bool.false_or]
        exact decide_eq_decide.mpr ⟨fun h => by omega, fun h => by omega⟩
      show Q (.bl (decide (((m.q : Nat) : Int) ≥ 8 + ((m.s : Nat) : Int)))) H
      rw [← e2]
      exact k
theorem ok_begin (T : Txt P K mg) : FnOk P w K mg base CX0 5 T.a_begin T.d_begin ["self"] (sp_begin K T.PB T.SB) := by
  refine T.F_begin.ok sc_begin (fun vs H Q E h => ?_) (fun cdv A outer s H vs Q E hr h => ?_)
  · obtain ⟨x, b, ds, rd, m, rfl, _⟩ := h
    rfl
  · obtain ⟨x, b, ds, rd, m, rfl, hB, k⟩ := h
    obtain ⟨dx, fs, r, e, f, q, N, r1, r8, ok⟩ := id hB
    refine ⟨_, (pss_one (ps_if (pt_val (pe_alt (pe_meth0 (pv 0) T.clPB T.mP_wcan (ok_wcan T) (hr.mono (by decide)) T.b_wcan .nil pass0) (pe_meth0 (pv 0) T.clSB T.mS_scan (ok_scan T) (hr.mono (by decide)) T.b_scan .nil pass0)))
        (pss_one (ps_fld (pv 0) pe_int rfl))
        pss_nil)), ?_⟩
    have cl := cls_ok T b
    have na := fun {f} => na_ok T b (f := f)
    have bk := begun_ok (b := b) ok (row_pos ds)
    have F1 := f.p (some 0)
    have X1 : FX x H _ := FX.set (o := .ins (clOf T.PB T.SB b) dx (putF "_place" (oV (some 0)) fs))
    have yes : can b m = true → BoxAt K T.PB T.SB (upd H x (.ins (clOf T.PB T.SB b) dx (putF "_place" (oV (some 0)) fs))) x b ds rd (begun b m) := fun c => by
      unfold begun at bk ⊢
      rw [if_pos c] at bk ⊢
      exact ⟨dx, _, r, upd_same, F1, X1.kt e _ _ q, N, r1, r8, bk⟩
    have no : can b m = false → begun b m = m := fun c => by
      unfold begun
      rw [if_neg (by rw [c]; exact Bool.false_ne_true)]
    cases b with
    | false =>
      refine .inl ⟨_, rfl, x, dx, fs, rfl, e, f.no _ (by decide), ⟨x, false, ds, rd, m, rfl, hB, _, rfl, ite2 (fun c => ?_) (fun c => ?_)⟩⟩
      · exact ⟨_, rfl, x, _, dx, fs, rfl, e, cl, na (by decide), by have := f.len; omega, k _ X1 (yes (by rw [can_f]; exact c))⟩
      · rw [no (by rw [can_f]; exact Bool.eq_false_iff.mpr c)] at k
        exact k H FX.refl hB
    | true =>
      refine .inr ⟨_, rfl, x, dx, fs, rfl, e, f.no _ (by decide), ⟨x, ds, rd, m, rfl, hB, _, rfl, ite2 (fun c => ?_) (fun c => ?_)⟩⟩
      · exact ⟨_, rfl, x, _, dx, fs, rfl, e, cl, na (by decide), by have := f.len; omega, k _ X1 (yes c)⟩
      · rw [no (Bool.eq_false_iff.mpr c)] at k
        exact k H FX.refl hB
theorem ok_pcall (T : Txt P K mg) : FnOk P w K mg base CX0 2 T.a_pcall T.d_pcall ["self", "broken"] (sp_pcall K T.PB T.SB) := by
  refine T.F_pcall.ok sc_pcall (fun vs H Q E h => ?_) (fun cdv A outer s H vs Q E hr h => ?_)
  · obtain ⟨x, br, ds, rd, m, rfl, _⟩ := h
    rfl
  · obtain ⟨x, br, ds, rd, m, rfl, hB, k⟩ := h
    obtain ⟨dx, fs, r, e, f, q, N, r1, r8, ok⟩ := id hB
    refine ⟨_, (pss_one (ps_ret (pe_meth0 (pv 0) T.clPB T.mP_go_on (ok_go_on T) (hr.mono (by decide)) T.b_go_on .nil pass0))), ?_⟩
    rw [called_f] at k
    exact ⟨_, rfl, x, dx, fs, rfl, e, f.no _ (by decide), ⟨x, false, ds, rd, m, rfl, hB, k⟩⟩
theorem ok_scall (T : Txt P K mg) : FnOk P w K mg base CX0 3 T.a_scall T.d_scall ["self", "broken"] (sp_scall K T.PB T.SB) := by
  refine T.F_scall.ok sc_scall (fun vs H Q E h => ?_) (fun cdv A outer s H vs Q E hr h => ?_)
  · obtain ⟨x, br, ds, rd, m, rfl, _⟩ := h
    rfl
  · obtain ⟨x, br, ds, rd, m, rfl, hB, k⟩ := h
    obtain ⟨dx, fs, r, e, f, q, N, r1, r8, ok⟩ := id hB
    refine ⟨_, (C8.pss_cut (ps_if (PW.pt (pw_and (pt_val (pv 1)) (pw_and (pt_cmpR op_notN (pe_fld (pv 0) rfl) pe_non (nomark _)) (pw_and1 (pt_not (pt_val (pe_prop (pv 0) T.clSB T.pS_breaks (ok_breaks T) (hr.mono (by decide)) T.b_breaks .nil pass0 rfl)))))))
        (pss_cons (ps_fld (pv 0) pe_non rfl)
        (pss_one (ps_set (i := 2) sc_scall.nd rfl (Or.inl rfl) pe_bl)))
        (pss_one (ps_set (i := 2) sc_scall.nd rfl (Or.inl rfl) (pe_meth0 (pv 0) T.clSB T.mS_go_on (ok_go_on T) (hr.mono (by decide)) T.b_go_on .nil pass0))))
      (pss_cons (ps_fld (pv 0) (pe_ifExp (pt_val (pv 1)) pe_int (pe_callB (call_min2 rfl) (by rfl) T.z_min (by decide +kernel) (pa_cons (pe_op op_add (pe_fld (pv 0) rfl) pe_int) (pa_cons (pe_glob (v := V.int 16) rfl T.c_MOST_QUIET ⟨_, rfl⟩) pa_nil)))) rfl)
      (pss_one (ps_ret (pv 2))))), ?_⟩
    rw [called_t] at k
    have cl := cls_ok T true
    have na := fun {f} => na_ok T true (f := f)
    have ck := called_ok (b := true) (br := br) ok (row_pos ds)
    rw [called_t] at ck
    refine ⟨fun σ H1 => σ = [some (.ref x), some (.bl br), some (.bl (shy1 ds br m).2)] ∧ FX x H H1 ∧ BoxAt K T.PB T.SB H1 x true ds rd (shy1 ds br m).1, ?_, ?_⟩
    · have gone : (br && m.p.isSome && !brk ds m) = false → ∀ {W : L2.St → Hp → Prop}, (∀ H1, FX x H H1 → BoxAt K T.PB T.SB H1 x true ds rd (shy1 ds br m).1 → W [some (.ref x), some (.bl br), some (.bl (shy1 ds br m).2)] H1) →
          tMeth T.SB "go_on" (sp_go_on K T.PB T.SB) [] E0 (tVar 0) tNil [some (.ref x), some (.bl br), none] H (fun v H1 => W [some (.ref x), some (.bl br), some v] H1) := fun c W kk => by
        have e1 : shy1 ds br m = go (rowL ds).length m := by
          unfold shy1
          rw [if_neg (by rw [c]; exact Bool.false_ne_true)]
        rw [e1] at kk
        exact ⟨_, rfl, x, dx, fs, rfl, e, f.no _ (by decide), ⟨x, true, ds, rd, m, rfl, hB, kk⟩⟩
      cases br with
      | false => exact ⟨_, rfl, _, rfl, iteF (iteF (gone rfl fun H1 X B => ⟨rfl, X, B⟩))⟩
      | true =>
        refine ⟨_, rfl, _, rfl, iteT ⟨_, rfl, x, _, dx, fs, _, rfl, e, cl, na (by decide), f.pc, rfl, _, rfl, ?_⟩⟩
        rw [oV_not]
        cases hp : m.p.isSome with
        | false => exact iteF (iteF (gone (by rw [hp]; rfl) fun H1 X B => ⟨rfl, X, B⟩))
        | true =>
          refine iteT ⟨_, rfl, x, dx, fs, rfl, e, ⟨x, true, ds, rd, m, rfl, hB, _, rfl, ?_⟩⟩
          cases hb : brk ds m with
          | true => exact iteF (gone (by rw [hp, hb]; rfl) fun H1 X B => ⟨rfl, X, B⟩)
          | false =>
            have e1 : shy1 ds true m = (⟨m.l, m.s, none, m.q⟩, false) := by
              unfold shy1
              rw [if_pos (by rw [hp, hb]; rfl)]
            have sk := shy1_ok (br := true) ok
            rw [e1] at sk ⊢
            have F1 := f.p none
            have X1 : FX x H _ := FX.set (o := .ins T.SB dx (putF "_place" (oV none) fs))
            refine iteT ⟨_, rfl, x, _, dx, fs, rfl, e, cl, na (by decide), by have := f.len; omega, rfl, X1, dx, _, r, upd_same, F1, X1.kt e _ _ q, N, r1, r8, sk⟩
    · rintro σ H1 ⟨rfl, X1, dx1, f1, r', e1, F1, q1, _⟩
      generalize hM : (shy1 ds br m).1 = M at F1 k ck
      generalize (shy1 ds br m).2 = dn at k ck ⊢
      have F2 := F1.q (calm br M).q
      have X2 := X1.trans (FX.set (o := .ins T.SB dx1 (putF "_quiet" (.int ((calm br M).q : Nat)) f1)))
      have q2 : SqT K (upd H1 x (.ins T.SB dx1 (putF "_quiet" (.int ((calm br M).q : Nat)) f1))) r' (rowV ds) := (FX.set (x := x)).kt e1 _ _ q1
      have fin := k _ X2 ⟨dx1, _, r', upd_same, F2, q2, N, r1, r8, ck⟩
      unfold calm at fin
      dsimp only at fin
      cases br with
      | true => exact ⟨_, rfl, _, rfl, iteT ⟨_, rfl, x, _, dx1, f1, rfl, e1, cl, na (by decide), by have := F1.len; omega, _, rfl, fin⟩⟩
      | false =>
        refine ⟨_, rfl, _, rfl, iteF ⟨_, rfl, x, _, dx1, f1, _, rfl, e1, cl, na (by decide), F1.qt, _, _, rfl, rfl, _, _, rfl, ?_⟩⟩
        have e3 : (if (16 : Int) < ((M.q : Nat) : Int) + 1 then (16 : Int) else ((M.q : Nat) : Int) + 1) = ((min (M.q + 1) 16 : Nat) : Int) := by
          split <;> omega
        rw [e3]
        exact ⟨_, rfl, x, _, dx1, f1, rfl, e1, cl, na (by decide), by have := F1.len; omega, _, rfl, fin⟩
theorem ok_pcopied (T : Txt P K mg) : FnOk P w K mg base CX0 7 T.a_pcopied T.d_pcopied ["self"] (sp_pcopied K T.PB T.SB) := by
  refine T.F_pcopied.ok sc_pcopied (fun vs H Q E h => ?_) (fun cdv A outer s H vs Q E hr h => ?_)
  · obtain ⟨x, ds, rd, m, rfl, _⟩ := h
    rfl
  · obtain ⟨x, ds, rd, m, rfl, hB, k⟩ := h
    obtain ⟨dx, fs, r, e, f, q, N, r1, r8, ok⟩ := id hB
    refine ⟨_, (pss_cons (ps_set (i := 1) sc_pcopied.nd rfl (Or.inl rfl) (pe_make T.mkP (ok_init T) (hr.mono (by decide)) (by rfl) T.gPB T.b_init .nil pass0 (pa_cons (pe_fld (pv 0) rfl) (pa_cons (pe_fld (pv 0) rfl) pa_nil))))
      (pss_cons (ps_expr (pe_meth (pv 1) T.clPB T.mP_stand_as (ok_stand_as T) (hr.mono (by decide)) T.b_stand_as .nil pass0 (pa_cons (pv 0) pa_nil)))
      (pss_one (ps_ret (pv 1))))), ?_⟩
    have cl := cls_ok T false
    have na := fun {f} => na_ok T false (f := f)
    refine ⟨_, rfl, x, _, dx, fs, _, rfl, e, cl, na (by decide), f.num, _, rfl, x, _, dx, fs, _, rfl, e, cl, na (by decide), f.rds, fun y dy hy hdy ne => ?_⟩
    refine ⟨y, dy, false, ds, rd, rfl, upd_same, N, r1, r8, fun H1 X1 hb => ⟨rfl, ?_⟩⟩
    have s0 : Same H (upd (upd H dy (.own y)) y (.ins T.PB dy [])) := (same_new hdy).trans (same_new (by rw [upd_ne (Ne.symm ne)]; exact hy))
    have s1 : Same H H1 := fx_new hy s0 X1
    have nxy : y ≠ x := fun z => by rw [z, e] at hy; cases hy
    obtain ⟨dx1, f1, t1, e1, F1, _⟩ := id hb
    exact ⟨_, rfl, y, dx1, f1, rfl, e1, F1.no _ (by decide), _, rfl, ⟨y, x, false, ds, rd, _, m, rfl, nxy, hb, hB.k s1, fun H2 X2 hb2 => ⟨_, rfl, k _ y (fx_new hy s1 X2) hy hb2⟩⟩⟩
theorem ok_scopied (T : Txt P K mg) : FnOk P w K mg base CX0 7 T.a_scopied T.d_scopied ["self"] (sp_scopied K T.PB T.SB) := by
  refine T.F_scopied.ok sc_scopied (fun vs H Q E h => ?_) (fun cdv A outer s H vs Q E hr h => ?_)
  · obtain ⟨x, ds, rd, m, rfl, _⟩ := h
    rfl
  · obtain ⟨x, ds, rd, m, rfl, hB, k⟩ := h
    obtain ⟨dx, fs, r, e, f, q, N, r1, r8, ok⟩ := id hB
    refine ⟨_, (pss_cons (ps_set (i := 1) sc_scopied.nd rfl (Or.inl rfl) (pe_make T.mkS (ok_init T) (hr.mono (by decide)) (by rfl) T.gSB T.b_init .nil pass0 (pa_cons (pe_fld (pv 0) rfl) (pa_cons (pe_fld (pv 0) rfl) pa_nil))))
      (pss_cons (ps_expr (pe_meth (pv 1) T.clSB T.mS_stand_as (ok_stand_as T) (hr.mono (by decide)) T.b_stand_as .nil pass0 (pa_cons (pv 0) pa_nil)))
      (pss_one (ps_ret (pv 1))))), ?_⟩
    have cl := cls_ok T true
    have na := fun {f} => na_ok T true (f := f)
    refine ⟨_, rfl, x, _, dx, fs, _, rfl, e, cl, na (by decide), f.num, _, rfl, x, _, dx, fs, _, rfl, e, cl, na (by decide), f.rds, fun y dy hy hdy ne => ?_⟩
    refine ⟨y, dy, true, ds, rd, rfl, upd_same, N, r1, r8, fun H1 X1 hb => ⟨rfl, ?_⟩⟩
    have s0 : Same H (upd (upd H dy (.own y)) y (.ins T.SB dy [])) := (same_new hdy).trans (same_new (by rw [upd_ne (Ne.symm ne)]; exact hy))
    have s1 : Same H H1 := fx_new hy s0 X1
    have nxy : y ≠ x := fun z => by rw [z, e] at hy; cases hy
    obtain ⟨dx1, f1, t1, e1, F1, _⟩ := id hb
    exact ⟨_, rfl, y, dx1, f1, rfl, e1, F1.no _ (by decide), _, rfl, ⟨y, x, true, ds, rd, _, m, rfl, nxy, hb, hB.k s1, fun H2 X2 hb2 => ⟨_, rfl, k _ y (fx_new hy s1 X2) hy hb2⟩⟩⟩
theorem ok_wheel (T : Txt P K mg) : FnOk P w K mg base CX0 7 T.a_wheel T.d_wheel ["number", "sort", "rounds"] (sp_wheel K T.PB T.SB) := by
  refine T.F_wheel.ok sc_wheel (fun vs H Q E h => ?_) (fun cdv A outer s H vs Q E hr h => ?_)
  · obtain ⟨b, ds, rd, rfl, _⟩ := h
    rfl
  · obtain ⟨b, ds, rd, rfl, N, r1, r8, k⟩ := h
    refine ⟨_, (pss_cons (ps_if (pt_cmpR op_eq (pv 1) (ClX.pe_cval (pe_glob (v := V.ref T.TC) rfl T.gTC rfl)) (nomark _))
        (pss_one (ps_ret (pe_make T.mkP (ok_init T) (hr.mono (by decide)) (by rfl) T.gPB T.b_init .nil pass0 (pa_cons (pv 0) (pa_cons (pv 2) pa_nil)))))
        pss_nil)
      (pss_one (ps_ret (pe_make T.mkS (ok_init T) (hr.mono (by decide)) (by rfl) T.gSB T.b_init .nil pass0 (pa_cons (pv 0) (pa_cons (pv 2) pa_nil)))))), ?_⟩
    refine ⟨_, rfl, T.TC, _, _, _, rfl, T.rdT, T.vPl, rfl, _, rfl, ?_⟩
    have fin : ∀ y dy, H y = none → H dy = none → dy ≠ y → ∀ {R : VK}, (∀ H' x, Same H H' → H x = none → BoxAt K T.PB T.SB H' x b ds rd ⟨0, 0, none, 0⟩ → R (.ref x) H') → sp_init K T.PB T.SB [.ref y, .str (numS ds), .int (rd : Nat)] (upd (upd H dy (.own y)) y (.ins (clOf T.PB T.SB b) dy [])) (fun v H2 => v = .non ∧ R (.ref y) H2) E0 := fun y dy hy hdy ne R kk => by
      refine ⟨y, dy, b, ds, rd, rfl, upd_same, N, r1, r8, fun H1 X1 hb => ⟨rfl, kk H1 y (fx_new hy ((same_new hdy).trans (same_new (by rw [upd_ne (Ne.symm ne)]; exact hy))) X1) hy hb⟩⟩
    cases b with
    | false => exact iteT' (by decide +kernel) ⟨_, rfl, _, rfl, fun y dy hy hdy ne => fin y dy hy hdy ne k⟩
    | true => exact iteF' (by decide +kernel) ⟨_, rfl, _, rfl, fun y dy hy hdy ne => fin y dy hy hdy ne k⟩
end
end K16

namespace K16
open PySem L2 Wm TL Dv
section
variable {P : Program} {w : World} {K : PySem.W.Frag} {mg : Str → Option Value} {base : Heap}
theorem rowb : ∀ (ds : List Nat), ∀ n ∈ rowL ds, n = 0 ∨ n = 1
  | [], n, m => by
    have m : n ∈ ([0, 0] : List Int) := m
    simp only [List.mem_cons, List.not_mem_nil, or_false] at m
    omega
  | d :: ds, n, m => by
    have m : n ∈ blk d ++ ([0, 0] ++ rowL ds) := m
    rcases List.mem_append.mp m with m | m
    · obtain ⟨l, hl, h2⟩ := List.mem_flatten.mp m
      rw [(List.mem_replicate.mp hl).2] at h2
      simp only [List.mem_cons, List.not_mem_nil, or_false] at h2
      omega
    · rcases List.mem_append.mp m with m | m
      · simp only [List.mem_cons, List.not_mem_nil, or_false] at m
        omega
      · exact rowb ds n m
theorem row_len {ds : List Nat} (N : Num ds) : (rowL ds).length ≤ 58 := by
  rw [row_sum]
  have := N.len
  have := N.sum
  omega
theorem dp_o {H : Hp} (p : Option Nat) : Dp K H (oV p) (oD p) := by
  cases p with
  | none => exact .non
  | some i => exact .int _
theorem dp_md {H : Hp} {v : V} {m : Md} (h : MdAt K H v m) : Dp K H v (mdD m) := by
  obtain ⟨q, rfl, h⟩ := h
  exact .tup h (.cons (.int _) (.cons (.int _) (.cons (dp_o m.p) (.cons (.int _) .nil))))
theorem sh_md {n : Nat} {m : Md} (h : MOk n m) (l : n ≤ 58) : Sh 1 1000 (mdD m) := by
  have sl := h.sl
  have q := h.q
  refine (sh_tup (n := 0) (w := 20) (k := 4) (ds := [.int (m.l : Nat), .int (m.s : Nat), oD m.p, .int (m.q : Nat)]) (fun d md => ?_) (Nat.le_refl 4)).mono (by decide) (by decide)
  simp only [List.mem_cons, List.not_mem_nil, or_false] at md
  rcases md with rfl | rfl | rfl | rfl
  · exact sh_int (by omega)
  · exact sh_int (by omega)
  · cases hp : m.p with
    | none => exact sh_none.mono (by decide) (by decide)
    | some i => exact sh_int (by have := (h.pl i hp).1; omega)
  · exact sh_int (by omega)
theorem MdAt.k {H H' : Hp} {v : V} {m : Md} (h : MdAt K H v m) (s : Same H H') : MdAt K H' v m := by
  obtain ⟨q, e, h⟩ := h
  exact ⟨q, e, sameT s h⟩
theorem MdAt.kt {H H' : Hp} {v : V} {m : Md} (h : MdAt K H v m) (s : Kt K H H') : MdAt K H' v m := by
  obtain ⟨q, e, h⟩ := h
  exact ⟨q, e, s _ _ h⟩
theorem BoxAt.mok {PB SB : Addr} {H : Hp} {x : Addr} {b : Bool} {ds : List Nat} {rd : Nat} {m : Md} (h : BoxAt K PB SB H x b ds rd m) : MOk (rowL ds).length m := by
  obtain ⟨_, _, _, _, _, _, _, _, _, ok⟩ := h
  exact ok
theorem BoxAt.num {PB SB : Addr} {H : Hp} {x : Addr} {b : Bool} {ds : List Nat} {rd : Nat} {m : Md} (h : BoxAt K PB SB H x b ds rd m) : Num ds := by
  obtain ⟨_, _, _, _, _, _, N, _⟩ := h
  exact N
section
variable {σ : L2.St} {H : Hp} {Q : VK} {i : Nat} {x : Addr} {b : Bool} {ds : List Nat} {rd : Nat} {m : Md}
theorem alt_can (T : Txt P K mg) (hi : σ[i]? = some (some (.ref x))) (hB : BoxAt K T.PB T.SB H x b ds rd m) (h : Q (.bl (can b m)) H) : tAlt (tMeth T.PB "can_begin" (sp_wcan K T.PB T.SB) [] E0 (tVar i) tNil) (tMeth T.SB "can_begin" (sp_scan K T.PB T.SB) [] E0 (tVar i) tNil) σ H Q := by
  obtain ⟨dx, fs, r, e, f, _⟩ := id hB
  cases b with
  | false => rw [can_f] at h; exact .inl ⟨_, hi, x, dx, fs, rfl, e, f.no _ (by decide), ⟨x, false, ds, rd, m, rfl, hB, h⟩⟩
  | true => exact .inr ⟨_, hi, x, dx, fs, rfl, e, f.no _ (by decide), ⟨x, ds, rd, m, rfl, hB, h⟩⟩
theorem alt_begin (T : Txt P K mg) (hi : σ[i]? = some (some (.ref x))) (hB : BoxAt K T.PB T.SB H x b ds rd m) (h : ∀ H', FX x H H' → BoxAt K T.PB T.SB H' x b ds rd (begun b m) → Q .non H') : tAlt (tMeth T.PB "begin" (sp_begin K T.PB T.SB) [] E0 (tVar i) tNil) (tMeth T.SB "begin" (sp_begin K T.PB T.SB) [] E0 (tVar i) tNil) σ H Q := by
  obtain ⟨dx, fs, r, e, f, _⟩ := id hB
  cases b with
  | false => exact .inl ⟨_, hi, x, dx, fs, rfl, e, f.no _ (by decide), ⟨x, false, ds, rd, m, rfl, hB, h⟩⟩
  | true => exact .inr ⟨_, hi, x, dx, fs, rfl, e, f.no _ (by decide), ⟨x, true, ds, rd, m, rfl, hB, h⟩⟩
theorem alt_pull (T : Txt P K mg) (hi : σ[i]? = some (some (.ref x))) (hB : BoxAt K T.PB T.SB H x b ds rd m) (h : ∀ H', FX x H H' → BoxAt K T.PB T.SB H' x b ds rd (pulled rd m) → Q (.bl (decide (m.l = 0))) H') : tAlt (tMeth T.PB "pull" (sp_pull K T.PB T.SB) [] E0 (tVar i) tNil) (tMeth T.SB "pull" (sp_pull K T.PB T.SB) [] E0 (tVar i) tNil) σ H Q := by
  obtain ⟨dx, fs, r, e, f, _⟩ := id hB
  cases b with
  | false => exact .inl ⟨_, hi, x, dx, fs, rfl, e, f.no _ (by decide), ⟨x, false, ds, rd, m, rfl, hB, h⟩⟩
  | true => exact .inr ⟨_, hi, x, dx, fs, rfl, e, f.no _ (by decide), ⟨x, true, ds, rd, m, rfl, hB, h⟩⟩
theorem alt_copied (T : Txt P K mg) (hi : σ[i]? = some (some (.ref x))) (hB : BoxAt K T.PB T.SB H x b ds rd m) (h : ∀ H' y, Same H H' → H y = none → BoxAt K T.PB T.SB H' y b ds rd m → Q (.ref y) H') : tAlt (tMeth T.PB "copied" (sp_pcopied K T.PB T.SB) [] E0 (tVar i) tNil) (tMeth T.SB "copied" (sp_scopied K T.PB T.SB) [] E0 (tVar i) tNil) σ H Q := by
  obtain ⟨dx, fs, r, e, f, _⟩ := id hB
  cases b with
  | false => exact .inl ⟨_, hi, x, dx, fs, rfl, e, f.no _ (by decide), ⟨x, ds, rd, m, rfl, hB, h⟩⟩
  | true => exact .inr ⟨_, hi, x, dx, fs, rfl, e, f.no _ (by decide), ⟨x, ds, rd, m, rfl, hB, h⟩⟩
theorem alt_breaks (T : Txt P K mg) (hi : σ[i]? = some (some (.ref x))) (hB : BoxAt K T.PB T.SB H x b ds rd m) (h : Q (.bl (brk ds m)) H) : tAlt (tProp T.PB (sp_breaks K T.PB T.SB) [] E0 (tVar i)) (tProp T.SB (sp_breaks K T.PB T.SB) [] E0 (tVar i)) σ H Q := by
  obtain ⟨dx, fs, r, e, f, _⟩ := id hB
  cases b with
  | false => exact .inl ⟨_, hi, x, dx, fs, rfl, e, ⟨x, false, ds, rd, m, rfl, hB, h⟩⟩
  | true => exact .inr ⟨_, hi, x, dx, fs, rfl, e, ⟨x, true, ds, rd, m, rfl, hB, h⟩⟩
theorem alt_standing (T : Txt P K mg) (hi : σ[i]? = some (some (.ref x))) (hB : BoxAt K T.PB T.SB H x b ds rd m) (h : ∀ H' q, Same H H' → H q = none → H' q = some (.tup (mdV m)) → Q (.ref q) H') : tAlt (tProp T.PB (sp_standing K T.PB T.SB) [] E0 (tVar i)) (tProp T.SB (sp_standing K T.PB T.SB) [] E0 (tVar i)) σ H Q := by
  obtain ⟨dx, fs, r, e, f, _⟩ := id hB
  cases b with
  | false => exact .inl ⟨_, hi, x, dx, fs, rfl, e, ⟨x, false, ds, rd, m, rfl, hB, h⟩⟩
  | true => exact .inr ⟨_, hi, x, dx, fs, rfl, e, ⟨x, true, ds, rd, m, rfl, hB, h⟩⟩
end
theorem dec_bl (a b : Bool) : decide (V.bl a = V.bl b) = (a == b) := by cases a <;> cases b <;> decide +kernel
theorem ok_times (T : Txt P K mg) : FnOk P w K mg base CX0 2 T.a_times T.d_times ["_law_source_here"] (sp_times K) := by
  refine T.F_times.ok sc_times (fun vs H Q E h => ?_) (fun cdv A outer s H vs Q E hr h => ?_)
  · obtain ⟨s, a, b, rfl, _⟩ := h
    rfl
  · obtain ⟨s0, a, b, rfl, hbag, kk⟩ := h
    refine ⟨_, (pss_cons (ps_if (pt_cmpR op_gt (pe_call (ok_draw T) (hr.mono (by decide)) (by rfl) T.g_draw T.F_draw.kp T.b_draw .nil pass0 (pa_cons (pv 0) (pa_cons pe_int pa_nil))) pe_int (nomark _))
        (pss_one (ps_ret (pe_op op_add pe_int (pe_call (ok_draw T) (hr.mono (by decide)) (by rfl) T.g_draw T.F_draw.kp T.b_draw .nil pass0 (pa_cons (pv 0) (pa_cons pe_int pa_nil))))))
        pss_nil)
      (pss_one (ps_ret (pe_op op_add pe_int (pe_call (ok_draw T) (hr.mono (by decide)) (by rfl) T.g_draw T.F_draw.kp T.b_draw .nil pass0 (pa_cons (pv 0) (pa_cons pe_int pa_nil))))))), ?_⟩
    have fin : ∀ (d : Int) {H2 : Hp}, 0 ≤ d → d < 8 → Src H2 s0 a b → But2 s0 a H H2 → Q (.int (1 + d)) H2 := fun d H2 h0 h8 bag but => by
      obtain ⟨rd, er⟩ : ∃ rd : Nat, (1 : Int) + d = (rd : Nat) := ⟨(1 + d).toNat, by omega⟩
      rw [er]
      exact kk _ rd (by omega) (by omega) bag but
    refine ⟨_, rfl, s0, a, b, 8, rfl, by decide, by decide, hbag, fun H1 d1 g0 g1 bag1 but1 => ?_⟩
    refine ⟨_, _, rfl, rfl, _, rfl, ite2 (fun c => ?_) (fun c => ?_)⟩
    · refine ⟨_, rfl, s0, a, b, 3, rfl, by decide, by decide, bag1, fun H2 d2 q0 q1 bag2 but2 => ⟨_, _, rfl, rfl, fin d2 q0 (by omega) bag2 (but1.trans but2)⟩⟩
    · refine ⟨_, rfl, s0, a, b, 8, rfl, by decide, by decide, bag1, fun H2 d2 q0 q1 bag2 but2 => ⟨_, _, rfl, rfl, fin d2 q0 q1 bag2 (but1.trans but2)⟩⟩
theorem ok_row (T : Txt P K mg) : FnOk P w K mg base CX0 1 T.a_row T.d_row ["_law_number_here"] (sp_row K) := by
  refine T.F_row.ok sc_row (fun vs H Q E h => ?_) (fun cdv A outer s H vs Q E hr h => ?_)
  · obtain ⟨ds, _, rfl, _⟩ := h
    rfl
  · obtain ⟨ds, N, rfl, k⟩ := h
    have hlen := N.len
    refine ⟨_, (pss_cons (ps_set (i := 1) sc_row.nd rfl (Or.inl rfl) (pe_lst pa_nil))
      (pss_cons (ps_for PassesOwn.never rfl (pi_str (pv 0)) (pg_name (i := 2) sc_row.nd rfl (Or.inl rfl))
        (pss_one (ps_set (i := 1) sc_row.nd rfl (Or.inl rfl) (pe_op op_cat (pe_op op_cat (pv 1) (pe_op op_rep (pe_lst (pa_cons pe_int (pa_cons pe_int pa_nil))) (pe_callTy call_int_str (by rfl) T.z_int (by decide +kernel) (pa_cons (pv 2) pa_nil)))) (pe_lst (pa_cons pe_int (pa_cons pe_int pa_nil)))))))
      (pss_one (ps_ret (pe_callTy call_tuple_of (by rfl) T.z_tuple (by decide +kernel) (pa_cons (pe_op op_cat (pv 1) (pe_lst (pa_cons pe_int (pa_cons pe_int pa_nil)))) pa_nil)))))), ?_⟩
    refine ⟨Nat.zero_le _, fun r0 hr0 => ?_⟩
    refine ⟨_, rfl, _, rfl, ?_⟩
    refine for_it walk_str (fun i σ H' => ∃ r v, σ = [some (.str (numS ds)), some (.ref r), v] ∧ H r = none ∧ Same H H' ∧ H' r = some (.lst ((Wm.pre (ds.take i)).map V.int))) ⟨r0, _, rfl, hr0, same_new hr0, upd_same⟩ (fun _ _ _ _ _ => trivial) (fun i x σ H1 H' hi hP hY => ?_) (fun σ H1 hP => ?_)
    · obtain ⟨r, v, rfl, hr, sm, h3⟩ := hP
      obtain ⟨rfl, c, hc, rfl⟩ := hY
      rw [numS_size] at hi
      rw [numS_at ds i hi] at hc
      have hc' := (Option.some.inj hc).symm
      subst hc'
      have hd := N.dig _ (List.getElem_mem hi)
      have hp9 := pre_le (ds.take i) fun d m => (N.dig d (List.mem_of_mem_take m)).2
      rw [List.length_take] at hp9
      have hb2 : (blk ds[i]).length = 2 * ds[i] := blk_len _
      refine ⟨.ref r, rfl, by decide, fun a ha => ?_⟩
      refine ⟨_, rfl, _, _, rfl, dig_int hd, (by show 1 ≤ 640; decide), a, _, _, rfl, rfl, upd_same, by omega, by omega, by rw [Int.toNat_natCast]; show 2 * ds[i] ≤ _; exact Nat.le_of_lt (small1000 (by omega)), fun b hb => ?_⟩
      rw [Int.toNat_natCast, blk_V]
      have h3b := at_old (u := .lst ((blk ds[i]).map V.int)) (at_old (u := .lst [.int 1, .int 0]) h3 ha) hb
      refine ⟨r, b, _, _, rfl, rfl, h3b, upd_same, by rw [List.length_map, List.length_map, hb2]; exact Nat.le_of_lt (small1000 (by omega)), fun q hq => ?_⟩
      refine ⟨by decide, fun z hz => ?_⟩
      refine ⟨q, z, _, _, rfl, rfl, at_old upd_same hz, upd_same, by rw [List.length_append, List.length_map, List.length_map, hb2]; exact Nat.le_of_lt (small1000 (by simp only [List.length_cons, List.length_nil]; omega)), fun e he => ?_⟩
      have sA : Same H (upd (upd (upd (upd H' a (.lst [.int 1, .int 0])) b (.lst ((blk ds[i]).map V.int))) q (.lst ((Wm.pre (ds.take i)).map V.int ++ (blk ds[i]).map V.int))) z (.lst [.int 0, .int 0])) := (((sm.trans (same_new ha)).trans (same_new hb)).trans (same_new hq)).trans (same_new hz)
      refine ⟨e, _, rfl, sA.free he, sA.trans (same_new he), ?_⟩
      rw [upd_same, take_succ_app (List.getElem?_eq_getElem hi), pre_app]
      simp only [List.map_append, List.append_assoc]
      rfl
    · obtain ⟨r, v, rfl, hr, sm, h3⟩ := hP
      rw [numS_size, List.take_length] at h3
      have hp9 := pre_le ds fun d m => (N.dig d m).2
      refine ⟨.ref r, rfl, by decide, fun a ha => ?_⟩
      refine ⟨r, a, _, _, rfl, rfl, at_old h3 ha, upd_same, by rw [List.length_map]; exact Nat.le_of_lt (small1000 (by simp only [List.length_cons, List.length_nil]; omega)), fun q hq => ?_⟩
      have sA := (sm.trans (same_new (o := .lst [.int 0, .int 0]) ha))
      refine ⟨q, _, rfl, .inl ⟨SqL.of upd_same, fun t ht => ?_⟩⟩
      refine k _ t ((sA.trans (same_new hq)).trans (same_new ht)) ((sA.trans (same_new hq)).free ht) ?_
      unfold rowV
      rw [upd_same, ← pre_row ds, List.map_append]
      rfl
theorem ok_bool (T : Txt P K mg) : FnOk P w K mg base CX0 1 T.a_bool T.d_bool ["_law_thing", "_law_due"] (sp_bool K) := by
  refine T.F_bool.ok sc_bool (fun vs H Q E h => ?_) (fun cdv A outer s H vs Q E hr h => ?_)
  · obtain ⟨a, b, rfl, _⟩ := h
    rfl
  · obtain ⟨a, b, rfl, k⟩ := h
    refine ⟨_, (pss_one (ps_ret (pe_and (pe_callB call_isi (by rfl) T.z_isinstance (by decide +kernel) (pa_cons (pv 0) (pa_cons (pe_bltn (v := V.ty "bool") (by rfl) T.z_bool (by decide +kernel) rfl) pa_nil))) (pe_one (pe_cmpR op_eq (pv 0) (pv 1) (nomark _)))))), ?_⟩
    refine ⟨_, rfl, _, _, _, _, true, rfl, .ty "bool", .base (.bl _), kit_ty (by decide +kernel), true, rfl, iteT ⟨_, rfl, _, rfl, rfl, ?_⟩⟩
    rw [dec_bl]
    exact k
theorem ok_begins (T : Txt P K mg) : FnOk P w K mg base CX0 1 T.a_begins T.d_begins ["_law_model", "_law_sort"] (sp_begins K) := by
  refine T.F_begins.ok sc_begins (fun vs H Q E h => ?_) (fun cdv A outer s H vs Q E hr h => ?_)
  · obtain ⟨v, b, m, rfl, _⟩ := h
    rfl
  · obtain ⟨v, b, m, rfl, ⟨q, rfl, hq⟩, k⟩ := h
    refine ⟨_, (pss_cons (ps_asg (pv 0) (pg_tup rfl (pgs_cons (pg_name (i := 2) sc_begins.nd rfl (Or.inl rfl)) (pgs_cons (pg_name (i := 3) sc_begins.nd rfl (Or.inl rfl)) (pgs_cons (pg_name (i := 4) sc_begins.nd rfl (Or.inl rfl)) (pgs_cons (pg_name (i := 5) sc_begins.nd rfl (Or.inl rfl)) pgs_nil))))))
      (pss_one (ps_ret (pe_and (pe_cmpR op_isN (pv 4) pe_non (nomark _)) (pe_and (pe_cmpR op_gt (pv 2) pe_int (nomark _)) (pe_one (pe_or (pe_cmpR op_eq (pv 1) pe_str (nomark _)) (pe_one (pe_cmpR op_ge (pv 5) (pe_op op_add pe_int (pv 3)) (nomark _)))))))))), ?_⟩
    refine ⟨_, rfl, q, _, rfl, hq, rfl, _, _, rfl, _, _, rfl, _, _, rfl, _, _, rfl, rfl, ?_⟩
    refine ⟨_, rfl, rfl, _, rfl, ?_⟩
    rw [oV_dec]
    unfold can wcan at k
    cases hp : m.p.isNone with
    | false => rw [hp] at k; exact iteF k
    | true =>
      rw [hp] at k
      refine iteT ⟨_, rfl, _, _, rfl, rfl, _, rfl, ite2 (fun c => ?_) (fun c => ?_)⟩
      · have c1 : 0 < m.l := by have := of_decide_eq_true c; omega
        rw [decide_eq_true c1] at k
        cases b with
        | false => exact ⟨_, rfl, rfl, _, rfl, iteT' (by decide +kernel) k⟩
        | true =>
          refine ⟨_, rfl, rfl, _, rfl, iteF' (by decide +kernel) ⟨_, rfl, _, rfl, _, _, rfl, rfl, _, _, rfl, rfl, ?_⟩⟩
          have e2 : (true && true && (!true || decide (8 + m.s ≤ m.q))) = decide (((m.q : Nat) : Int) ≥ 8 + ((m.s : Nat) : Int)) := by
            rw [Bool.true_and, Bool.true_and, Bool.not_true, Bool.false_or]
            exact decide_eq_decide.mpr ⟨fun h => by omega, fun h => by omega⟩
          show Q (.bl (decide (((m.q : Nat) : Int) ≥ 8 + ((m.s : Nat) : Int)))) H
          rw [← e2]
          exact k
      · have c1 : ¬ 0 < m.l := by have := of_decide_eq_false (Bool.not_eq_true _ ▸ c); omega
        rw [decide_eq_false c1] at k
        exact k
end
end K16

namespace K16
open PySem L2 Wm TL Dv
section
variable {P : Program} {w : World} {K : PySem.W.Frag} {mg : Str → Option Value} {base : Heap}
def st1 (b : Bool) (ds : List Nat) (br : Bool) (m : Md) : Md × Bool := if b then shy1 ds br m else go (rowL ds).length m
def q1 (b br : Bool) (q : Nat) : Nat := if b then (if br then 0 else min (q + 1) 16) else q
theorem st1_q {b : Bool} {ds : List Nat} {br : Bool} {m : Md} : (st1 b ds br m).1.q = m.q := by
  unfold st1
  split
  · unfold shy1
    split
    · rfl
    · exact go_q
  · exact go_q
theorem called_st (b : Bool) (ds : List Nat) (br : Bool) (m : Md) : called b ds br m = (⟨(st1 b ds br m).1.l, (st1 b ds br m).1.s, (st1 b ds br m).1.p, q1 b br m.q⟩, (st1 b ds br m).2) := by
  have e : m.q = (st1 b ds br m).1.q := st1_q.symm
  rw [e]
  unfold st1 q1
  cases b with
  | false => rfl
  | true => rw [called_t]; rfl
theorem row_zero {ds : List Nat} {i : Nat} (h : i < (rowL ds).length) : decide ((rowL ds)[i] = 0) = !decide ((rowL ds)[i]? = some 1) := by
  rw [List.getElem?_eq_getElem h]
  rcases rowb ds _ (List.getElem_mem h) with e | e
  · rw [e]; decide
  · rw [e]; decide
theorem ok_behind (T : Txt P K mg) : FnOk P w K mg base CX0 1 T.a_behind T.d_behind ["_law_model", "_law_sort", "_law_row_here", "_law_broken"] (sp_behind K) := by
  refine T.F_behind.ok sc_behind (fun vs H Q E h => ?_) (fun cdv A outer s H vs Q E hr h => ?_)
  · obtain ⟨v, b, r, br, ds, m, rfl, _⟩ := h
    rfl
  · obtain ⟨v, b, r, br, ds, m, rfl, ⟨q, rfl, hq⟩, hr, ok, k⟩ := h
    refine ⟨_, (pss_cons (ps_asg (pv 0) (pg_tup rfl (pgs_cons (pg_name (i := 4) sc_behind.nd rfl (Or.inl rfl)) (pgs_cons (pg_name (i := 5) sc_behind.nd rfl (Or.inl rfl)) (pgs_cons (pg_name (i := 6) sc_behind.nd rfl (Or.inl rfl)) (pgs_cons (pg_name (i := 7) sc_behind.nd rfl (Or.inl rfl)) pgs_nil))))))
      (pss_cons (ps_set (i := 8) sc_behind.nd rfl (Or.inl rfl) pe_bl)
      (C8.pss_cut (ps_if (pt_cmpR op_notN (pv 6) pe_non (nomark _))
        (pss_one (ps_if (PW.pt (pw_and (pt_cmpR op_eq (pv 1) pe_str (nomark _)) (pw_and (pt_val (pv 3)) (pw_and1 (pt_cmpR op_eq (pe_ix ix_tup (pv 2) (pv 6) (fun _ _ => rfl)) pe_int (nomark _))))))
          (pss_one (ps_set (i := 6) sc_behind.nd rfl (Or.inl rfl) pe_non))
          (pss_one (ps_if (pt_cmpR op_eq (pe_op op_add (pv 6) pe_int) (pe_callB call_len_seq (by rfl) T.z_len PySem.boot_len (pa_cons (pv 2) pa_nil)) (nomark _))
            (pss_cons (ps_set (i := 8) sc_behind.nd rfl (Or.inl rfl) pe_bl)
            (pss_cons (ps_set (i := 6) sc_behind.nd rfl (Or.inl rfl) pe_non)
            (pss_cons (ps_set (i := 4) sc_behind.nd rfl (Or.inl rfl) (pe_op op_sub (pv 4) pe_int))
            (pss_one (ps_set (i := 5) sc_behind.nd rfl (Or.inl rfl) (pe_ifExp (pt_cmpR op_gt (pv 4) pe_int (nomark _)) (pe_op op_add (pv 5) pe_int) pe_int))))))
            (pss_one (ps_set (i := 6) sc_behind.nd rfl (Or.inl rfl) (pe_op op_add (pv 6) pe_int)))))))
        pss_nil)
      (C8.pss_cut (ps_if (pt_cmpR op_eq (pv 1) pe_str (nomark _))
        (pss_one (ps_set (i := 7) sc_behind.nd rfl (Or.inl rfl) (pe_ifExp (pt_val (pv 3)) pe_int (pe_callB (call_min2 rfl) (by rfl) T.z_min (by decide +kernel) (pa_cons pe_int (pa_cons (pe_op op_add (pv 7) pe_int) pa_nil))))))
        pss_nil)
      (pss_one (ps_ret (pe_tup (pa_cons (pe_tup (pa_cons (pv 4) (pa_cons (pv 5) (pa_cons (pv 6) (pa_cons (pv 7) pa_nil))))) (pa_cons (pv 8) pa_nil))))))))), ?_⟩
    rw [called_st] at k
    refine ⟨_, rfl, q, _, rfl, hq, rfl, _, _, rfl, _, _, rfl, _, _, rfl, _, _, rfl, rfl, ?_⟩
    refine ⟨fun σ H1 => H = H1 ∧ σ = [some (.ref q), some (.str (sortS b)), some (.ref r), some (.bl br), some (.int ((st1 b ds br m).1.l : Nat)), some (.int ((st1 b ds br m).1.s : Nat)), some (oV (st1 b ds br m).1.p), some (.int (m.q : Nat)), some (.bl (st1 b ds br m).2)], ?_, ?_⟩
    · refine ⟨_, rfl, rfl, _, rfl, ?_⟩
      rw [oV_not]
      cases hp : m.p with
      | none =>
        have e1 : st1 b ds br m = (m, false) := by
          unfold st1 shy1 go
          rw [hp]
          cases b <;> cases br <;> simp
        rw [e1, hp]
        exact iteF ⟨rfl, rfl⟩
      | some i =>
        have hi := ok.pl i hp
        have eb : brk ds m = decide ((rowL ds)[i]? = some 1) := by unfold brk; rw [hp]
        have gone : ∀ {b br : Bool}, (b && br && !brk ds m) = false → st1 b ds br m = go (rowL ds).length m := fun {b br} c => by
          unfold st1 shy1
          cases b with
          | false => rfl
          | true =>
            rw [if_pos rfl, if_neg]
            rw [hp]
            rw [Bool.true_and] at c
            show ¬ (br && true && !brk ds m) = true
            rw [Bool.and_true, c]
            exact Bool.false_ne_true
        refine iteT ⟨_, rfl, rfl, _, rfl, ?_⟩
        cases b with
        | false =>
          refine iteF' (by decide +kernel) (iteF ?_)
          have e0 : st1 false ds br m = go (rowL ds).length m := gone rfl
          refine ⟨_, rfl, _, _, rfl, rfl, _, rfl, r, _, rfl, .inr hr, rfl, _, rfl, ?_⟩
          rw [rowV_len]
          by_cases z : i + 1 < (rowL ds).length
          · refine iteF' (decide_eq_false (fun y => by injection y with y; omega)) ⟨_, rfl, _, _, rfl, rfl, rfl, ?_⟩
            have e1 : go (rowL ds).length m = (⟨m.l, m.s, some (i + 1), m.q⟩, false) := by unfold go; rw [hp]; exact if_pos z
            rw [e0, e1]
            rfl
          · refine iteT' (decide_eq_true (show V.int (((i : Nat) : Int) + 1) = V.int (((rowL ds).length : Nat) : Int) by rw [show ((i : Nat) : Int) + 1 = (((rowL ds).length : Nat) : Int) by omega])) ⟨_, rfl, _, _, rfl, rfl, ?_⟩
            have eL : ((m.l : Nat) : Int) - 1 = ((m.l - 1 : Nat) : Int) := by omega
            by_cases z2 : 1 < m.l
            · refine ⟨_, rfl, _, _, rfl, rfl, _, rfl, iteT' (decide_eq_true (by omega)) ⟨_, rfl, _, _, rfl, rfl, rfl, ?_⟩⟩
              have e1 : go (rowL ds).length m = (⟨m.l - 1, m.s + 1, none, m.q⟩, true) := by unfold go; rw [hp]; show (if i + 1 < _ then _ else _) = _; rw [if_neg z, if_pos z2]
              rw [e0, e1]
              show _ = ([_, _, _, _, some (V.int ((m.l - 1 : Nat) : Int)), _, _, _, _] : L2.St)
              rw [← eL]
              rfl
            · refine ⟨_, rfl, _, _, rfl, rfl, _, rfl, iteF' (decide_eq_false (by omega)) ⟨rfl, ?_⟩⟩
              have e1 : go (rowL ds).length m = (⟨m.l - 1, 0, none, m.q⟩, true) := by unfold go; rw [hp]; show (if i + 1 < _ then _ else _) = _; rw [if_neg z, if_neg z2]
              rw [e0, e1]
              show _ = ([_, _, _, _, some (V.int ((m.l - 1 : Nat) : Int)), _, _, _, _] : L2.St)
              rw [← eL]
              rfl
        | true =>
          refine iteT' (by decide +kernel) ⟨_, rfl, _, rfl, ?_⟩
          cases br with
          | false =>
            refine iteF (iteF ?_)
            have e0 : st1 true ds false m = go (rowL ds).length m := gone rfl
            refine ⟨_, rfl, _, _, rfl, rfl, _, rfl, r, _, rfl, .inr hr, rfl, _, rfl, ?_⟩
            rw [rowV_len]
            by_cases z : i + 1 < (rowL ds).length
            · refine iteF' (decide_eq_false (fun y => by injection y with y; omega)) ⟨_, rfl, _, _, rfl, rfl, rfl, ?_⟩
              have e1 : go (rowL ds).length m = (⟨m.l, m.s, some (i + 1), m.q⟩, false) := by unfold go; rw [hp]; exact if_pos z
              rw [e0, e1]
              rfl
            · refine iteT' (decide_eq_true (show V.int (((i : Nat) : Int) + 1) = V.int (((rowL ds).length : Nat) : Int) by rw [show ((i : Nat) : Int) + 1 = (((rowL ds).length : Nat) : Int) by omega])) ⟨_, rfl, _, _, rfl, rfl, ?_⟩
              have eL : ((m.l : Nat) : Int) - 1 = ((m.l - 1 : Nat) : Int) := by omega
              by_cases z2 : 1 < m.l
              · refine ⟨_, rfl, _, _, rfl, rfl, _, rfl, iteT' (decide_eq_true (by omega)) ⟨_, rfl, _, _, rfl, rfl, rfl, ?_⟩⟩
                have e1 : go (rowL ds).length m = (⟨m.l - 1, m.s + 1, none, m.q⟩, true) := by unfold go; rw [hp]; show (if i + 1 < _ then _ else _) = _; rw [if_neg z, if_pos z2]
                rw [e0, e1]
                show _ = ([_, _, _, _, some (V.int ((m.l - 1 : Nat) : Int)), _, _, _, _] : L2.St)
                rw [← eL]
                rfl
              · refine ⟨_, rfl, _, _, rfl, rfl, _, rfl, iteF' (decide_eq_false (by omega)) ⟨rfl, ?_⟩⟩
                have e1 : go (rowL ds).length m = (⟨m.l - 1, 0, none, m.q⟩, true) := by unfold go; rw [hp]; show (if i + 1 < _ then _ else _) = _; rw [if_neg z, if_neg z2]
                rw [e0, e1]
                show _ = ([_, _, _, _, some (V.int ((m.l - 1 : Nat) : Int)), _, _, _, _] : L2.St)
                rw [← eL]
                rfl
          | true =>
            refine iteT ⟨_, rfl, _, rfl, r, _, i, _, rfl, rfl, hr, atI_nat (rowV_at hi.1), rfl, _, rfl, ?_⟩
            have ez : decide (V.int ((rowL ds)[i]'hi.1) = V.int 0) = !brk ds m := by
              rw [eb, ← row_zero hi.1]
              exact decide_eq_decide.mpr ⟨fun y => V.int.inj y, fun y => by rw [y]⟩
            cases hb : brk ds m with
            | false =>
              refine iteT' (by rw [ez, hb]; rfl) ⟨rfl, ?_⟩
              have e1 : st1 true ds true m = (⟨m.l, m.s, none, m.q⟩, false) := by
                unfold st1 shy1
                rw [if_pos rfl, if_pos (by rw [hp, hb]; rfl)]
              rw [e1]
              rfl
            | true =>
              refine iteF' (by rw [ez, hb]; rfl) ?_
              have e0 : st1 true ds true m = go (rowL ds).length m := gone (by rw [hb]; rfl)
              refine ⟨_, rfl, _, _, rfl, rfl, _, rfl, r, _, rfl, .inr hr, rfl, _, rfl, ?_⟩
              rw [rowV_len]
              by_cases z : i + 1 < (rowL ds).length
              · refine iteF' (decide_eq_false (fun y => by injection y with y; omega)) ⟨_, rfl, _, _, rfl, rfl, rfl, ?_⟩
                have e1 : go (rowL ds).length m = (⟨m.l, m.s, some (i + 1), m.q⟩, false) := by unfold go; rw [hp]; exact if_pos z
                rw [e0, e1]
                rfl
              · refine iteT' (decide_eq_true (show V.int (((i : Nat) : Int) + 1) = V.int (((rowL ds).length : Nat) : Int) by rw [show ((i : Nat) : Int) + 1 = (((rowL ds).length : Nat) : Int) by omega])) ⟨_, rfl, _, _, rfl, rfl, ?_⟩
                have eL : ((m.l : Nat) : Int) - 1 = ((m.l - 1 : Nat) : Int) := by omega
                by_cases z2 : 1 < m.l
                · refine ⟨_, rfl, _, _, rfl, rfl, _, rfl, iteT' (decide_eq_true (by omega)) ⟨_, rfl, _, _, rfl, rfl, rfl, ?_⟩⟩
                  have e1 : go (rowL ds).length m = (⟨m.l - 1, m.s + 1, none, m.q⟩, true) := by unfold go; rw [hp]; show (if i + 1 < _ then _ else _) = _; rw [if_neg z, if_pos z2]
                  rw [e0, e1]
                  show _ = ([_, _, _, _, some (V.int ((m.l - 1 : Nat) : Int)), _, _, _, _] : L2.St)
                  rw [← eL]
                  rfl
                · refine ⟨_, rfl, _, _, rfl, rfl, _, rfl, iteF' (decide_eq_false (by omega)) ⟨rfl, ?_⟩⟩
                  have e1 : go (rowL ds).length m = (⟨m.l - 1, 0, none, m.q⟩, true) := by unfold go; rw [hp]; show (if i + 1 < _ then _ else _) = _; rw [if_neg z, if_neg z2]
                  rw [e0, e1]
                  show _ = ([_, _, _, _, some (V.int ((m.l - 1 : Nat) : Int)), _, _, _, _] : L2.St)
                  rw [← eL]
                  rfl
    · rintro σ _ ⟨rfl, rfl⟩
      refine ⟨fun σ H1 => H = H1 ∧ σ = [some (.ref q), some (.str (sortS b)), some (.ref r), some (.bl br), some (.int ((st1 b ds br m).1.l : Nat)), some (.int ((st1 b ds br m).1.s : Nat)), some (oV (st1 b ds br m).1.p), some (.int (q1 b br m.q : Nat)), some (.bl (st1 b ds br m).2)], ?_, ?_⟩
      · refine ⟨_, rfl, rfl, _, rfl, ?_⟩
        cases b with
        | false => exact iteF' (by decide +kernel) ⟨rfl, rfl⟩
        | true =>
          refine iteT' (by decide +kernel) ⟨_, rfl, _, rfl, ?_⟩
          cases br with
          | true => exact iteT ⟨rfl, rfl⟩
          | false =>
            refine iteF ⟨_, rfl, _, _, rfl, rfl, _, _, rfl, rfl, ?_⟩
            have e3 : (if ((m.q : Nat) : Int) + 1 < (16 : Int) then ((m.q : Nat) : Int) + 1 else (16 : Int)) = ((min (m.q + 1) 16 : Nat) : Int) := by
              split <;> omega
            rw [e3]
            rfl
      · rintro σ _ ⟨rfl, rfl⟩
        refine ⟨_, rfl, _, rfl, _, rfl, _, rfl, by show 4 ≤ sizeLine; decide, fun t ht => ⟨_, rfl, by show 2 ≤ sizeLine; decide, fun t2 ht2 => ?_⟩⟩
        exact k _ t2 (.ref t) ((same_new ht).trans (same_new ht2)) upd_same ⟨t, rfl, SqT.of (at_old upd_same ht2)⟩
theorem ok_stands (T : Txt P K mg) : Rp.GOk P w K mg base CX0 3 T.a_stands T.d_stands ["_law_box", "_law_model"] (sp_stands K T.PB T.SB) := by
  refine Rp.gok T.F_stands sc_stands (fun vs H Q E h => ?_) (fun cdv A outer s H vs Q E hg hr h => ?_)
  · obtain ⟨x, v, b, ds, rd, m, rfl, _⟩ := h
    rfl
  · obtain ⟨x, v, b, ds, rd, m, rfl, hB, hM, k⟩ := h
    refine ⟨_, (pss_cons (ps_set (i := 2) sc_stands.nd rfl (Or.inl rfl) (pe_alt (pe_prop (pv 0) T.clPB T.pP_standing (ok_standing T) (hr.mono (by decide)) T.b_standing .nil pass0 rfl) (pe_prop (pv 0) T.clSB T.pS_standing (ok_standing T) (hr.mono (by decide)) T.b_standing .nil pass0 rfl)))
      (pss_one (ps_ret (pe_and (pe_callB call_isi (by rfl) T.z_isinstance (by decide +kernel) (pa_cons (pv 2) (pa_cons (pe_bltn (v := V.ty "tuple") (by rfl) T.z_tuple (by decide +kernel) rfl) pa_nil))) (pe_and (pe_cmpR (op_eqD hr.units) (pv 2) (pv 1) (nomark _)) (pe_one (pe_cmpR op_eq (pe_callB (show CallR _ _ (Rp.rRepr K) from Rp.call_reprD hg hr.units) (by rfl) T.z_repr (by decide +kernel) (pa_cons (pv 2) pa_nil)) (pe_callB (show CallR _ _ (Rp.rRepr K) from Rp.call_reprD hg hr.units) (by rfl) T.z_repr (by decide +kernel) (pa_cons (pv 1) pa_nil)) (nomark _)))))))), ?_⟩
    refine alt_standing T rfl hB fun H1 q s q0 hq => ?_
    have S := sh_md hB.mok (row_len hB.num)
    have W := S.shows (by decide) (by decide)
    have F : Fine 1 (mdD m) := ⟨S.lay, S.dp⟩
    have D1 : Dp K H1 v (mdD m) := dp_md (hM.k s)
    have D2 : Dp K H1 (.ref q) (mdD m) := dp_md ⟨q, rfl, SqT.of hq⟩
    refine ⟨_, rfl, _, _, _, _, true, rfl, .ty "tuple", .base (.tup hq), kit_ty (by decide +kernel), true, rfl, iteT ?_⟩
    refine ⟨_, rfl, _, rfl, _, _, D2, D1, F.shaped (by decide), F.shaped (by decide), _, rfl, iteT' F.refl ?_⟩
    refine ⟨_, rfl, _, _, rfl, D2, W.sh, W.nd, W.dep, W.fit, _, rfl, _, _, rfl, D1, W.sh, W.nd, W.dep, W.fit, rfl, ?_⟩
    rw [decide_eq_true rfl]
    exact k H1 s
theorem ok_pulled (T : Txt P K mg) : FnOk P w K mg base CX0 3 T.a_pulled T.d_pulled ["_law_box", "_law_model", "_law_times_here"] (sp_pulled K T.PB T.SB) := by
  refine T.F_pulled.ok sc_pulled (fun vs H Q E h => ?_) (fun cdv A outer s H vs Q E hr h => ?_)
  · obtain ⟨x, v, b, ds, rd, m, rfl, _⟩ := h
    rfl
  · obtain ⟨x, v, b, ds, rd, m, rfl, hB, hM, k⟩ := h
    obtain ⟨dx, fs, rr, e, _⟩ := id hB
    refine ⟨_, (pss_cons (ps_set (i := 3) sc_pulled.nd rfl (Or.inl rfl) (pe_alt (pe_meth0 (pv 0) T.clPB T.mP_pull (ok_pull T) (hr.mono (by decide)) T.b_pull .nil pass0) (pe_meth0 (pv 0) T.clSB T.mS_pull (ok_pull T) (hr.mono (by decide)) T.b_pull .nil pass0)))
      (pss_cons (ps_if (pt_not (pt_val (pe_call (ok_bool T) (hr.mono (by decide)) (by rfl) T.g_bool T.F_bool.kp T.b_bool .nil pass0 (pa_cons (pv 3) (pa_cons (pe_cmpR op_eq (pe_ix ix_tup (pv 1) pe_int (fun _ _ => rfl)) pe_int (nomark _)) pa_nil)))))
        (pss_one (ps_ret pe_non))
        pss_nil)
      (pss_cons (ps_if (pt_cmpR op_gt (pe_ix ix_tup (pv 1) pe_int (fun _ _ => rfl)) pe_int (nomark _))
        (pss_one (ps_ret (pv 1)))
        pss_nil)
      (pss_one (ps_ret (pe_tup (pa_cons (pv 2) (pa_cons pe_int (pa_cons (pe_ix ix_tup (pv 1) pe_int (fun _ _ => rfl)) (pa_cons (pe_ix ix_tup (pv 1) pe_int (fun _ _ => rfl)) pa_nil)))))))))), ?_⟩
    refine alt_pull T rfl hB fun H1 X1 hB1 => ?_
    have M1 : MdAt K H1 v m := hM.kt (X1.kt e)
    obtain ⟨q, rfl, hq⟩ := id M1
    have eb : decide (V.int (m.l : Nat) = V.int 0) = decide (m.l = 0) := decide_eq_decide.mpr ⟨fun y => by injection y with y; omega, fun y => by rw [y]; rfl⟩
    refine ⟨_, rfl, _, rfl, q, _, 0, _, rfl, rfl, hq, atI_nat (j := 0) rfl, rfl, _, _, rfl, _, rfl, iteF' (by rw [eb]; cases decide (m.l = 0) <;> rfl) ?_⟩
    refine ⟨_, rfl, q, _, 0, _, rfl, rfl, hq, atI_nat (j := 0) rfl, _, _, rfl, rfl, _, rfl, ite2 (fun c => ?_) (fun c => ?_)⟩
    · have c1 : ¬ m.l = 0 := by have := of_decide_eq_true c; omega
      unfold pulled at k hB1
      rw [if_neg c1] at k hB1
      exact ⟨_, rfl, k H1 _ X1 hB1 M1⟩
    · have c1 : m.l = 0 := by have := of_decide_eq_false (Bool.not_eq_true _ ▸ c); omega
      unfold pulled at k hB1
      rw [if_pos c1] at k hB1
      refine ⟨_, rfl, _, rfl, q, _, 2, _, rfl, rfl, hq, atI_nat (j := 2) rfl, _, rfl, q, _, 3, _, rfl, rfl, hq, atI_nat (j := 3) rfl, by show 4 ≤ sizeLine; decide, fun t ht => ?_⟩
      exact k _ (.ref t) (X1.trans (FX.of (same_new ht))) (hB1.k (same_new ht)) ⟨t, rfl, SqT.of upd_same⟩
end
end K16

namespace K16
open PySem L2 Wm TL Dv
section
variable {P : Program} {w : World} {K : PySem.W.Frag} {mg : Str → Option Value} {base : Heap}
section
variable {σ : L2.St} {H : Hp} {Q : VK} {i : Nat} {x : Addr} {b : Bool} {ds : List Nat} {rd : Nat} {m : Md}
theorem alt_call (T : Txt P K mg) {X : Cx} {br : Bool} {t : TA} (hi : σ[i]? = some (some (.ref x))) (ht : ∀ Q' : List V → Hp → Prop, Q' [.bl br] H → t σ H Q') (hB : BoxAt K T.PB T.SB H x b ds rd m) (h : ∀ H', FX x H H' → BoxAt K T.PB T.SB H' x b ds rd (called b ds br m).1 → Q (.bl (called b ds br m).2) H') :
    tAlt (StX.tCallO X T.PB (fun vs H Q E => sp_pcall K T.PB T.SB (vs ++ []) H Q E) E0 (tVar i) t) (StX.tCallO X T.SB (fun vs H Q E => sp_scall K T.PB T.SB (vs ++ []) H Q E) E0 (tVar i) t) σ H Q := by
  obtain ⟨dx, fs, r, e, f, _⟩ := id hB
  cases b with
  | false => exact .inl ⟨_, hi, x, rfl, ht _ ⟨.inr ⟨dx, fs, e⟩, ⟨x, br, ds, rd, m, rfl, hB, h⟩⟩⟩
  | true => exact .inr ⟨_, hi, x, rfl, ht _ ⟨.inr ⟨dx, fs, e⟩, ⟨x, br, ds, rd, m, rfl, hB, h⟩⟩⟩
end
theorem MdAt.ref {H : Hp} {v : V} {m : Md} (h : MdAt K H v m) : decide (v = V.non) = false := by
  obtain ⟨q, rfl, _⟩ := h
  exact decide_eq_false (fun z => by cases z)
theorem ok_ticked (T : Txt P K mg) : Rp.GOk P w K mg base CX0 7 T.a_ticked T.d_ticked ["_law_box", "_law_model", "_law_sort", "_law_row_here", "_law_mode", "_law_broken"] (sp_ticked K T.PB T.SB) := by
  refine Rp.gok T.F_ticked sc_ticked (fun vs H Q E h => ?_) (fun cdv A outer s H vs Q E hg hr h => ?_)
  · obtain ⟨x, v, b, r, ds, rd, m, br, mode, rfl, _⟩ := h
    rfl
  · obtain ⟨x, v, b, r, ds, rd, m, br, mode, rfl, hB, hM, hR, k⟩ := h
    obtain ⟨dx, fs, rr, e, _⟩ := id hB
    refine ⟨_, (pss_cons (ps_set (i := 6) sc_ticked.nd rfl (Or.inl rfl) (pe_call (ok_begins T) (hr.mono (by decide)) (by rfl) T.g_begins T.F_begins.kp T.b_begins .nil pass0 (pa_cons (pv 1) (pa_cons (pv 2) pa_nil))))
      (pss_cons (ps_if (PW.pt (pw_or (pt_not (pt_val (pe_call (ok_bool T) (hr.mono (by decide)) (by rfl) T.g_bool T.F_bool.kp T.b_bool .nil pass0 (pa_cons (pe_alt (pe_meth0 (pv 0) T.clPB T.mP_wcan (ok_wcan T) (hr.mono (by decide)) T.b_wcan .nil pass0) (pe_meth0 (pv 0) T.clSB T.mS_scan (ok_scan T) (hr.mono (by decide)) T.b_scan .nil pass0)) (pa_cons (pv 6) pa_nil))))) (pw_or (pt_not (pt_val (Rp.pe_gcall (ok_stands T) hg (hr.mono (by decide)) (by rfl) T.g_stands T.F_stands.kp T.b_stands .nil pass0 (pa_cons (pv 0) (pa_cons (pv 1) pa_nil))))) (pw_or1 (pt_cmpR op_notN (pe_alt (pe_meth0 (pv 0) T.clPB T.mP_begin (ok_begin T) (hr.mono (by decide)) T.b_begin .nil pass0) (pe_meth0 (pv 0) T.clSB T.mS_begin (ok_begin T) (hr.mono (by decide)) T.b_begin .nil pass0)) pe_non (nomark _))))))
        (pss_one (ps_ret pe_non))
        pss_nil)
      (C8.pss_cut (ps_if (pt_val (pv 6))
        (pss_one (ps_set (i := 1) sc_ticked.nd rfl (Or.inl rfl) (pe_tup (pa_cons (pe_ix ix_tup (pv 1) pe_int (fun _ _ => rfl)) (pa_cons (pe_ix ix_tup (pv 1) pe_int (fun _ _ => rfl)) (pa_cons pe_int (pa_cons (pe_ix ix_tup (pv 1) pe_int (fun _ _ => rfl)) pa_nil)))))))
        pss_nil)
      (C8.pss_cut (ps_set (i := 7) sc_ticked.nd rfl (Or.inl rfl) (pe_and (pe_cmpR op_notN (pe_ix ix_tup (pv 1) pe_int (fun _ _ => rfl)) pe_non (nomark _)) (pe_one (pe_cmpR op_eq (pe_ix ix_tup (pv 3) (pe_ix ix_tup (pv 1) pe_int (fun _ _ => rfl)) (fun _ _ => rfl)) pe_int (nomark _)))))
      (pss_cons (ps_if (PW.pt (pw_or (pt_not (pt_val (pe_call (ok_bool T) (hr.mono (by decide)) (by rfl) T.g_bool T.F_bool.kp T.b_bool .nil pass0 (pa_cons (pe_alt (pe_prop (pv 0) T.clPB T.pP_breaks (ok_breaks T) (hr.mono (by decide)) T.b_breaks .nil pass0 rfl) (pe_prop (pv 0) T.clSB T.pS_breaks (ok_breaks T) (hr.mono (by decide)) T.b_breaks .nil pass0 rfl)) (pa_cons (pv 7) pa_nil))))) (pw_or1 (pt_not (pt_val (Rp.pe_gcall (ok_stands T) hg (hr.mono (by decide)) (by rfl) T.g_stands T.F_stands.kp T.b_stands .nil pass0 (pa_cons (pv 0) (pa_cons (pv 1) pa_nil))))))))
        (pss_one (ps_ret pe_non))
        pss_nil)
      (C8.pss_cut (ps_if (pt_cmpR op_eq (pv 4) pe_int (nomark _))
        (pss_one (ps_set (i := 5) sc_ticked.nd rfl (Or.inl rfl) (pv 7)))
        pss_nil)
      (pss_cons (ps_asg (pe_call (ok_behind T) (hr.mono (by decide)) (by rfl) T.g_behind T.F_behind.kp T.b_behind .nil pass0 (pa_cons (pv 1) (pa_cons (pv 2) (pa_cons (pv 3) (pa_cons (pv 5) pa_nil))))) (pg_tup rfl (pgs_cons (pg_name (i := 1) sc_ticked.nd rfl (Or.inl rfl)) (pgs_cons (pg_name (i := 8) sc_ticked.nd rfl (Or.inl rfl)) pgs_nil))))
      (pss_cons (ps_if (PW.pt (pw_or (pt_not (pt_val (pe_call (ok_bool T) (hr.mono (by decide)) (by rfl) T.g_bool T.F_bool.kp T.b_bool .nil pass0 (pa_cons (pe_alt (StX.pe_callO (pv 0) T.cP ((ok_pcall T).raw T.b_pcall .nil) (hr.mono (by decide)) pass0 (pa_cons (pv 5) pa_nil)) (StX.pe_callO (pv 0) T.cS ((ok_scall T).raw T.b_scall .nil) (hr.mono (by decide)) pass0 (pa_cons (pv 5) pa_nil))) (pa_cons (pv 8) pa_nil))))) (pw_or1 (pt_not (pt_val (Rp.pe_gcall (ok_stands T) hg (hr.mono (by decide)) (by rfl) T.g_stands T.F_stands.kp T.b_stands .nil pass0 (pa_cons (pv 0) (pa_cons (pv 1) pa_nil))))))))
        (pss_one (ps_ret pe_non))
        pss_nil)
      (pss_one (ps_ret (pv 1))))))))))), ?_⟩
    refine ⟨_, rfl, _, rfl, v, b, m, rfl, hM, ?_⟩
    refine alt_can T rfl hB ⟨_, rfl, _, _, rfl, _, rfl, iteF' (by cases can b m <;> rfl) ?_⟩
    refine ⟨_, rfl, _, rfl, x, v, b, ds, rd, m, rfl, hB, hM, fun H1 s1 => ⟨_, rfl, iteF ?_⟩⟩
    refine alt_begin T rfl (hB.k s1) fun H2 X2 hB2 => ⟨rfl, _, rfl, iteF' (by decide +kernel) ?_⟩
    have X02 : FX x H H2 := (FX.of s1).trans X2
    have hM2 : MdAt K H2 v m := hM.kt (X02.kt e)
    have hR2 : SqT K H2 r (rowV ds) := X02.kt e _ _ hR
    refine ⟨fun σ H3 => ∃ v1, σ = [some (.ref x), some v1, some (.str (sortS b)), some (.ref r), some (.int mode), some (.bl br), some (.bl (can b m)), none, none] ∧ Same H2 H3 ∧ MdAt K H3 v1 (begun b m), ?_, ?_⟩
    · obtain ⟨q, rfl, hq⟩ := id hM2
      refine ⟨_, rfl, _, rfl, ?_⟩
      cases hc : can b m with
      | false =>
        have e1 : begun b m = m := by unfold begun; rw [hc]; rfl
        rw [e1]
        exact iteF ⟨_, rfl, Same.refl _, hM2⟩
      | true =>
        have e1 : begun b m = ⟨m.l, m.s, some 0, m.q⟩ := by unfold begun; rw [hc]; rfl
        rw [e1]
        exact iteT ⟨_, rfl, q, _, 0, _, rfl, rfl, hq, atI_nat (j := 0) rfl, _, rfl, q, _, 1, _, rfl, rfl, hq, atI_nat (j := 1) rfl, _, rfl, q, _, 3, _, rfl, rfl, hq, atI_nat (j := 3) rfl, by show 4 ≤ sizeLine; decide, fun t ht => ⟨.ref t, rfl, same_new ht, t, rfl, SqT.of upd_same⟩⟩
    · rintro σ H3 ⟨v1, rfl, s3, hM3⟩
      have hB3 := hB2.k s3
      have hR3 := sameT s3 hR2
      have X03 := X02.trans (FX.of s3)
      generalize begun b m = m1 at hB3 hM3
      have ok1 := hB3.mok
      obtain ⟨q, rfl, hq⟩ := id hM3
      refine ⟨fun σ H4 => H3 = H4 ∧ σ = [some (.ref x), some (.ref q), some (.str (sortS b)), some (.ref r), some (.int mode), some (.bl br), some (.bl (can b m)), some (.bl (brk ds m1)), none], ?_, ?_⟩
      · refine ⟨_, rfl, q, _, 2, _, rfl, rfl, hq, atI_nat (j := 2) rfl, rfl, _, rfl, ?_⟩
        rw [oV_not]
        cases hp : m1.p with
        | none =>
          have eb : brk ds m1 = false := by unfold brk; rw [hp]
          rw [eb]
          exact iteF ⟨rfl, rfl⟩
        | some i =>
          have hi := (ok1.pl i hp).1
          have eb : brk ds m1 = decide (V.int ((rowL ds)[i]) = V.int 1) := by
            unfold brk
            rw [hp]
            show decide ((rowL ds)[i]? = some 1) = _
            rw [List.getElem?_eq_getElem hi]
            exact decide_eq_decide.mpr ⟨fun z => by rw [Option.some.inj z], fun z => by injection z with z; rw [z]⟩
          have a2 : (mdV m1)[2]? = some (V.int (i : Nat)) := by show some (oV m1.p) = _; rw [hp]; rfl
          rw [eb]
          exact iteT ⟨_, rfl, _, rfl, q, _, 2, _, rfl, rfl, hq, atI_nat (j := 2) a2, r, _, i, _, rfl, rfl, hR3, atI_nat (rowV_at hi), rfl, rfl, rfl⟩
      · rintro σ _ ⟨rfl, rfl⟩
        refine alt_breaks T rfl hB3 ⟨_, rfl, _, _, rfl, _, rfl, iteF' (by cases brk ds m1 <;> rfl) ?_⟩
        refine ⟨_, rfl, _, rfl, x, _, b, ds, rd, m1, rfl, hB3, hM3, fun H4 s4 => ⟨_, rfl, iteF ?_⟩⟩
        refine ⟨fun σ H5 => ∃ br', H4 = H5 ∧ σ = [some (.ref x), some (.ref q), some (.str (sortS b)), some (.ref r), some (.int mode), some (.bl br'), some (.bl (can b m)), some (.bl (brk ds m1)), none], ?_, ?_⟩
        · refine ⟨_, rfl, rfl, _, rfl, ite2 (fun c => ?_) (fun c => ?_)⟩
          · exact ⟨_, rfl, _, rfl, rfl⟩
          · exact ⟨_, rfl, rfl⟩
        · rintro σ _ ⟨br', rfl, rfl⟩
          have hB4 := hB3.k s4
          refine ⟨_, rfl, _, rfl, _, rfl, _, rfl, _, b, r, br', ds, m1, rfl, hM3.k s4, sameT s4 hR3, ok1, fun H5 p v' s5 hp hM5 => ?_⟩
          refine ⟨p, _, rfl, SqT.of hp, rfl, _, _, rfl, _, _, rfl, rfl, ?_⟩
          have hB5 := hB4.k s5
          obtain ⟨dx5, fs5, _, e5, _⟩ := id hB5
          refine alt_call T rfl (fun Q' h => ⟨_, rfl, h⟩) hB5 fun H6 X6 hB6 => ?_
          refine ⟨_, rfl, _, _, rfl, _, rfl, iteF' (by cases (called b ds br' m1).2 <;> rfl) ?_⟩
          have hM6 := hM5.kt (X6.kt e5)
          refine ⟨_, rfl, _, rfl, x, v', b, ds, rd, _, rfl, hB6, hM6, fun H7 s7 => ⟨_, rfl, iteF ⟨_, rfl, ?_⟩⟩⟩
          exact k H7 v' _ (((X03.trans (FX.of (s4.trans s5))).trans X6).trans (FX.of s7)) (hB6.k s7) (hM6.k s7)
theorem Src.at {H : Hp} {s a c : Addr} (S : Src H s a c) : (∃ xs, H s = some (.lst xs)) ∧ (∃ xs, H a = some (.lst xs)) ∧ (∃ xs, H c = some (.lst xs)) := by
  obtain ⟨x, m, ns, ms, h1, h2, h3, _⟩ := S
  exact ⟨⟨_, h1⟩, ⟨_, h2⟩, ⟨_, h3⟩⟩
theorem But2.kt {s a c : Addr} {H H' : Hp} (u : But2 s a H H') (S : Src H s a c) : Kt K H H' := fun p xs q => by
  obtain ⟨⟨y1, h1⟩, ⟨y2, h2⟩, _⟩ := S.at
  have nt : ∀ o, H p = some o → (∀ ys, o ≠ .lst ys) → H' p = some o := fun o e n => u.keep p o (fun z => by rw [z, h1] at e; cases e; exact n _ rfl) (fun z => by rw [z, h2] at e; cases e; exact n _ rfl) e
  rcases q with (q | ⟨ob, q⟩) | q
  · exact .inl (.inl (nt _ q (fun _ z => by cases z)))
  · exact .inl (.inr ⟨ob, nt _ q (fun _ z => by cases z)⟩)
  · exact .inr q
theorem But2.ins {s a c x C dx : Addr} {fs : List (Str × V)} {H H' : Hp} (u : But2 s a H H') (S : Src H s a c) (e : H x = some (.ins C dx fs)) : H' x = some (.ins C dx fs) := by
  obtain ⟨⟨y1, h1⟩, ⟨y2, h2⟩, _⟩ := S.at
  exact u.keep x _ (fun z => by rw [z, h1] at e; cases e) (fun z => by rw [z, h2] at e; cases e) e
theorem BoxAt.draw {PB SB s a c : Addr} {H H' : Hp} {x : Addr} {b : Bool} {ds : List Nat} {rd : Nat} {m : Md} (h : BoxAt K PB SB H x b ds rd m) (S : Src H s a c) (u : But2 s a H H') : BoxAt K PB SB H' x b ds rd m := by
  obtain ⟨dx, fs, r, e, f, q, w⟩ := h
  exact ⟨dx, fs, r, u.ins S e, f, u.kt S _ _ q, w⟩
theorem Src.fx {H H' : Hp} {s a c x C dx : Addr} {fs : List (Str × V)} (S : Src H s a c) (e : H x = some (.ins C dx fs)) (X : FX x H H') : Src H' s a c := by
  obtain ⟨y, m, ns, ms, h1, h2, h3, h4⟩ := S
  exact ⟨y, m, ns, ms, X _ _ (fun z => by rw [z, e] at h1; cases h1) h1, X _ _ (fun z => by rw [z, e] at h2; cases h2) h2, X _ _ (fun z => by rw [z, e] at h3; cases h3) h3, h4⟩
theorem FX3.refl {s a x : Addr} {H : Hp} : FX3 s a x H H := fun _ _ _ _ _ h => h
theorem FX3.but {s a x : Addr} {H H1 H2 : Hp} (f : FX3 s a x H H1) (u : But2 s a H1 H2) : FX3 s a x H H2 := fun q o n1 n2 n3 h => u.keep q o n1 n2 (f q o n1 n2 n3 h)
theorem FX3.fx {s a x : Addr} {H H1 H2 : Hp} (f : FX3 s a x H H1) (u : FX x H1 H2) : FX3 s a x H H2 := fun q o n1 n2 n3 h => u q o n3 (f q o n1 n2 n3 h)
theorem ok_walk (T : Txt P K mg) : Rp.GOk P w K mg base CX0 8 T.a_walk T.d_walk ["_law_source_here", "_law_box", "_law_model", "_law_sort", "_law_row_here"] (sp_walk K T.PB T.SB) := by
  refine Rp.gok T.F_walk sc_walk (fun vs H Q E h => ?_) (fun cdv A outer s H vs Q E hg hr h => ?_)
  · obtain ⟨s, a, c, x, v, b, r, ds, rd, m, rfl, _⟩ := h
    rfl
  · obtain ⟨s, a, c, x, v, b, r, ds, rd, m, rfl, hS, hB, hM, hR, k⟩ := h
    refine ⟨_, (pss_cons (ps_set (i := 5) sc_walk.nd rfl (Or.inl rfl) (pe_call (ok_draw T) (hr.mono (by decide)) (by rfl) T.g_draw T.F_draw.kp T.b_draw .nil pass0 (pa_cons (pv 0) (pa_cons pe_int pa_nil))))
      (pss_cons (ps_set (i := 6) sc_walk.nd rfl (Or.inl rfl) (pe_op op_add pe_int (pe_call (ok_draw T) (hr.mono (by decide)) (by rfl) T.g_draw T.F_draw.kp T.b_draw .nil pass0 (pa_cons (pv 0) (pa_cons pe_int pa_nil)))))
      (pss_cons (ps_set (i := 7) sc_walk.nd rfl (Or.inl rfl) (pe_call (ok_draw T) (hr.mono (by decide)) (by rfl) T.g_draw T.F_draw.kp T.b_draw .nil pass0 (pa_cons (pv 0) (pa_cons (pv 6) pa_nil))))
      (pss_cons (ps_for PassesOwn.never rfl (pi_range1 (by rfl) T.z_range (pa_cons (pv 6) pa_nil)) (pg_name (i := 8) sc_walk.nd rfl (Or.inl rfl))
        (C8.pss_cut (ps_set (i := 9) sc_walk.nd rfl (Or.inl rfl) (pe_and (pe_cmpR op_eq (pv 5) pe_int (nomark _)) (pe_one (pe_cmpR op_eq (pv 8) (pv 7) (nomark _)))))
        (C8.pss_cut (ps_if (pt_cmpR op_eq (pv 5) pe_int (nomark _))
          (pss_one (ps_set (i := 9) sc_walk.nd rfl (Or.inl rfl) (pe_cmpR op_eq (pe_call (ok_draw T) (hr.mono (by decide)) (by rfl) T.g_draw T.F_draw.kp T.b_draw .nil pass0 (pa_cons (pv 0) (pa_cons pe_int pa_nil))) pe_int (nomark _))))
          pss_nil)
        (C8.pss_cut (ps_set (i := 2) sc_walk.nd rfl (Or.inl rfl) (Rp.pe_gcall (ok_ticked T) hg (hr.mono (by decide)) (by rfl) T.g_ticked T.F_ticked.kp T.b_ticked .nil pass0 (pa_cons (pv 1) (pa_cons (pv 2) (pa_cons (pv 3) (pa_cons (pv 4) (pa_cons (pe_ifExp (PW.pt (pw_and (pt_cmpR op_eq (pv 5) pe_int (nomark _)) (pw_and1 (pt_cmpR op_ne (pv 8) (pv 7) (nomark _))))) pe_int (pv 5)) (pa_cons (pv 9) pa_nil))))))))
        (pss_one (ps_if (pt_cmpR op_isN (pv 2) pe_non (nomark _))
          (pss_one (ps_ret pe_non))
          pss_nil))))))
      (pss_one (ps_ret (pv 2))))))), ?_⟩
    refine ⟨_, rfl, s, a, c, 4, rfl, by decide, by decide, hS, fun H1 md a0 a1 S1 U1 => ?_⟩
    refine ⟨_, rfl, s, a, c, 70, rfl, by decide, by decide, S1, fun H2 mn b0 b1 S2 U2 => ⟨_, _, rfl, rfl, ?_⟩⟩
    refine ⟨_, rfl, _, rfl, s, a, c, 1 + mn, rfl, by omega, by omega, S2, fun H3 od c0 c1 S3 U3 => ?_⟩
    have U := (U1.trans U2).trans U3
    obtain ⟨n, en⟩ : ∃ n : Nat, (1 : Int) + mn = (n : Nat) := ⟨(1 + mn).toNat, by omega⟩
    (try dsimp only)
    rw [en]
    refine ⟨_, rfl, _, rfl, by omega, by omega, ?_⟩
    rw [Int.toNat_natCast]
    refine for_range (fun i σ A => ∃ (v' : V) (m' : Md) (v8 v9 : Option V), σ = [some (.ref s), some (.ref x), some v', some (.str (sortS b)), some (.ref r), some (.int md), some (.int (n : Nat)), some (.int od), v8, v9] ∧ FX3 s a x H A ∧ Src A s a c ∧ BoxAt K T.PB T.SB A x b ds rd m' ∧ MdAt K A v' m' ∧ SqT K A r (rowV ds))
      ⟨v, m, none, none, rfl, FX3.refl.but U, S3, hB.draw hS U, hM.kt (U.kt hS), U.kt hS _ _ hR⟩ (fun i σ A hi hP => ?_) (fun σ A hP => ?_)
    · obtain ⟨v', m', v8, v9, rfl, X0, S0, hB0, hM0, hR0⟩ := hP
      refine ⟨fun σ A1 => ∃ bk : Bool, A = A1 ∧ σ = [some (.ref s), some (.ref x), some v', some (.str (sortS b)), some (.ref r), some (.int md), some (.int (n : Nat)), some (.int od), some (.int (0 + (i : Nat))), some (.bl bk)], ?_, ?_⟩
      · exact ⟨_, rfl, rfl, _, rfl, ite2 (fun c => ⟨_, rfl, _, rfl, rfl, _, rfl, rfl⟩) (fun c => ⟨_, rfl, rfl⟩)⟩
      rintro σ _ ⟨bk, rfl, rfl⟩
      refine ⟨fun σ A1 => ∃ bk : Bool, σ = [some (.ref s), some (.ref x), some v', some (.str (sortS b)), some (.ref r), some (.int md), some (.int (n : Nat)), some (.int od), some (.int (0 + (i : Nat))), some (.bl bk)] ∧ FX3 s a x H A1 ∧ Src A1 s a c ∧ BoxAt K T.PB T.SB A1 x b ds rd m' ∧ MdAt K A1 v' m' ∧ SqT K A1 r (rowV ds), ?_, ?_⟩
      · refine ⟨_, rfl, rfl, _, rfl, ite2 (fun c1 => ?_) (fun c1 => ⟨_, rfl, X0, S0, hB0, hM0, hR0⟩)⟩
        refine ⟨_, rfl, s, a, c, 2, rfl, by decide, by decide, S0, fun A2 d _ _ S2 U2 => ⟨rfl, _, rfl, X0.but U2, S2, hB0.draw S0 U2, hM0.kt (U2.kt S0), U2.kt S0 _ _ hR0⟩⟩
      rintro σ A1 ⟨bk, rfl, X1, S1, hB1, hM1, hR1⟩
      obtain ⟨dx, fs, rr, e, _⟩ := id hB1
      have TICK : ∀ (z : Int) {R : VK}, (∀ A2 v2 m2, FX x A1 A2 → BoxAt K T.PB T.SB A2 x b ds rd m2 → MdAt K A2 v2 m2 → R v2 A2) → sp_ticked K T.PB T.SB [.ref x, v', .str (sortS b), .ref r, .int z, .bl bk] A1 R E0 := fun z R h => ⟨x, v', b, r, ds, rd, m', bk, z, rfl, hB1, hM1, hR1, h⟩
      refine ⟨fun σ A2 => ∃ (v2 : V) (m2 : Md), σ = [some (.ref s), some (.ref x), some v2, some (.str (sortS b)), some (.ref r), some (.int md), some (.int (n : Nat)), some (.int od), some (.int (0 + (i : Nat))), some (.bl bk)] ∧ FX3 s a x H A2 ∧ Src A2 s a c ∧ BoxAt K T.PB T.SB A2 x b ds rd m2 ∧ MdAt K A2 v2 m2 ∧ SqT K A2 r (rowV ds), ?_, ?_⟩
      · have fin : ∀ A2 v2 m2, FX x A1 A2 → BoxAt K T.PB T.SB A2 x b ds rd m2 → MdAt K A2 v2 m2 → FX3 s a x H A2 ∧ Src A2 s a c ∧ BoxAt K T.PB T.SB A2 x b ds rd m2 ∧ MdAt K A2 v2 m2 ∧ SqT K A2 r (rowV ds) := fun A2 v2 m2 X2 hB2 hM2 => ⟨X1.fx X2, S1.fx e X2, hB2, hM2, X2.kt e _ _ hR1⟩
        refine ⟨_, rfl, _, rfl, _, rfl, _, rfl, _, rfl, rfl, _, rfl, ite2 (fun c1 => ⟨_, rfl, _, rfl, rfl, _, rfl, ite2 (fun c2 => ?_) (fun c2 => ?_)⟩) (fun c1 => iteF ?_)⟩
        · exact ⟨_, rfl, TICK 1 fun A2 v2 m2 X2 hB2 hM2 => ⟨v2, m2, rfl, fin A2 v2 m2 X2 hB2 hM2⟩⟩
        · exact ⟨_, rfl, _, rfl, TICK md fun A2 v2 m2 X2 hB2 hM2 => ⟨v2, m2, rfl, fin A2 v2 m2 X2 hB2 hM2⟩⟩
        · exact ⟨_, rfl, _, rfl, TICK md fun A2 v2 m2 X2 hB2 hM2 => ⟨v2, m2, rfl, fin A2 v2 m2 X2 hB2 hM2⟩⟩
      rintro σ A2 ⟨v2, m2, rfl, X2, S2, hB2, hM2, hR2⟩
      exact ⟨_, rfl, rfl, _, rfl, iteF' hM2.ref ⟨_, _, _, _, rfl, X2, S2, hB2, hM2, hR2⟩⟩
    · obtain ⟨v', m', v8, v9, rfl, X0, S0, hB0, hM0, hR0⟩ := hP
      exact ⟨_, rfl, k _ _ _ X0 S0 hB0 hM0⟩
end
end K16

namespace K16
open PySem L2 Wm TL Dv
section
variable {P : Program} {w : World} {K : PySem.W.Frag} {mg : Str → Option Value} {base : Heap}
theorem ok_kind (T : Txt P K mg) : FnOk P w K mg base CX0 1 T.a_kind T.d_kind ["_law_box", "_law_sort"] (sp_kind K T.PB T.SB) := by
  refine T.F_kind.ok sc_kind (fun vs H Q E h => ?_) (fun cdv A outer s H vs Q E hr h => ?_)
  · obtain ⟨x, b, ds, rd, m, rfl, _⟩ := h
    rfl
  · obtain ⟨x, b, ds, rd, m, rfl, hB, k⟩ := h
    obtain ⟨dx, fs, rr, e, _⟩ := id hB
    refine ⟨_, (pss_cons (ps_if (pt_not (pt_val (pe_callB call_isi (by rfl) T.z_isinstance (by decide +kernel) (pa_cons (pv 0) (pa_cons (pe_glob (v := V.ref T.WB) rfl T.gWB rfl) pa_nil)))))
        (pss_one (ps_ret pe_bl))
        pss_nil)
      (pss_one (ps_ret (pe_and (pe_cmpR op_eq (pe_callB call_isi (by rfl) T.z_isinstance (by decide +kernel) (pa_cons (pv 0) (pa_cons (pe_glob (v := V.ref T.SB) rfl T.gSB rfl) pa_nil))) (pe_cmpR op_eq (pv 1) pe_str (nomark _)) (nomark _)) (pe_one (pe_cmpR op_eq (pe_callB call_isi (by rfl) T.z_isinstance (by decide +kernel) (pa_cons (pv 0) (pa_cons (pe_glob (v := V.ref T.PB) rfl T.gPB rfl) pa_nil))) (pe_cmpR op_eq (pv 1) pe_str (nomark _)) (nomark _))))))), ?_⟩
    have ty : TyX K H (.ref x) (.ref (clOf T.PB T.SB b)) := by
      cases b
      · exact .base (.ins e T.clPB T.isP.ca T.isP.cn T.isP.ct T.isP.cm)
      · exact .base (.ins e T.clSB T.isS.ca T.isS.cn T.isS.ct T.isS.cm)
    have k1 : PySem.W.kitOne K (.ref (clOf T.PB T.SB b)) (.ref T.WB) = some true := by cases b; exact T.kPW; exact T.kSW
    have k2 : PySem.W.kitOne K (.ref (clOf T.PB T.SB b)) (.ref T.SB) = some b := by cases b; exact T.kPS; exact T.kSS
    have k3 : PySem.W.kitOne K (.ref (clOf T.PB T.SB b)) (.ref T.PB) = some (!b) := by cases b; exact T.kPP; exact T.kSP
    refine ⟨_, rfl, _, _, _, _, true, rfl, .own _, ty, k1, _, rfl, iteF ?_⟩
    refine ⟨_, rfl, _, _, _, _, b, rfl, .own _, ty, k2, _, rfl, rfl, rfl, _, rfl, iteT' (by cases b <;> decide +kernel) ⟨_, rfl, _, _, _, _, !b, rfl, .own _, ty, k3, _, rfl, rfl, rfl, ?_⟩⟩
    have e1 : decide (V.bl (!b) = V.bl (decide (V.str (sortS b) = V.str "plain"))) = true := by cases b <;> decide +kernel
    rw [e1]
    exact k
theorem but_new {s a y : Addr} {H H1 H2 : Hp} (u : But2 s a H H1) (h : H y = none) (f : FX y H1 H2) : But2 s a H H2 := ⟨fun p o n1 n2 e => f p o (fun z => by rw [z, h] at e; cases e) (u.keep p o n1 n2 e)⟩
theorem ok_copy (T : Txt P K mg) : Rp.GOk P w K mg base CX0 9 T.a_copy T.d_copy ["_law_source_here", "_law_one"] (sp_copy K T.PB T.SB) := by
  refine Rp.gok T.F_copy sc_copy (fun vs H Q E h => ?_) (fun cdv A outer s H vs Q E hg hr h => ?_)
  · obtain ⟨s, a, c, l, x, v, b, r, ds, rd, m, rfl, _⟩ := h
    rfl
  · obtain ⟨s, a, c, l, x, v, b, r, ds, rd, m, rfl, hS, hl, hB, hM, hR, k⟩ := h
    refine ⟨_, (pss_cons (ps_asg (pv 1) (pg_lst rfl (pgs_cons (pg_name (i := 2) sc_copy.nd rfl (Or.inl rfl)) (pgs_cons (pg_name (i := 3) sc_copy.nd rfl (Or.inl rfl)) (pgs_cons (pg_name (i := 4) sc_copy.nd rfl (Or.inl rfl)) (pgs_cons (pg_name (i := 5) sc_copy.nd rfl (Or.inl rfl)) (pgs_cons (pg_name (i := 6) sc_copy.nd rfl (Or.inl rfl)) pgs_nil)))))))
      (pss_cons (ps_set (i := 7) sc_copy.nd rfl (Or.inl rfl) (pe_alt (pe_meth0 (pv 2) T.clPB T.mP_pcopied (ok_pcopied T) (hr.mono (by decide)) T.b_pcopied .nil pass0) (pe_meth0 (pv 2) T.clSB T.mS_scopied (ok_scopied T) (hr.mono (by decide)) T.b_scopied .nil pass0)))
      (pss_cons (ps_if (PW.pt (pw_or (pt_not (pt_val (Rp.pe_gcall (ok_stands T) hg (hr.mono (by decide)) (by rfl) T.g_stands T.F_stands.kp T.b_stands .nil pass0 (pa_cons (pv 7) (pa_cons (pv 5) pa_nil))))) (pw_or (pt_not (pt_val (pe_call (ok_kind T) (hr.mono (by decide)) (by rfl) T.g_kind T.F_kind.kp T.b_kind .nil pass0 (pa_cons (pv 7) (pa_cons (pv 3) pa_nil))))) (pw_or1 (pt_cmpR op_ne (pe_fld (pv 7) rfl) (pe_fld (pv 2) rfl) (nomark _))))))
        (pss_one (ps_ret pe_bl))
        pss_nil)
      (pss_cons (ps_set (i := 8) sc_copy.nd rfl (Or.inl rfl) (pv 5))
      (pss_cons (ps_for PassesOwn.never rfl (pi_range1 (by rfl) T.z_range (pa_cons (pe_op op_add pe_int (pe_call (ok_draw T) (hr.mono (by decide)) (by rfl) T.g_draw T.F_draw.kp T.b_draw .nil pass0 (pa_cons (pv 0) (pa_cons pe_int pa_nil)))) pa_nil)) (pg_name (i := 9) sc_copy.nd rfl (Or.inl rfl))
        (pss_cons (ps_set (i := 8) sc_copy.nd rfl (Or.inl rfl) (Rp.pe_gcall (ok_ticked T) hg (hr.mono (by decide)) (by rfl) T.g_ticked T.F_ticked.kp T.b_ticked .nil pass0 (pa_cons (pv 7) (pa_cons (pv 8) (pa_cons (pv 3) (pa_cons (pv 6) (pa_cons pe_int (pa_cons pe_bl pa_nil))))))))
        (pss_one (ps_if (PW.pt (pw_or (pt_cmpR op_isN (pv 8) pe_non (nomark _)) (pw_or1 (pt_not (pt_val (Rp.pe_gcall (ok_stands T) hg (hr.mono (by decide)) (by rfl) T.g_stands T.F_stands.kp T.b_stands .nil pass0 (pa_cons (pv 2) (pa_cons (pv 5) pa_nil))))))))
          (pss_one (ps_ret pe_bl))
          pss_nil))))
      (pss_cons (ps_set (i := 8) sc_copy.nd rfl (Or.inl rfl) (pe_call (ok_pulled T) (hr.mono (by decide)) (by rfl) T.g_pulled T.F_pulled.kp T.b_pulled .nil pass0 (pa_cons (pv 7) (pa_cons (pv 8) (pa_cons (pv 4) pa_nil)))))
      (pss_one (ps_ret (pe_and (pe_cmpR op_notN (pv 8) pe_non (nomark _)) (pe_and (Rp.pe_gcall (ok_stands T) hg (hr.mono (by decide)) (by rfl) T.g_stands T.F_stands.kp T.b_stands .nil pass0 (pa_cons (pv 7) (pa_cons (pv 8) pa_nil))) (pe_one (Rp.pe_gcall (ok_stands T) hg (hr.mono (by decide)) (by rfl) T.g_stands T.F_stands.kp T.b_stands .nil pass0 (pa_cons (pv 2) (pa_cons (pv 5) pa_nil)))))))))))))), ?_⟩
    refine ⟨_, rfl, l, _, rfl, SqL.of hl, rfl, _, _, rfl, _, _, rfl, _, _, rfl, _, _, rfl, _, _, rfl, rfl, ?_⟩
    refine alt_copied T rfl hB fun H1 y s1 hy hB1 => ?_
    refine ⟨_, rfl, _, rfl, y, v, b, ds, rd, m, rfl, hB1, hM.k s1, fun H2 s2 => ⟨_, rfl, iteF ?_⟩⟩
    have s02 := s1.trans s2
    have hB2 := hB1.k s2
    refine ⟨_, rfl, _, rfl, y, b, ds, rd, m, rfl, hB2, _, rfl, iteF ?_⟩
    obtain ⟨dy, fy, ry, ey, Fy, _⟩ := id hB2
    obtain ⟨dx, fx, rx, ex, Fx, _⟩ := hB.k s02
    refine ⟨_, rfl, y, _, dy, fy, _, rfl, ey, cls_ok T b, na_ok T b (by decide), Fy.num, _, rfl, x, _, dx, fx, _, rfl, ex, cls_ok T b, na_ok T b (by decide), Fx.num, rfl, _, rfl, iteF' (by rw [decide_eq_true rfl]; rfl) ?_⟩
    refine ⟨_, rfl, ?_⟩
    refine ⟨_, rfl, s, a, c, 12, rfl, by decide, by decide, hS.keep s02, fun H3 d d0 d1 S3 U3 => ⟨_, _, rfl, rfl, _, rfl, by omega, by omega, ?_⟩⟩
    have U03 : But2 s a H H3 := (But2.of s02).trans U3
    generalize ((1 : Int) + d).toNat = n
    refine for_range (fun i σ A => ∃ (v' : V) (m' : Md) (v9 : Option V), σ = [some (.ref s), some (.ref l), some (.ref x), some (.str (sortS b)), some (.int (rd : Nat)), some v, some (.ref r), some (.ref y), some v', v9] ∧ But2 s a H A ∧ Src A s a c ∧ BoxAt K T.PB T.SB A y b ds rd m' ∧ MdAt K A v' m')
      ⟨v, m, none, rfl, U03, S3, hB2.draw (hS.keep s02) U3, hM.kt (U03.kt hS)⟩ (fun i σ A hi hP => ?_) (fun σ A hP => ?_)
    · obtain ⟨v', m', v9, rfl, U, S, hB', hM'⟩ := hP
      refine ⟨_, rfl, _, rfl, _, rfl, _, rfl, y, v', b, r, ds, rd, m', false, 1, rfl, hB', hM', U.kt hS _ _ hR, fun A1 v1 m1 X1 hB1 hM1 => ?_⟩
      obtain ⟨dz, fz, rz, ez, _⟩ := id hB'
      have U1 := but_new U hy X1
      refine ⟨_, rfl, rfl, _, rfl, iteF' hM1.ref ?_⟩
      refine ⟨_, rfl, _, rfl, x, v, b, ds, rd, m, rfl, hB.draw hS U1, hM.kt (U1.kt hS), fun A2 s2 => ⟨_, rfl, iteF ⟨v1, m1, _, rfl, U1.trans (But2.of s2), (S.fx ez X1).keep s2, hB1.k s2, hM1.k s2⟩⟩⟩
    · obtain ⟨v', m', v9, rfl, U, S, hB', hM'⟩ := hP
      obtain ⟨dz, fz, rz, ez, _⟩ := id hB'
      refine ⟨_, rfl, _, rfl, _, rfl, y, v', b, ds, rd, m', rfl, hB', hM', fun A1 v1 X1 hB1 hM1 => ?_⟩
      have U1 := but_new U hy X1
      have S1 := S.fx ez X1
      refine ⟨_, rfl, rfl, _, rfl, iteT' (by rw [hM1.ref]; rfl) ?_⟩
      refine ⟨_, rfl, _, rfl, y, v1, b, ds, rd, _, rfl, hB1, hM1, fun A2 s2 => ⟨_, rfl, iteT ?_⟩⟩
      have U2 := U1.trans (But2.of s2)
      exact ⟨_, rfl, _, rfl, x, v, b, ds, rd, m, rfl, hB.draw hS U2, hM.kt (U2.kt hS), fun A3 s3 => k A3 (U2.trans (But2.of s3)) ((S1.keep s2).keep s3)⟩
end
end K16

namespace K16
open PySem L2 Wm TL Dv
section
variable {P : Program} {w : World} {K : PySem.W.Frag} {mg : Str → Option Value} {base : Heap}
structure Bx where
  l : Addr
  x : Addr
  r : Addr
  b : Bool
  ds : List Nat
  rd : Nat
def rowX (o : Bx) (v : V) : List V := [.ref o.x, .str (sortS o.b), .int (o.rd : Nat), v, .ref o.r]
/-- one box of the law, its list, its model -/
structure One (K : PySem.W.Frag) (PB SB : Addr) (A : Hp) (o : Bx) (v : V) (m w : Md) : Prop where
  box : BoxAt K PB SB A o.x o.b o.ds o.rd m
  lst : A o.l = some (.lst (rowX o v))
  mod : MdAt K A v w
  row : SqT K A o.r (rowV o.ds)
theorem One.k {PB SB : Addr} {A B : Hp} {o : Bx} {v : V} {m w : Md} (h : One K PB SB A o v m w) (s : Same A B) : One K PB SB B o v m w := ⟨h.box.k s, s _ _ h.lst, h.mod.k s, sameT s h.row⟩
theorem One.kt {PB SB : Addr} {A B : Hp} {o : Bx} {v : V} {m w : Md} (h : One K PB SB A o v m w) (kt : Kt K A B) (h1 : ∀ u, A o.x = some u → B o.x = some u) (h2 : ∀ u, A o.l = some u → B o.l = some u) : One K PB SB B o v m w := ⟨h.box.kt h1 kt, h2 _ h.lst, h.mod.kt kt, kt _ _ h.row⟩
theorem One.ins {PB SB : Addr} {A : Hp} {o : Bx} {v : V} {m w : Md} (h : One K PB SB A o v m w) : ∃ C dx fs, A o.x = some (.ins C dx fs) := by
  obtain ⟨dx, fs, _, e, _⟩ := h.box
  exact ⟨_, _, _, e⟩
theorem One.draw {PB SB s a c : Addr} {A B : Hp} {o : Bx} {v : V} {m w : Md} (h : One K PB SB A o v m w) (S : Src A s a c) (u : But2 s a A B) (n1 : o.l ≠ s) (n2 : o.l ≠ a) : One K PB SB B o v m w := by
  obtain ⟨C, dx, fs, e⟩ := h.ins
  exact h.kt (u.kt S) (fun z y => by rw [e] at y; cases y; exact u.ins S e) (fun z y => u.keep _ _ n1 n2 y)
/-- what is kept: copies and their models -/
def Kep (K : PySem.W.Frag) (PB SB : Addr) (A : Hp) (N : Addr → Prop) (ys : List V) : Prop := ∀ z ∈ ys, ∃ t y v b ds rd m, z = .ref t ∧ SqT K A t [.ref y, v] ∧ BoxAt K PB SB A y b ds rd m ∧ MdAt K A v m ∧ ¬ N y
theorem Kep.kt {PB SB : Addr} {A B : Hp} {N : Addr → Prop} {ys : List V} (h : Kep K PB SB A N ys) (kt : Kt K A B) (g : ∀ y C dx fs, ¬ N y → A y = some (.ins C dx fs) → B y = some (.ins C dx fs)) : Kep K PB SB B N ys := fun z mz => by
  obtain ⟨t, y, v, b, ds, rd, m, e, q, hb, hm, n⟩ := h z mz
  obtain ⟨dx, fs, r, ey, rest⟩ := id hb
  exact ⟨t, y, v, b, ds, rd, m, e, kt _ _ q, hb.kt (fun u hu => by rw [ey] at hu; cases hu; exact g y _ _ _ n ey) kt, hm.kt kt, n⟩
structure Fx where
  s : Addr
  a : Addr
  c : Addr
  L : Addr
  kl : Addr
  o : Bool → Bx
def Fx.N (f : Fx) (y : Addr) : Prop := y = (f.o false).x ∨ y = (f.o true).x
structure Fx.Ok (f : Fx) (H0 : Hp) : Prop where
  s0 : H0 f.s = none
  a0 : H0 f.a = none
  kl0 : H0 f.kl = none
  l0 : ∀ k, H0 (f.o k).l = none
  x0 : ∀ k, H0 (f.o k).x = none
  ll : (f.o false).l ≠ (f.o true).l
  xx : (f.o false).x ≠ (f.o true).x
  ls : ∀ k, (f.o k).l ≠ f.s
  la : ∀ k, (f.o k).l ≠ f.a
  lc : ∀ k, (f.o k).l ≠ f.c
  lL : ∀ k, (f.o k).l ≠ f.L
  Ls : f.L ≠ f.s
  La : f.L ≠ f.a
  kls : f.kl ≠ f.s
  kla : f.kl ≠ f.a
  klc : f.kl ≠ f.c
  klL : f.kl ≠ f.L
  kll : ∀ k, f.kl ≠ (f.o k).l
structure LW (K : PySem.W.Frag) (PB SB : Addr) (f : Fx) (H0 A : Hp) (v : Bool → V) (m w : Bool → Md) (ys : List V) : Prop where
  src : Src A f.s f.a f.c
  hL : A f.L = some (.lst [.ref (f.o false).l, .ref (f.o true).l])
  one : ∀ k, One K PB SB A (f.o k) (v k) (m k) (w k)
  kep : Kep K PB SB A f.N ys
  hk : A f.kl = some (.lst ys)
  same : Same H0 A
section
variable {PB SB : Addr} {f : Fx} {H0 A B : Hp} {v : Bool → V} {m w : Bool → Md} {ys : List V}
theorem LW.k (h : LW K PB SB f H0 A v m w ys) (s : Same A B) : LW K PB SB f H0 B v m w ys :=
  ⟨h.src.keep s, s _ _ h.hL, fun k => (h.one k).k s, h.kep.kt (Kt.same s) fun _ _ _ _ _ e => s _ _ e, s _ _ h.hk, h.same.trans s⟩
theorem LW.draw (h : LW K PB SB f H0 A v m w ys) (g : f.Ok H0) (S : Src B f.s f.a f.c) (u : But2 f.s f.a A B) : LW K PB SB f H0 B v m w ys :=
  ⟨S, u.keep _ _ g.Ls g.La h.hL, fun k => (h.one k).draw h.src u (g.ls k) (g.la k), h.kep.kt (u.kt h.src) fun _ _ _ _ _ e => u.ins h.src e, u.keep _ _ g.kls g.kla h.hk,
    fun q o e => u.keep q o (fun z => by rw [z, g.s0] at e; cases e) (fun z => by rw [z, g.a0] at e; cases e) (h.same q o e)⟩
def up {α : Type} (p : Bool → α) (k : Bool) (z : α) : Bool → α := fun j => if j = k then z else p j
theorem up_same {α : Type} {p : Bool → α} {k : Bool} {z : α} : up p k z k = z := if_pos rfl
theorem up_ne {α : Type} {p : Bool → α} {j k : Bool} {z : α} (n : j ≠ k) : up p k z j = p j := if_neg n
theorem Fx.Ok.xne (g : f.Ok H0) {j k : Bool} (n : j ≠ k) : (f.o j).x ≠ (f.o k).x := by
  cases j <;> cases k
  · exact absurd rfl n
  · exact g.xx
  · exact g.xx.symm
  · exact absurd rfl n
theorem Fx.Ok.lne (g : f.Ok H0) {j k : Bool} (n : j ≠ k) : (f.o j).l ≠ (f.o k).l := by
  cases j <;> cases k
  · exact absurd rfl n
  · exact g.ll
  · exact g.ll.symm
  · exact absurd rfl n
theorem Fx.inN (f : Fx) (k : Bool) : f.N (f.o k).x := by cases k; exact .inl rfl; exact .inr rfl
/-- a box goes on -/
theorem LW.act (h : LW K PB SB f H0 A v m w ys) (g : f.Ok H0) {k : Bool} {m' : Md} (S : Src B f.s f.a f.c) (X : FX3 f.s f.a (f.o k).x A B) (hb : BoxAt K PB SB B (f.o k).x (f.o k).b (f.o k).ds (f.o k).rd m') : LW K PB SB f H0 B v (up m k m') w ys := by
  obtain ⟨C, dx, fs, e⟩ := (h.one k).ins
  obtain ⟨⟨y1, h1⟩, ⟨y2, h2⟩, _⟩ := h.src.at
  have nx : ∀ {q xs}, A q = some (.lst xs) → q ≠ (f.o k).x := fun {q xs} y z => by rw [z, e] at y; cases y
  have kt : Kt K A B := fun p xs q => by
    have nt : ∀ o, A p = some o → (∀ ys, o ≠ .lst ys) → (∀ C dx fs, o ≠ .ins C dx fs) → B p = some o := fun o y n n2 => X p o (fun z => by rw [z, h1] at y; cases y; exact n _ rfl) (fun z => by rw [z, h2] at y; cases y; exact n _ rfl) (fun z => by rw [z, e] at y; cases y; exact n2 _ _ _ rfl) y
    rcases q with (q | ⟨ob, q⟩) | q
    · exact .inl (.inl (nt _ q (fun _ z => by cases z) (fun _ _ _ z => by cases z)))
    · exact .inl (.inr ⟨ob, nt _ q (fun _ z => by cases z) (fun _ _ _ z => by cases z)⟩)
    · exact .inr q
  have ki : ∀ {y C2 d2 f2}, y ≠ (f.o k).x → A y = some (.ins C2 d2 f2) → B y = some (.ins C2 d2 f2) := fun {y C2 d2 f2} n ey => X y _ (fun z => by rw [z, h1] at ey; cases ey) (fun z => by rw [z, h2] at ey; cases ey) n ey
  refine ⟨S, X _ _ g.Ls g.La (nx h.hL) h.hL, fun j => ?_, h.kep.kt kt fun y _ _ _ n ey => ki (fun z => n (by rw [z]; exact f.inN k)) ey, X _ _ g.kls g.kla (nx h.hk) h.hk,
    fun q o y => X q o (fun z => by rw [z, g.s0] at y; cases y) (fun z => by rw [z, g.a0] at y; cases y) (fun z => by rw [z, g.x0] at y; cases y) (h.same q o y)⟩
  have oj := h.one j
  by_cases n : j = k
  · subst n
    rw [up_same]
    exact ⟨hb, X _ _ (g.ls j) (g.la j) (nx oj.lst) oj.lst, oj.mod.kt kt, kt _ _ oj.row⟩
  · rw [up_ne n]
    obtain ⟨C2, d2, f2, e2⟩ := oj.ins
    exact oj.kt kt (fun u y => by rw [e2] at y; cases y; exact ki (g.xne n) e2) (fun u y => by rw [oj.lst] at y; cases y; exact X _ _ (g.ls j) (g.la j) (nx oj.lst) oj.lst)
/-- a model is laid down -/
theorem LW.put (h : LW K PB SB f H0 A v m w ys) (g : f.Ok H0) {k : Bool} {z : V} {m' : Md} (hz : MdAt K A z m') : LW K PB SB f H0 (upd A (f.o k).l (.lst (rowX (f.o k) z))) (up v k z) m (up w k m') ys := by
  have ok := h.one k
  have kt : Kt K A (upd A (f.o k).l (.lst (rowX (f.o k) z))) := Kt.lst ok.lst
  have ni : ∀ {y C dx fs}, A y = some (.ins C dx fs) → y ≠ (f.o k).l := fun {y C dx fs} e n => by rw [n, ok.lst] at e; cases e
  obtain ⟨y, mm, ns, ms, s1, s2, s3, s4⟩ := h.src
  refine ⟨⟨y, mm, ns, ms, by rw [upd_ne (g.ls k).symm]; exact s1, by rw [upd_ne (g.la k).symm]; exact s2, by rw [upd_ne (g.lc k).symm]; exact s3, s4⟩, by rw [upd_ne (g.lL k).symm]; exact h.hL, fun j => ?_,
    h.kep.kt kt fun y _ _ _ _ e => by rw [upd_ne (ni e)]; exact e, by rw [upd_ne (g.kll k)]; exact h.hk, same_mut h.same (g.l0 k)⟩
  have oj := h.one j
  obtain ⟨C2, d2, f2, e2⟩ := oj.ins
  by_cases n : j = k
  · subst n
    rw [up_same, up_same]
    exact ⟨oj.box.kt (fun u e => by rw [upd_ne (ni e2)]; exact e) kt, upd_same, hz.kt kt, kt _ _ oj.row⟩
  · rw [up_ne n, up_ne n]
    exact oj.kt kt (fun u e => by rw [upd_ne (ni e2)]; exact e) (fun u e => by rw [upd_ne (g.lne n)]; exact e)
/-- one more is kept -/
theorem LW.keep (h : LW K PB SB f H0 A v m w ys) (g : f.Ok H0) {z : V} (hz : Kep K PB SB A f.N [z]) : LW K PB SB f H0 (upd A f.kl (.lst (ys ++ [z]))) v m w (ys ++ [z]) := by
  have kt : Kt K A (upd A f.kl (.lst (ys ++ [z]))) := Kt.lst h.hk
  have ni : ∀ {y C dx fs}, A y = some (.ins C dx fs) → y ≠ f.kl := fun {y C dx fs} e n => by rw [n, h.hk] at e; cases e
  obtain ⟨y, mm, ns, ms, s1, s2, s3, s4⟩ := h.src
  refine ⟨⟨y, mm, ns, ms, by rw [upd_ne g.kls.symm]; exact s1, by rw [upd_ne g.kla.symm]; exact s2, by rw [upd_ne g.klc.symm]; exact s3, s4⟩, by rw [upd_ne g.klL.symm]; exact h.hL, fun j => ?_,
    fun u mu => ?_, upd_same, same_mut h.same g.kl0⟩
  · obtain ⟨C2, d2, f2, e2⟩ := (h.one j).ins
    exact (h.one j).kt kt (fun u e => by rw [upd_ne (ni e2)]; exact e) (fun u e => by rw [upd_ne (g.kll j).symm]; exact e)
  · rcases List.mem_append.mp mu with mu | mu
    · exact h.kep.kt kt (fun y _ _ _ _ e => by rw [upd_ne (ni e)]; exact e) u mu
    · exact hz.kt kt (fun y _ _ _ _ e => by rw [upd_ne (ni e)]; exact e) u mu
end
theorem up_id {α : Type} (p : Bool → α) (k : Bool) : up p k (p k) = p := by
  funext j
  unfold up
  split
  · rename_i e; rw [e]
  · rfl
end
end K16

namespace K16
open PySem L2 Wm TL Dv
section
variable {P : Program} {w : World} {K : PySem.W.Frag} {mg : Str → Option Value} {base : Heap}
def md0 : Md := ⟨0, 0, none, 0⟩
theorem src_ne {H : Hp} {s a c L : Addr} {xs : List V} (S : Src H s a c) (h : H L = none) : L ≠ s ∧ L ≠ a ∧ L ≠ c := by
  obtain ⟨⟨_, h1⟩, ⟨_, h2⟩, ⟨_, h3⟩⟩ := S.at
  exact ⟨(fun z => by rw [z, h1] at h; cases h), (fun z => by rw [z, h2] at h; cases h), (fun z => by rw [z, h3] at h; cases h)⟩
theorem one_list {PB SB : Addr} {A : Hp} {o : Bx} {v : V} {m w : Md} {L : Addr} {xs : List V} {u : HO} (h : One K PB SB A o v m w) (hL : A L = some (.lst xs)) (n : o.l ≠ L) : One K PB SB (upd A L u) o v m w := by
  obtain ⟨C, dx, fs, e⟩ := h.ins
  exact h.kt (Kt.lst hL) (fun z y => by rw [upd_ne (fun q => by rw [q, hL] at e; cases e)]; exact y) (fun z y => by rw [upd_ne n]; exact y)
theorem ok_law (T : Txt P K mg) : Rp.GOk P w K mg base CX0 10 T.a_law T.d_law ["_law_script"] (sp_law K) := by
  refine Rp.gok T.F_law sc_law (fun vs H Q E h => ?_) (fun cdv A outer s H vs Q E hg hr h => ?_)
  · obtain ⟨a, ns, rfl, _⟩ := h
    rfl
  · obtain ⟨a0, ns, rfl, hS, hlen, k⟩ := h
    refine ⟨_, (pss_cons (ps_set (i := 1) sc_law.nd rfl (Or.inl rfl) (pe_call (ok_source T) (hr.mono (by decide)) (by rfl) T.g_source T.F_source.kp T.b_source .nil pass0 (pa_cons (pv 0) pa_nil)))
      (pss_cons (ps_set (i := 2) sc_law.nd rfl (Or.inl rfl) (pe_lst pa_nil))
      (pss_cons (ps_for PassesOwn.never rfl (pi_range1 (by rfl) T.z_range (pa_cons pe_int pa_nil)) (pg_name (i := 3) sc_law.nd rfl (Or.inl rfl))
        (pss_cons (ps_set (i := 4) sc_law.nd rfl (Or.inl rfl) (pe_call (ok_number T) (hr.mono (by decide)) (by rfl) T.g_number T.F_number.kp T.b_number .nil pass0 (pa_cons (pv 1) pa_nil)))
        (pss_cons (ps_set (i := 5) sc_law.nd rfl (Or.inl rfl) (pe_ix ix_tup (pe_tup (pa_cons pe_str (pa_cons pe_str pa_nil))) (pe_call (ok_draw T) (hr.mono (by decide)) (by rfl) T.g_draw T.F_draw.kp T.b_draw .nil pass0 (pa_cons (pv 1) (pa_cons pe_int pa_nil))) (fun _ _ => rfl)))
        (pss_cons (ps_set (i := 6) sc_law.nd rfl (Or.inl rfl) (pe_call (ok_times T) (hr.mono (by decide)) (by rfl) T.g_times T.F_times.kp T.b_times .nil pass0 (pa_cons (pv 1) pa_nil)))
        (pss_cons (ps_set (i := 7) sc_law.nd rfl (Or.inl rfl) (pe_call (ok_wheel T) (hr.mono (by decide)) (by rfl) T.g_wheel T.F_wheel.kp T.b_wheel .nil pass0 (pa_cons (pv 4) (pa_cons (pv 5) (pa_cons (pv 6) pa_nil)))))
        (pss_cons (ps_if (PW.pt (pw_or (pt_cmpR op_ne (pe_fld (pv 7) rfl) (pv 4) (nomark _)) (pw_or (pt_not (pt_val (Rp.pe_gcall (ok_stands T) hg (hr.mono (by decide)) (by rfl) T.g_stands T.F_stands.kp T.b_stands .nil pass0 (pa_cons (pv 7) (pa_cons (pe_tup (pa_cons pe_int (pa_cons pe_int (pa_cons pe_non (pa_cons pe_int pa_nil))))) pa_nil))))) (pw_or1 (pt_not (pt_val (pe_call (ok_kind T) (hr.mono (by decide)) (by rfl) T.g_kind T.F_kind.kp T.b_kind .nil pass0 (pa_cons (pv 7) (pa_cons (pv 5) pa_nil)))))))))
          (pss_one (ps_ret pe_bl))
          pss_nil)
        (pss_one (ps_expr (pe_bm PySem.F.plainAttrs_list PySem.F.slot_list_append PySem.F.type_list_append mt_append (pv 2) (pa_cons (pe_lst (pa_cons (pv 7) (pa_cons (pv 5) (pa_cons (pv 6) (pa_cons (pe_tup (pa_cons pe_int (pa_cons pe_int (pa_cons pe_non (pa_cons pe_int pa_nil))))) (pa_cons (pe_call (ok_row T) (hr.mono (by decide)) (by rfl) T.g_row T.F_row.kp T.b_row .nil pass0 (pa_cons (pv 4) pa_nil)) pa_nil)))))) pa_nil))))))))))
      (pss_cons (ps_set (i := 8) sc_law.nd rfl (Or.inl rfl) (pe_lst pa_nil))
      (pss_cons (ps_for PassesOwn.never rfl (pi_range1 (by rfl) T.z_range (pa_cons (pe_op op_add pe_int (pe_call (ok_draw T) (hr.mono (by decide)) (by rfl) T.g_draw T.F_draw.kp T.b_draw .nil pass0 (pa_cons (pv 1) (pa_cons pe_int pa_nil)))) pa_nil)) (pg_name (i := 3) sc_law.nd rfl (Or.inl rfl))
        (C8.pss_cut (ps_set (i := 9) sc_law.nd rfl (Or.inl rfl) (pe_ifExp (pt_cmpR op_lt (pv 3) pe_int (nomark _)) (pe_ix ix_list (pv 2) (pv 3) (fun _ _ => rfl)) (pe_ix ix_list (pv 2) (pe_call (ok_draw T) (hr.mono (by decide)) (by rfl) T.g_draw T.F_draw.kp T.b_draw .nil pass0 (pa_cons (pv 1) (pa_cons pe_int pa_nil))) (fun _ _ => rfl))))
        (C8.pss_cut (ps_set (i := 10) sc_law.nd rfl (Or.inl rfl) (pe_ifExp (pt_cmpR op_lt (pv 3) pe_int (nomark _)) pe_int (pe_call (ok_draw T) (hr.mono (by decide)) (by rfl) T.g_draw T.F_draw.kp T.b_draw .nil pass0 (pa_cons (pv 1) (pa_cons pe_int pa_nil)))))
        (pss_cons (ps_set (i := 7) sc_law.nd rfl (Or.inl rfl) (pe_ix ix_list (pv 9) pe_int (fun _ _ => rfl)))
        (C8.pss_cut (ps_if (pt_cmpR op_eq (pv 10) pe_int (nomark _))
          (pss_one (ps_set (i := 11) sc_law.nd rfl (Or.inl rfl) (pe_call (ok_pulled T) (hr.mono (by decide)) (by rfl) T.g_pulled T.F_pulled.kp T.b_pulled .nil pass0 (pa_cons (pv 7) (pa_cons (pe_ix ix_list (pv 9) pe_int (fun _ _ => rfl)) (pa_cons (pe_ix ix_list (pv 9) pe_int (fun _ _ => rfl)) pa_nil))))))
          (pss_one (ps_if (pt_cmpR op_eq (pv 10) pe_int (nomark _))
            (pss_cons (ps_if (pt_not (pt_val (Rp.pe_gcall (ok_copy T) hg (hr.mono (by decide)) (by rfl) T.g_copy T.F_copy.kp T.b_copy .nil pass0 (pa_cons (pv 1) (pa_cons (pv 9) pa_nil)))))
              (pss_one (ps_ret pe_bl))
              pss_nil)
            (pss_cons (ps_expr (pe_bm PySem.F.plainAttrs_list PySem.F.slot_list_append PySem.F.type_list_append mt_append (pv 8) (pa_cons (pe_tup (pa_cons (pe_alt (pe_meth0 (pv 7) T.clPB T.mP_pcopied (ok_pcopied T) (hr.mono (by decide)) T.b_pcopied .nil pass0) (pe_meth0 (pv 7) T.clSB T.mS_scopied (ok_scopied T) (hr.mono (by decide)) T.b_scopied .nil pass0)) (pa_cons (pe_ix ix_list (pv 9) pe_int (fun _ _ => rfl)) pa_nil))) pa_nil)))
            (pss_one (ps_set (i := 11) sc_law.nd rfl (Or.inl rfl) (pe_ix ix_list (pv 9) pe_int (fun _ _ => rfl))))))
            (pss_one (ps_set (i := 11) sc_law.nd rfl (Or.inl rfl) (Rp.pe_gcall (ok_walk T) hg (hr.mono (by decide)) (by rfl) T.g_walk T.F_walk.kp T.b_walk .nil pass0 (pa_cons (pv 1) (pa_cons (pv 7) (pa_cons (pe_ix ix_list (pv 9) pe_int (fun _ _ => rfl)) (pa_cons (pe_ix ix_list (pv 9) pe_int (fun _ _ => rfl)) (pa_cons (pe_ix ix_list (pv 9) pe_int (fun _ _ => rfl)) pa_nil)))))))))))
        (pss_cons (ps_if (pt_cmpR op_isN (pv 11) pe_non (nomark _))
          (pss_one (ps_ret pe_bl))
          pss_nil)
        (pss_cons (ps_asg (pv 11) (pg_sub (pv 9) pe_int set_list))
        (pss_one (ps_if (PW.pt (pw_or (pt_not (pt_val (Rp.pe_gcall (ok_stands T) hg (hr.mono (by decide)) (by rfl) T.g_stands T.F_stands.kp T.b_stands .nil pass0 (pa_cons (pe_ix ix_list (pe_ix ix_list (pv 2) pe_int (fun _ _ => rfl)) pe_int (fun _ _ => rfl)) (pa_cons (pe_ix ix_list (pe_ix ix_list (pv 2) pe_int (fun _ _ => rfl)) pe_int (fun _ _ => rfl)) pa_nil))))) (pw_or1 (pt_not (pt_val (Rp.pe_gcall (ok_stands T) hg (hr.mono (by decide)) (by rfl) T.g_stands T.F_stands.kp T.b_stands .nil pass0 (pa_cons (pe_ix ix_list (pe_ix ix_list (pv 2) pe_int (fun _ _ => rfl)) pe_int (fun _ _ => rfl)) (pa_cons (pe_ix ix_list (pe_ix ix_list (pv 2) pe_int (fun _ _ => rfl)) pe_int (fun _ _ => rfl)) pa_nil))))))))
          (pss_one (ps_ret pe_bl))
          pss_nil)))))))))
      (pss_cons (ps_for PassesOwn.never rfl (pi_list (pv 8)) (pg_tup rfl (pgs_cons (pg_name (i := 12) sc_law.nd rfl (Or.inl rfl)) (pgs_cons (pg_name (i := 11) sc_law.nd rfl (Or.inl rfl)) pgs_nil)))
        (pss_one (ps_if (pt_not (pt_val (Rp.pe_gcall (ok_stands T) hg (hr.mono (by decide)) (by rfl) T.g_stands T.F_stands.kp T.b_stands .nil pass0 (pa_cons (pv 12) (pa_cons (pv 11) pa_nil)))))
          (pss_one (ps_ret pe_bl))
          pss_nil)))
      (pss_one (ps_ret pe_bl)))))))), ?_⟩
    refine ⟨_, rfl, a0, ns, rfl, hS, hlen, fun H1 s a c s1 S0 hs0 ha0 => ?_⟩
    refine ⟨Nat.zero_le _, fun L hL0 => ?_⟩
    obtain ⟨Ls, La, Lc⟩ := src_ne (xs := []) S0 hL0
    have L0 : H L = none := s1.free hL0
    refine ⟨2, rfl, by decide, by decide, ?_⟩
    refine for_range (n := 2) (fun i σ A => ∃ (os : List Bx) (v3 v4 v5 v6 v7 : Option V), os.length = i ∧ σ = [some (.ref a0), some (.ref s), some (.ref L), v3, v4, v5, v6, v7, none, none, none, none, none] ∧ Same H A ∧ Src A s a c ∧ A L = some (.lst (os.map fun o => V.ref o.l)) ∧ (∀ o ∈ os, (∃ v, One K T.PB T.SB A o v md0 md0) ∧ H o.l = none ∧ H o.x = none ∧ o.l ≠ s ∧ o.l ≠ a ∧ o.l ≠ c ∧ o.l ≠ L) ∧ os.Pairwise (fun o p => o.l ≠ p.l ∧ o.x ≠ p.x))
      ⟨[], _, _, _, _, _, rfl, rfl, s1.trans (same_new hL0), S0.keep (same_new hL0), upd_same, (fun o mo => absurd mo (List.not_mem_nil)), .nil⟩ (fun i σ A hi hP => ?_) (fun σ A hP => ?_)
    · obtain ⟨os, v3, v4, v5, v6, v7, el, rfl, sm, S, hL, hos, pw⟩ := hP
      refine ⟨_, rfl, s, a, c, rfl, S, fun A1 ds N S1 U1 => ?_⟩
      refine ⟨by show 2 ≤ sizeLine; decide, fun t ht => ?_⟩
      have S1t := S1.keep (same_new (o := .tup [V.str "plain", V.str "shy"]) ht)
      refine ⟨_, rfl, s, a, c, 2, rfl, by decide, by decide, S1t, fun A2 d d0 d1 S2 U2 => ?_⟩
      obtain ⟨b, eb⟩ : ∃ b, atI [V.str "plain", V.str "shy"] d = some (V.str (sortS b)) := by
        have : d = 0 ∨ d = 1 := by omega
        rcases this with rfl | rfl
        · exact ⟨false, rfl⟩
        · exact ⟨true, rfl⟩
      have U02 : But2 s a A A2 := (U1.trans (But2.of (same_new ht))).trans U2
      refine ⟨t, _, d, _, rfl, rfl, U2.kt S1t _ _ (SqT.of upd_same), eb, ?_⟩
      refine ⟨_, rfl, s, a, c, rfl, S2, fun A3 rd r1 r8 S3 U3 => ?_⟩
      refine ⟨_, rfl, _, rfl, _, rfl, b, ds, rd, rfl, N, r1, r8, fun A4 x s4 hx hB => ?_⟩
      obtain ⟨dx, fs, rr, e, F, _⟩ := id hB
      refine ⟨_, rfl, x, _, dx, fs, _, rfl, e, cls_ok T b, na_ok T b (by decide), F.num, _, rfl, rfl, _, rfl, iteF' (by rw [decide_eq_true rfl]; rfl) ?_⟩
      refine ⟨_, rfl, by show 4 ≤ sizeLine; decide, fun t2 ht2 => ?_⟩
      refine ⟨x, _, b, ds, rd, ⟨0, 0, none, 0⟩, rfl, hB.k (same_new ht2), ⟨t2, rfl, SqT.of upd_same⟩, fun A5 s5 => ⟨_, rfl, iteF ?_⟩⟩
      have hB5 := (hB.k (same_new ht2)).k s5
      refine ⟨_, rfl, _, rfl, x, b, ds, rd, _, rfl, hB5, _, rfl, iteF ?_⟩
      have s35 : Same A3 A5 := (s4.trans (same_new ht2)).trans s5
      have U5 : But2 s a A A5 := (U02.trans U3).trans (But2.of s35)
      have hL5 := U5.keep _ _ Ls La hL
      refine ⟨_, rfl, .inl ⟨rfl, _, SqL.of hL5⟩, _, rfl, _, rfl, _, rfl, by show 4 ≤ sizeLine; decide, fun t3 ht3 => ?_⟩
      refine ⟨_, rfl, ds, N, rfl, fun A6 r s6 hr0 hR => ?_⟩
      refine ⟨by show 5 ≤ sizeLine; decide, fun l hl => ?_⟩
      have s56 : Same A5 A6 := (same_new ht3).trans s6
      have hL6 := s56 _ _ hL5
      have ht36 := s6 _ _ (upd_same (H := A5) (a := t3) (o := .tup [V.int 0, V.int 0, V.non, V.int 0]))
      refine ⟨L, _, _, rfl, rfl, at_old hL6 hl, by rw [List.length_map]; exact small1000 (by omega), ?_⟩
      have U6 : But2 s a A A6 := U5.trans (But2.of s56)
      have S6 := (S3.keep s35).keep s56
      obtain ⟨ls, la, lc⟩ := src_ne (xs := []) S6 hl
      have lL : l ≠ L := fun z => by rw [z, hL6] at hl; cases hl
      have sm6 : Same H A6 := fun q o y => U6.keep q o (fun z => by rw [z, hs0] at y; cases y) (fun z => by rw [z, ha0] at y; cases y) (sm q o y)
      have hx6 : H x = none := by
        have sm3 : Same H A3 := fun q o y => (U02.trans U3).keep q o (fun z => by rw [z, hs0] at y; cases y) (fun z => by rw [z, ha0] at y; cases y) (sm q o y)
        exact sm3.free hx
      have one6 : One K T.PB T.SB (upd A6 l (.lst (rowX ⟨l, x, r, b, ds, rd⟩ (.ref t3)))) ⟨l, x, r, b, ds, rd⟩ (.ref t3) md0 md0 :=
        ⟨(hB5.k s56).k (same_new hl), upd_same, (show MdAt K A6 (.ref t3) md0 from ⟨t3, rfl, SqT.of ht36⟩).k (same_new hl), sameT (same_new hl) (SqT.of hR)⟩
      have hL7 := at_old (u := .lst (rowX ⟨l, x, r, b, ds, rd⟩ (.ref t3))) hL6 hl
      refine ⟨os ++ [⟨l, x, r, b, ds, rd⟩], _, _, _, _, _, by rw [List.length_append, el]; rfl, rfl, same_mut (sm6.trans (same_new hl)) L0, ?_, ?_, fun o mo => ?_, ?_⟩
      · obtain ⟨y, mm, ns, ms, q1, q2, q3, q4⟩ := S6.keep (same_new (o := .lst (rowX ⟨l, x, r, b, ds, rd⟩ (.ref t3))) hl)
        exact ⟨y, mm, ns, ms, by rw [upd_ne Ls.symm]; exact q1, by rw [upd_ne La.symm]; exact q2, by rw [upd_ne (fun z => by rw [← z] at hL; obtain ⟨_, _, ⟨_, y3⟩⟩ := S0.at; rw [z] at y3; rw [hL0] at y3; cases y3)]; exact q3, q4⟩
      · rw [upd_same, List.map_append]
        rfl
      · rcases List.mem_append.mp mo with mo | mo
        · obtain ⟨⟨v, ov⟩, z1, z2, z3, z4, z5, z6⟩ := hos o mo
          exact ⟨⟨v, one_list ((ov.draw S U6 z3 z4).k (same_new hl)) hL7 z6⟩, z1, z2, z3, z4, z5, z6⟩
        · rw [List.mem_singleton.mp mo]
          exact ⟨⟨_, one_list one6 hL7 lL⟩, sm6.free hl, hx6, ls, la, lc, lL⟩
      · refine List.pairwise_append.mpr ⟨pw, List.pairwise_singleton _ _, fun o mo p mp => ?_⟩
        rw [List.mem_singleton.mp mp]
        obtain ⟨⟨v, ov⟩, z1, z2, z3, z4, z5, z6⟩ := hos o mo
        have o6 := ov.draw S U6 z3 z4
        obtain ⟨C, dy, gs, e6⟩ := (ov.draw S (U02.trans U3) z3 z4).ins
        exact ⟨(fun z => by have z : o.l = l := z; have := o6.lst; rw [z, hl] at this; cases this), (fun z => by have z : o.x = x := z; rw [z, hx] at e6; cases e6)⟩
    obtain ⟨os, v3, v4, v5, v6, v7, el, rfl, sm, S, hL, hos, pw⟩ := hP
    obtain ⟨o0, o1, rfl⟩ : ∃ o0 o1, os = [o0, o1] := by
      match os, el with
      | [o0, o1], _ => exact ⟨o0, o1, rfl⟩
    refine ⟨Nat.zero_le _, fun kl hkl => ?_⟩
    have Sk := S.keep (same_new (o := .lst []) hkl)
    obtain ⟨kls, kla, klc⟩ := src_ne (xs := []) S hkl
    obtain ⟨⟨w0, W0⟩, a1, a2, a3, a4, a5, a6⟩ := hos o0 (by simp)
    obtain ⟨⟨w1, W1⟩, b1, b2, b3, b4, b5, b6⟩ := hos o1 (by simp)
    have pw2 : o0.l ≠ o1.l ∧ o0.x ≠ o1.x := by
      have := (List.pairwise_cons.mp pw).1 o1 (by simp)
      exact this
    obtain ⟨f, ef⟩ : ∃ f : Fx, f = ⟨s, a, c, L, kl, fun z => if z then o1 else o0⟩ := ⟨_, rfl⟩
    have g : f.Ok H := by
      subst ef
      refine ⟨hs0, ha0, sm.free hkl, (fun z => by cases z; exact a1; exact b1), (fun z => by cases z; exact a2; exact b2), pw2.1, pw2.2, (fun z => by cases z; exact a3; exact b3), (fun z => by cases z; exact a4; exact b4), (fun z => by cases z; exact a5; exact b5), (fun z => by cases z; exact a6; exact b6), Ls, La, kls, kla, klc,
        (fun z => by have z : kl = L := z; rw [z, hL] at hkl; cases hkl), fun z y => ?_⟩
      cases z with
      | false => have y : kl = o0.l := y; rw [y, W0.lst] at hkl; cases hkl
      | true => have y : kl = o1.l := y; rw [y, W1.lst] at hkl; cases hkl
    have lw : LW K T.PB T.SB f H (upd A kl (.lst [])) (fun z => if z then w1 else w0) (fun _ => md0) (fun _ => md0) [] := by
      subst ef
      exact ⟨Sk, at_old hL hkl, (fun z => by cases z; exact W0.k (same_new hkl); exact W1.k (same_new hkl)), (fun z mz => absurd mz (List.not_mem_nil)), upd_same, sm.trans (same_new hkl)⟩
    have es : s = f.s := by rw [ef]
    have eL : L = f.L := by rw [ef]
    have ek : kl = f.kl := by rw [ef]
    rw [es, eL, ek]
    rw [ek] at lw
    generalize (upd A f.kl (.lst []) : Hp) = A at lw ⊢
    clear hos W0 W1 pw Sk hkl S hL sm
    refine ⟨_, rfl, f.s, f.a, f.c, 11, rfl, by decide, by decide, lw.src, fun A1 d d0 d1 S1 U1 => ⟨_, _, rfl, rfl, _, rfl, by omega, by omega, ?_⟩⟩
    have nb : ((4 : Int) + d).toNat ≤ 14 := by omega
    generalize ((4 : Int) + d).toNat = n at nb
    refine for_range (fun i σ A => ∃ (v : Bool → V) (m : Bool → Md) (ys : List V) (u3 u4 u5 u6 u7 u9 u10 u11 u12 : Option V), σ = [some (.ref a0), some (.ref f.s), some (.ref f.L), u3, u4, u5, u6, u7, some (.ref f.kl), u9, u10, u11, u12] ∧ LW K T.PB T.SB f H A v m m ys ∧ ys.length ≤ i)
      ⟨_, _, [], _, _, _, _, _, _, _, _, _, rfl, lw.draw g S1 U1, Nat.le_refl _⟩ (fun i σ A hi hP => ?_) (fun σ A hP => ?_)
    · clear lw S1 U1
      obtain ⟨v, m, ys, u3, u4, u5, u6, u7, u9, u10, u11, u12, rfl, lw, ly⟩ := hP
      refine ⟨fun σ A1 => ∃ k, σ = [some (.ref a0), some (.ref f.s), some (.ref f.L), some (.int (0 + (i : Nat))), u4, u5, u6, u7, some (.ref f.kl), some (.ref (f.o k).l), u10, u11, u12] ∧ LW K T.PB T.SB f H A1 v m m ys, ?_, ?_⟩
      · have pick : ∀ z : Int, 0 ≤ z → z < 2 → ∃ k, atI [V.ref (f.o false).l, V.ref (f.o true).l] z = some (.ref (f.o k).l) := fun z h0 h1 => by
          have : z = 0 ∨ z = 1 := by omega
          rcases this with rfl | rfl
          · exact ⟨false, rfl⟩
          · exact ⟨true, rfl⟩
        refine ⟨_, rfl, _, _, rfl, rfl, _, rfl, ite2 (fun c1 => ?_) (fun c1 => ?_)⟩
        · have c1 := of_decide_eq_true c1
          obtain ⟨k, ek⟩ := pick (0 + (i : Nat)) (by omega) c1
          exact ⟨_, rfl, _, rfl, f.L, _, _, _, rfl, rfl, SqL.of lw.hL, ek, k, rfl, lw⟩
        · refine ⟨_, rfl, _, rfl, f.s, f.a, f.c, 2, rfl, by decide, by decide, lw.src, fun A2 d d0 d1 S2 U2 => ?_⟩
          have lw2 := lw.draw g S2 U2
          obtain ⟨k, ek⟩ := pick d d0 d1
          exact ⟨f.L, _, _, _, rfl, rfl, SqL.of lw2.hL, ek, k, rfl, lw2⟩
      rintro σ A1 ⟨k, rfl, lw1⟩
      clear lw
      refine ⟨fun σ A2 => ∃ z : Int, σ = [some (.ref a0), some (.ref f.s), some (.ref f.L), some (.int (0 + (i : Nat))), u4, u5, u6, u7, some (.ref f.kl), some (.ref (f.o k).l), some (.int z), u11, u12] ∧ LW K T.PB T.SB f H A2 v m m ys, ?_, ?_⟩
      · refine ⟨_, rfl, _, _, rfl, rfl, _, rfl, ite2 (fun c1 => ⟨0, rfl, lw1⟩) (fun c1 => ?_)⟩
        exact ⟨_, rfl, f.s, f.a, f.c, 6, rfl, by decide, by decide, lw1.src, fun A2 d d0 d1 S2 U2 => ⟨d, rfl, lw1.draw g S2 U2⟩⟩
      rintro σ A2 ⟨z, rfl, lw2⟩
      clear lw1
      have ok := lw2.one k
      refine ⟨_, rfl, (f.o k).l, _, 0, _, rfl, rfl, SqL.of ok.lst, atI_nat (j := 0) rfl, ?_⟩
      refine ⟨fun σ A3 => ∃ (z2 : Option V) (y : V) (m' : Md) (ys' : List V), σ = [some (.ref a0), some (.ref f.s), some (.ref f.L), some (.int (0 + (i : Nat))), u4, u5, u6, some (.ref (f.o k).x), some (.ref f.kl), some (.ref (f.o k).l), z2, some y, u12] ∧ LW K T.PB T.SB f H A3 v (up m k m') m ys' ∧ MdAt K A3 y m' ∧ ys'.length ≤ i + 1, ?_, ?_⟩
      · refine ⟨_, rfl, rfl, _, rfl, ite2 (fun c1 => ?_) (fun c1 => ?_)⟩
        · refine ⟨_, rfl, _, rfl, (f.o k).l, _, 3, _, rfl, rfl, SqL.of ok.lst, atI_nat (j := 3) rfl, _, rfl, (f.o k).l, _, 2, _, rfl, rfl, SqL.of ok.lst, atI_nat (j := 2) rfl, ?_⟩
          obtain ⟨C, dx, fs, e⟩ := ok.ins
          refine ⟨(f.o k).x, v k, (f.o k).b, (f.o k).ds, (f.o k).rd, m k, rfl, ok.box, ok.mod, fun A3 y X hb hm => ⟨_, y, _, ys, rfl, lw2.act g (lw2.src.fx e X) (FX3.refl.fx X) hb, hm, by omega⟩⟩
        · refine ⟨_, rfl, rfl, _, rfl, ite2 (fun c2 => ?_) (fun c2 => ?_)⟩
          · refine ⟨_, rfl, _, rfl, f.s, f.a, f.c, (f.o k).l, (f.o k).x, v k, (f.o k).b, (f.o k).r, (f.o k).ds, (f.o k).rd, m k, rfl, lw2.src, ok.lst, ok.box, ok.mod, ok.row, fun A3 U3 S3 => ⟨_, rfl, iteF ?_⟩⟩
            have lw3 := lw2.draw g S3 U3
            have ok3 := lw3.one k
            refine ⟨_, rfl, .inl ⟨rfl, _, SqL.of lw3.hk⟩, ?_⟩
            refine alt_copied T rfl ok3.box fun A4 y s4 hy hb => ?_
            have lw4 := lw3.k s4
            have ok4 := lw4.one k
            refine ⟨_, rfl, (f.o k).l, _, 3, _, rfl, rfl, SqL.of ok4.lst, atI_nat (j := 3) rfl, by show 2 ≤ sizeLine; decide, fun t ht => ?_⟩
            have lw5 := lw4.k (same_new (o := .tup [V.ref y, v k]) ht)
            have kz : Kep K T.PB T.SB (upd A4 t (.tup [V.ref y, v k])) f.N [.ref t] := fun u mu => by
              rw [List.mem_singleton.mp mu]
              refine ⟨t, y, v k, _, _, _, m k, rfl, SqT.of upd_same, hb.k (same_new ht), ok4.mod.k (same_new ht), fun nn => ?_⟩
              have no : ∀ j, y ≠ (f.o j).x := fun j q => by
                obtain ⟨_, _, _, e⟩ := (lw3.one j).ins
                rw [← q, hy] at e
                cases e
              rcases nn with nn | nn
              · exact no _ nn
              · exact no _ nn
            refine ⟨f.kl, _, _, rfl, rfl, lw5.hk, small1000 (by omega), ?_⟩
            have lw6 := lw5.keep g kz
            have ok6 := lw6.one k
            exact ⟨_, rfl, (f.o k).l, _, 3, _, rfl, rfl, SqL.of ok6.lst, atI_nat (j := 3) rfl, _, v k, m k, ys ++ [.ref t], rfl, by rw [up_id]; exact lw6, ok6.mod, by rw [List.length_append, List.length_singleton]; omega⟩
          · refine ⟨_, rfl, _, rfl, _, rfl, (f.o k).l, _, 3, _, rfl, rfl, SqL.of ok.lst, atI_nat (j := 3) rfl, _, rfl, (f.o k).l, _, 1, _, rfl, rfl, SqL.of ok.lst, atI_nat (j := 1) rfl, _, rfl, (f.o k).l, _, 4, _, rfl, rfl, SqL.of ok.lst, atI_nat (j := 4) rfl, ?_⟩
            refine ⟨f.s, f.a, f.c, (f.o k).x, v k, (f.o k).b, (f.o k).r, (f.o k).ds, (f.o k).rd, m k, rfl, lw2.src, ok.box, ok.mod, ok.row, fun A3 y m' X S3 hb hm => ⟨_, y, m', ys, rfl, lw2.act g S3 X hb, hm, by omega⟩⟩
      rintro σ A3 ⟨z2, y, m', ys', rfl, lw3, hm, ly'⟩
      clear lw2 ok
      refine ⟨_, rfl, rfl, _, rfl, iteF' hm.ref ?_⟩
      refine ⟨_, rfl, _, rfl, (f.o k).l, _, 3, 3, rfl, rfl, (lw3.one k).lst, rfl, ?_⟩
      have lw4 := lw3.put g (k := k) hm
      have c0 := lw4.one false
      refine ⟨_, rfl, f.L, _, 0, _, rfl, rfl, SqL.of lw4.hL, atI_nat (j := 0) rfl, (f.o false).l, _, 0, _, rfl, rfl, SqL.of c0.lst, atI_nat (j := 0) rfl, _, rfl, f.L, _, 0, _, rfl, rfl, SqL.of lw4.hL, atI_nat (j := 0) rfl, (f.o false).l, _, 3, _, rfl, rfl, SqL.of c0.lst, atI_nat (j := 3) rfl, ?_⟩
      refine ⟨(f.o false).x, _, (f.o false).b, (f.o false).ds, (f.o false).rd, _, rfl, c0.box, c0.mod, fun A5 s5 => ⟨_, rfl, iteF ?_⟩⟩
      have lw5 := lw4.k s5
      have c1 := lw5.one true
      refine ⟨_, rfl, f.L, _, 1, _, rfl, rfl, SqL.of lw5.hL, atI_nat (j := 1) rfl, (f.o true).l, _, 0, _, rfl, rfl, SqL.of c1.lst, atI_nat (j := 0) rfl, _, rfl, f.L, _, 1, _, rfl, rfl, SqL.of lw5.hL, atI_nat (j := 1) rfl, (f.o true).l, _, 3, _, rfl, rfl, SqL.of c1.lst, atI_nat (j := 3) rfl, ?_⟩
      refine ⟨(f.o true).x, _, (f.o true).b, (f.o true).ds, (f.o true).rd, _, rfl, c1.box, c1.mod, fun A6 s6 => ⟨_, rfl, iteF ?_⟩⟩
      exact ⟨_, _, ys', _, _, _, _, _, _, _, _, _, rfl, lw5.k s6, ly'⟩
    · obtain ⟨v, m, ys, u3, u4, u5, u6, u7, u9, u10, u11, u12, rfl, lw, ly⟩ := hP
      refine ⟨_, rfl, f.kl, rfl, ⟨_, SqL.of lw.hk⟩, ?_⟩
      refine for_list (xs := ys) (fun i σ B => ∃ (u11 u12 : Option V), σ = [some (.ref a0), some (.ref f.s), some (.ref f.L), u3, u4, u5, u6, u7, some (.ref f.kl), u9, u10, u11, u12] ∧ LW K T.PB T.SB f H B v m m ys) ⟨_, _, rfl, lw⟩ (fun i σ B _ hP => ?_) (fun i z σ B hz hP => ?_) (fun σ B hP => ?_)
      · obtain ⟨_, _, _, lw⟩ := hP
        exact SqL.of lw.hk
      · obtain ⟨u11, u12, rfl, lw⟩ := hP
        obtain ⟨t, y, w, b, ds, rd, mm, rfl, q, hb, hm, _⟩ := lw.kep z (List.mem_of_getElem? hz)
        refine ⟨t, _, rfl, q, rfl, _, _, rfl, _, _, rfl, rfl, ?_⟩
        exact ⟨_, rfl, _, rfl, y, w, b, ds, rd, mm, rfl, hb, hm, fun B2 s2 => ⟨_, rfl, iteF ⟨_, _, rfl, lw.k s2⟩⟩⟩
      · obtain ⟨u11, u12, rfl, lw⟩ := hP
        exact k _ lw.same
end
end K16

namespace K16
open PySem L2 Wm TL Dv PySem.W
theorem all_mk {l : PySem.W.OpenLaw} {w : World} {K : PySem.W.Frag} {h : Heap} {mg : Str → Option Value} {fa : Addr} (X : K.In h) (G : h.Ns mainGlobals mg) (hfa : mg "law" = some (.ref fa))
    {xP : Addr}
    (axP : PySem.W.nsIn K mainGlobals "PlainBox" = some (some (.ref xP)))
    {xS : Addr}
    (axS : PySem.W.nsIn K mainGlobals "ShyBox" = some (some (.ref xS)))
    {x_is_number : Addr} {od_is_number an_is_number : Option Addr} {sl_is_number : Array (Option Value)} {oc_is_number dc_is_number pm_is_number cd_is_number ct_is_number : Value}
    {kV_is_number : Value}
    (a_is_number : PySem.W.nsIn K mainGlobals "is_number" = some (some (.ref x_is_number)))
    (l_is_number : K.lookup x_is_number = some ⟨oc_is_number, od_is_number, .func (PySem.W.fnOf "is_number" "is_number" (defArgs s_is_number) (defBody s_is_number) (defScope s_is_number) .none kV_is_number dc_is_number pm_is_number an_is_number cd_is_number ct_is_number), sl_is_number⟩)
    (c_is_number : PySem.W.codeIn K cd_is_number "is_number" = true)
    (k_is_number : PySem.W.keepIn K (.ref x_is_number) = true)
    {x_check_number : Addr} {od_check_number an_check_number : Option Addr} {sl_check_number : Array (Option Value)} {oc_check_number dc_check_number pm_check_number cd_check_number ct_check_number : Value}
    {kV_check_number : Value}
    (a_check_number : PySem.W.nsIn K mainGlobals "check_number" = some (some (.ref x_check_number)))
    (l_check_number : K.lookup x_check_number = some ⟨oc_check_number, od_check_number, .func (PySem.W.fnOf "check_number" "check_number" (defArgs s_check_number) (defBody s_check_number) (defScope s_check_number) .none kV_check_number dc_check_number pm_check_number an_check_number cd_check_number ct_check_number), sl_check_number⟩)
    (c_check_number : PySem.W.codeIn K cd_check_number "check_number" = true)
    (k_check_number : PySem.W.keepIn K (.ref x_check_number) = true)
    {x_blocks : Addr} {od_blocks an_blocks : Option Addr} {sl_blocks : Array (Option Value)} {oc_blocks dc_blocks pm_blocks cd_blocks ct_blocks : Value}
    {kV_blocks : Value}
    (a_blocks : PySem.W.nsIn K mainGlobals "blocks" = some (some (.ref x_blocks)))
    (l_blocks : K.lookup x_blocks = some ⟨oc_blocks, od_blocks, .func (PySem.W.fnOf "blocks" "blocks" (defArgs s_blocks) (defBody s_blocks) (defScope s_blocks) .none kV_blocks dc_blocks pm_blocks an_blocks cd_blocks ct_blocks), sl_blocks⟩)
    (c_blocks : PySem.W.codeIn K cd_blocks "blocks" = true)
    (k_blocks : PySem.W.keepIn K (.ref x_blocks) = true)
    {x_row_of : Addr} {od_row_of an_row_of : Option Addr} {sl_row_of : Array (Option Value)} {oc_row_of dc_row_of pm_row_of cd_row_of ct_row_of : Value}
    {kV_row_of : Value}
    (a_row_of : PySem.W.nsIn K mainGlobals "row_of" = some (some (.ref x_row_of)))
    (l_row_of : K.lookup x_row_of = some ⟨oc_row_of, od_row_of, .func (PySem.W.fnOf "row_of" "row_of" (defArgs s_row_of) (defBody s_row_of) (defScope s_row_of) .none kV_row_of dc_row_of pm_row_of an_row_of cd_row_of ct_row_of), sl_row_of⟩)
    (c_row_of : PySem.W.codeIn K cd_row_of "row_of" = true)
    (k_row_of : PySem.W.keepIn K (.ref x_row_of) = true)
    {x_init : Addr} {od_init an_init : Option Addr} {sl_init : Array (Option Value)} {oc_init dc_init pm_init cd_init ct_init : Value}
    {kV_init : Value}
    (aP_init : PySem.W.findIn K (.ref xP) "__init__" = some (some (.ref x_init)))
    (aS_init : PySem.W.findIn K (.ref xS) "__init__" = some (some (.ref x_init)))
    (i_init : PySem.W.isFn K (.ref x_init) = true)
    (l_init : K.lookup x_init = some ⟨oc_init, od_init, .func (PySem.W.fnOf "__init__" "WheelBox.__init__" (defArgs s_init) (defBody s_init) (defScope s_init) .none kV_init dc_init pm_init an_init cd_init ct_init), sl_init⟩)
    (c_init : PySem.W.codeIn K cd_init "WheelBox.__init__" = true)
    (k_init : PySem.W.keepIn K (.ref x_init) = true)
    {x_standing : Addr} {od_standing an_standing : Option Addr} {sl_standing : Array (Option Value)} {oc_standing dc_standing pm_standing cd_standing ct_standing : Value}
    {kV_standing : Value}
    {y_standing : Addr} {rs_standing : List Value}
    (pa_standing : PySem.W.findIn K (.ref xP) "standing" = some (some (.ref y_standing)))
    (pb_standing : PySem.W.findIn K (.ref xS) "standing" = some (some (.ref y_standing)))
    (pg_standing : PySem.W.specialIn K (.ref y_standing) "__get__" = some (some (.builtin "property.__get__")))
    (pt_standing : PySem.W.takesIn K (.ref y_standing) = some true)
    (pr_standing : PySem.W.recIn K y_standing "property" = some (.ref x_standing :: rs_standing))
    (l_standing : K.lookup x_standing = some ⟨oc_standing, od_standing, .func (PySem.W.fnOf "standing" "WheelBox.standing" (defArgs s_standing) (defBody s_standing) (defScope s_standing) .none kV_standing dc_standing pm_standing an_standing cd_standing ct_standing), sl_standing⟩)
    (c_standing : PySem.W.codeIn K cd_standing "WheelBox.standing" = true)
    (k_standing : PySem.W.keepIn K (.ref x_standing) = true)
    {x_breaks : Addr} {od_breaks an_breaks : Option Addr} {sl_breaks : Array (Option Value)} {oc_breaks dc_breaks pm_breaks cd_breaks ct_breaks : Value}
    {kV_breaks : Value}
    {y_breaks : Addr} {rs_breaks : List Value}
    (pa_breaks : PySem.W.findIn K (.ref xP) "breaks" = some (some (.ref y_breaks)))
    (pb_breaks : PySem.W.findIn K (.ref xS) "breaks" = some (some (.ref y_breaks)))
    (pg_breaks : PySem.W.specialIn K (.ref y_breaks) "__get__" = some (some (.builtin "property.__get__")))
    (pt_breaks : PySem.W.takesIn K (.ref y_breaks) = some true)
    (pr_breaks : PySem.W.recIn K y_breaks "property" = some (.ref x_breaks :: rs_breaks))
    (l_breaks : K.lookup x_breaks = some ⟨oc_breaks, od_breaks, .func (PySem.W.fnOf "breaks" "WheelBox.breaks" (defArgs s_breaks) (defBody s_breaks) (defScope s_breaks) .none kV_breaks dc_breaks pm_breaks an_breaks cd_breaks ct_breaks), sl_breaks⟩)
    (c_breaks : PySem.W.codeIn K cd_breaks "WheelBox.breaks" = true)
    (k_breaks : PySem.W.keepIn K (.ref x_breaks) = true)
    {x_pull : Addr} {od_pull an_pull : Option Addr} {sl_pull : Array (Option Value)} {oc_pull dc_pull pm_pull cd_pull ct_pull : Value}
    {kV_pull : Value}
    (aP_pull : PySem.W.findIn K (.ref xP) "pull" = some (some (.ref x_pull)))
    (aS_pull : PySem.W.findIn K (.ref xS) "pull" = some (some (.ref x_pull)))
    (i_pull : PySem.W.isFn K (.ref x_pull) = true)
    (l_pull : K.lookup x_pull = some ⟨oc_pull, od_pull, .func (PySem.W.fnOf "pull" "WheelBox.pull" (defArgs s_pull) (defBody s_pull) (defScope s_pull) .none kV_pull dc_pull pm_pull an_pull cd_pull ct_pull), sl_pull⟩)
    (c_pull : PySem.W.codeIn K cd_pull "WheelBox.pull" = true)
    (k_pull : PySem.W.keepIn K (.ref x_pull) = true)
    {x_wcan : Addr} {od_wcan an_wcan : Option Addr} {sl_wcan : Array (Option Value)} {oc_wcan dc_wcan pm_wcan cd_wcan ct_wcan : Value}
    {kV_wcan : Value}
    (aP_wcan : PySem.W.findIn K (.ref xP) "can_begin" = some (some (.ref x_wcan)))
    (i_wcan : PySem.W.isFn K (.ref x_wcan) = true)
    (l_wcan : K.lookup x_wcan = some ⟨oc_wcan, od_wcan, .func (PySem.W.fnOf "can_begin" "WheelBox.can_begin" (defArgs s_wcan) (defBody s_wcan) (defScope s_wcan) .none kV_wcan dc_wcan pm_wcan an_wcan cd_wcan ct_wcan), sl_wcan⟩)
    (c_wcan : PySem.W.codeIn K cd_wcan "WheelBox.can_begin" = true)
    (k_wcan : PySem.W.keepIn K (.ref x_wcan) = true)
    {x_begin : Addr} {od_begin an_begin : Option Addr} {sl_begin : Array (Option Value)} {oc_begin dc_begin pm_begin cd_begin ct_begin : Value}
    {kV_begin : Value}
    (aP_begin : PySem.W.findIn K (.ref xP) "begin" = some (some (.ref x_begin)))
    (aS_begin : PySem.W.findIn K (.ref xS) "begin" = some (some (.ref x_begin)))
    (i_begin : PySem.W.isFn K (.ref x_begin) = true)
    (l_begin : K.lookup x_begin = some ⟨oc_begin, od_begin, .func (PySem.W.fnOf "begin" "WheelBox.begin" (defArgs s_begin) (defBody s_begin) (defScope s_begin) .none kV_begin dc_begin pm_begin an_begin cd_begin ct_begin), sl_begin⟩)
    (c_begin : PySem.W.codeIn K cd_begin "WheelBox.begin" = true)
    (k_begin : PySem.W.keepIn K (.ref x_begin) = true)
    {x_go_on : Addr} {od_go_on an_go_on : Option Addr} {sl_go_on : Array (Option Value)} {oc_go_on dc_go_on pm_go_on cd_go_on ct_go_on : Value}
    {kV_go_on : Value}
    (aP_go_on : PySem.W.findIn K (.ref xP) "go_on" = some (some (.ref x_go_on)))
    (aS_go_on : PySem.W.findIn K (.ref xS) "go_on" = some (some (.ref x_go_on)))
    (i_go_on : PySem.W.isFn K (.ref x_go_on) = true)
    (l_go_on : K.lookup x_go_on = some ⟨oc_go_on, od_go_on, .func (PySem.W.fnOf "go_on" "WheelBox.go_on" (defArgs s_go_on) (defBody s_go_on) (defScope s_go_on) .none kV_go_on dc_go_on pm_go_on an_go_on cd_go_on ct_go_on), sl_go_on⟩)
    (c_go_on : PySem.W.codeIn K cd_go_on "WheelBox.go_on" = true)
    (k_go_on : PySem.W.keepIn K (.ref x_go_on) = true)
    {x_stand_as : Addr} {od_stand_as an_stand_as : Option Addr} {sl_stand_as : Array (Option Value)} {oc_stand_as dc_stand_as pm_stand_as cd_stand_as ct_stand_as : Value}
    {kV_stand_as : Value}
    (aP_stand_as : PySem.W.findIn K (.ref xP) "stand_as" = some (some (.ref x_stand_as)))
    (aS_stand_as : PySem.W.findIn K (.ref xS) "stand_as" = some (some (.ref x_stand_as)))
    (i_stand_as : PySem.W.isFn K (.ref x_stand_as) = true)
    (l_stand_as : K.lookup x_stand_as = some ⟨oc_stand_as, od_stand_as, .func (PySem.W.fnOf "stand_as" "WheelBox.stand_as" (defArgs s_stand_as) (defBody s_stand_as) (defScope s_stand_as) .none kV_stand_as dc_stand_as pm_stand_as an_stand_as cd_stand_as ct_stand_as), sl_stand_as⟩)
    (c_stand_as : PySem.W.codeIn K cd_stand_as "WheelBox.stand_as" = true)
    (k_stand_as : PySem.W.keepIn K (.ref x_stand_as) = true)
    {x_pcall : Addr} {od_pcall an_pcall : Option Addr} {sl_pcall : Array (Option Value)} {oc_pcall dc_pcall pm_pcall cd_pcall ct_pcall : Value}
    {kV_pcall : Value}
    (aP_pcall : PySem.W.findIn K (.ref xP) "__call__" = some (some (.ref x_pcall)))
    (i_pcall : PySem.W.isFn K (.ref x_pcall) = true)
    (l_pcall : K.lookup x_pcall = some ⟨oc_pcall, od_pcall, .func (PySem.W.fnOf "__call__" "PlainBox.__call__" (defArgs s_pcall) (defBody s_pcall) (defScope s_pcall) .none kV_pcall dc_pcall pm_pcall an_pcall cd_pcall ct_pcall), sl_pcall⟩)
    (c_pcall : PySem.W.codeIn K cd_pcall "PlainBox.__call__" = true)
    (k_pcall : PySem.W.keepIn K (.ref x_pcall) = true)
    {x_pcopied : Addr} {od_pcopied an_pcopied : Option Addr} {sl_pcopied : Array (Option Value)} {oc_pcopied dc_pcopied pm_pcopied cd_pcopied ct_pcopied : Value}
    {kV_pcopied : Value}
    (aP_pcopied : PySem.W.findIn K (.ref xP) "copied" = some (some (.ref x_pcopied)))
    (i_pcopied : PySem.W.isFn K (.ref x_pcopied) = true)
    (l_pcopied : K.lookup x_pcopied = some ⟨oc_pcopied, od_pcopied, .func (PySem.W.fnOf "copied" "PlainBox.copied" (defArgs s_pcopied) (defBody s_pcopied) (defScope s_pcopied) .none kV_pcopied dc_pcopied pm_pcopied an_pcopied cd_pcopied ct_pcopied), sl_pcopied⟩)
    (c_pcopied : PySem.W.codeIn K cd_pcopied "PlainBox.copied" = true)
    (k_pcopied : PySem.W.keepIn K (.ref x_pcopied) = true)
    {x_scall : Addr} {od_scall an_scall : Option Addr} {sl_scall : Array (Option Value)} {oc_scall dc_scall pm_scall cd_scall ct_scall : Value}
    {kV_scall : Value}
    (aS_scall : PySem.W.findIn K (.ref xS) "__call__" = some (some (.ref x_scall)))
    (i_scall : PySem.W.isFn K (.ref x_scall) = true)
    (l_scall : K.lookup x_scall = some ⟨oc_scall, od_scall, .func (PySem.W.fnOf "__call__" "ShyBox.__call__" (defArgs s_scall) (defBody s_scall) (defScope s_scall) .none kV_scall dc_scall pm_scall an_scall cd_scall ct_scall), sl_scall⟩)
    (c_scall : PySem.W.codeIn K cd_scall "ShyBox.__call__" = true)
    (k_scall : PySem.W.keepIn K (.ref x_scall) = true)
    {x_scopied : Addr} {od_scopied an_scopied : Option Addr} {sl_scopied : Array (Option Value)} {oc_scopied dc_scopied pm_scopied cd_scopied ct_scopied : Value}
    {kV_scopied : Value}
    (aS_scopied : PySem.W.findIn K (.ref xS) "copied" = some (some (.ref x_scopied)))
    (i_scopied : PySem.W.isFn K (.ref x_scopied) = true)
    (l_scopied : K.lookup x_scopied = some ⟨oc_scopied, od_scopied, .func (PySem.W.fnOf "copied" "ShyBox.copied" (defArgs s_scopied) (defBody s_scopied) (defScope s_scopied) .none kV_scopied dc_scopied pm_scopied an_scopied cd_scopied ct_scopied), sl_scopied⟩)
    (c_scopied : PySem.W.codeIn K cd_scopied "ShyBox.copied" = true)
    (k_scopied : PySem.W.keepIn K (.ref x_scopied) = true)
    {x_wheel : Addr} {od_wheel an_wheel : Option Addr} {sl_wheel : Array (Option Value)} {oc_wheel dc_wheel pm_wheel cd_wheel ct_wheel : Value}
    {kV_wheel : Value}
    (a_wheel : PySem.W.nsIn K mainGlobals "wheel" = some (some (.ref x_wheel)))
    (l_wheel : K.lookup x_wheel = some ⟨oc_wheel, od_wheel, .func (PySem.W.fnOf "wheel" "wheel" (defArgs s_wheel) (defBody s_wheel) (defScope s_wheel) .none kV_wheel dc_wheel pm_wheel an_wheel cd_wheel ct_wheel), sl_wheel⟩)
    (c_wheel : PySem.W.codeIn K cd_wheel "wheel" = true)
    (k_wheel : PySem.W.keepIn K (.ref x_wheel) = true)
    {x_source : Addr} {od_source an_source : Option Addr} {sl_source : Array (Option Value)} {oc_source dc_source pm_source cd_source ct_source : Value}
    {kV_source : Value}
    (a_source : PySem.W.nsIn K mainGlobals "_law_source" = some (some (.ref x_source)))
    (l_source : K.lookup x_source = some ⟨oc_source, od_source, .func (PySem.W.fnOf "_law_source" "_law_source" (defArgs s_source) (defBody s_source) (defScope s_source) .none kV_source dc_source pm_source an_source cd_source ct_source), sl_source⟩)
    (c_source : PySem.W.codeIn K cd_source "_law_source" = true)
    (k_source : PySem.W.keepIn K (.ref x_source) = true)
    {x_draw : Addr} {od_draw an_draw : Option Addr} {sl_draw : Array (Option Value)} {oc_draw dc_draw pm_draw cd_draw ct_draw : Value}
    {kV_draw : Value}
    (a_draw : PySem.W.nsIn K mainGlobals "_law_draw" = some (some (.ref x_draw)))
    (l_draw : K.lookup x_draw = some ⟨oc_draw, od_draw, .func (PySem.W.fnOf "_law_draw" "_law_draw" (defArgs s_draw) (defBody s_draw) (defScope s_draw) .none kV_draw dc_draw pm_draw an_draw cd_draw ct_draw), sl_draw⟩)
    (c_draw : PySem.W.codeIn K cd_draw "_law_draw" = true)
    (k_draw : PySem.W.keepIn K (.ref x_draw) = true)
    {x_number : Addr} {od_number an_number : Option Addr} {sl_number : Array (Option Value)} {oc_number dc_number pm_number cd_number ct_number : Value}
    {kV_number : Value}
    (a_number : PySem.W.nsIn K mainGlobals "_law_number" = some (some (.ref x_number)))
    (l_number : K.lookup x_number = some ⟨oc_number, od_number, .func (PySem.W.fnOf "_law_number" "_law_number" (defArgs s_number) (defBody s_number) (defScope s_number) .none kV_number dc_number pm_number an_number cd_number ct_number), sl_number⟩)
    (c_number : PySem.W.codeIn K cd_number "_law_number" = true)
    (k_number : PySem.W.keepIn K (.ref x_number) = true)
    {x_times : Addr} {od_times an_times : Option Addr} {sl_times : Array (Option Value)} {oc_times dc_times pm_times cd_times ct_times : Value}
    {kV_times : Value}
    (a_times : PySem.W.nsIn K mainGlobals "_law_times" = some (some (.ref x_times)))
    (l_times : K.lookup x_times = some ⟨oc_times, od_times, .func (PySem.W.fnOf "_law_times" "_law_times" (defArgs s_times) (defBody s_times) (defScope s_times) .none kV_times dc_times pm_times an_times cd_times ct_times), sl_times⟩)
    (c_times : PySem.W.codeIn K cd_times "_law_times" = true)
    (k_times : PySem.W.keepIn K (.ref x_times) = true)
    {x_row : Addr} {od_row an_row : Option Addr} {sl_row : Array (Option Value)} {oc_row dc_row pm_row cd_row ct_row : Value}
    {kV_row : Value}
    (a_row : PySem.W.nsIn K mainGlobals "_law_row" = some (some (.ref x_row)))
    (l_row : K.lookup x_row = some ⟨oc_row, od_row, .func (PySem.W.fnOf "_law_row" "_law_row" (defArgs s_row) (defBody s_row) (defScope s_row) .none kV_row dc_row pm_row an_row cd_row ct_row), sl_row⟩)
    (c_row : PySem.W.codeIn K cd_row "_law_row" = true)
    (k_row : PySem.W.keepIn K (.ref x_row) = true)
    {x_bool : Addr} {od_bool an_bool : Option Addr} {sl_bool : Array (Option Value)} {oc_bool dc_bool pm_bool cd_bool ct_bool : Value}
    {kV_bool : Value}
    (a_bool : PySem.W.nsIn K mainGlobals "_law_bool" = some (some (.ref x_bool)))
    (l_bool : K.lookup x_bool = some ⟨oc_bool, od_bool, .func (PySem.W.fnOf "_law_bool" "_law_bool" (defArgs s_bool) (defBody s_bool) (defScope s_bool) .none kV_bool dc_bool pm_bool an_bool cd_bool ct_bool), sl_bool⟩)
    (c_bool : PySem.W.codeIn K cd_bool "_law_bool" = true)
    (k_bool : PySem.W.keepIn K (.ref x_bool) = true)
    {x_begins : Addr} {od_begins an_begins : Option Addr} {sl_begins : Array (Option Value)} {oc_begins dc_begins pm_begins cd_begins ct_begins : Value}
    {kV_begins : Value}
    (a_begins : PySem.W.nsIn K mainGlobals "_law_begins" = some (some (.ref x_begins)))
    (l_begins : K.lookup x_begins = some ⟨oc_begins, od_begins, .func (PySem.W.fnOf "_law_begins" "_law_begins" (defArgs s_begins) (defBody s_begins) (defScope s_begins) .none kV_begins dc_begins pm_begins an_begins cd_begins ct_begins), sl_begins⟩)
    (c_begins : PySem.W.codeIn K cd_begins "_law_begins" = true)
    (k_begins : PySem.W.keepIn K (.ref x_begins) = true)
    {x_behind : Addr} {od_behind an_behind : Option Addr} {sl_behind : Array (Option Value)} {oc_behind dc_behind pm_behind cd_behind ct_behind : Value}
    {kV_behind : Value}
    (a_behind : PySem.W.nsIn K mainGlobals "_law_behind" = some (some (.ref x_behind)))
    (l_behind : K.lookup x_behind = some ⟨oc_behind, od_behind, .func (PySem.W.fnOf "_law_behind" "_law_behind" (defArgs s_behind) (defBody s_behind) (defScope s_behind) .none kV_behind dc_behind pm_behind an_behind cd_behind ct_behind), sl_behind⟩)
    (c_behind : PySem.W.codeIn K cd_behind "_law_behind" = true)
    (k_behind : PySem.W.keepIn K (.ref x_behind) = true)
    {x_stands : Addr} {od_stands an_stands : Option Addr} {sl_stands : Array (Option Value)} {oc_stands dc_stands pm_stands cd_stands ct_stands : Value}
    {kV_stands : Value}
    (a_stands : PySem.W.nsIn K mainGlobals "_law_stands" = some (some (.ref x_stands)))
    (l_stands : K.lookup x_stands = some ⟨oc_stands, od_stands, .func (PySem.W.fnOf "_law_stands" "_law_stands" (defArgs s_stands) (defBody s_stands) (defScope s_stands) .none kV_stands dc_stands pm_stands an_stands cd_stands ct_stands), sl_stands⟩)
    (c_stands : PySem.W.codeIn K cd_stands "_law_stands" = true)
    (k_stands : PySem.W.keepIn K (.ref x_stands) = true)
    {x_pulled : Addr} {od_pulled an_pulled : Option Addr} {sl_pulled : Array (Option Value)} {oc_pulled dc_pulled pm_pulled cd_pulled ct_pulled : Value}
    {kV_pulled : Value}
    (a_pulled : PySem.W.nsIn K mainGlobals "_law_pulled" = some (some (.ref x_pulled)))
    (l_pulled : K.lookup x_pulled = some ⟨oc_pulled, od_pulled, .func (PySem.W.fnOf "_law_pulled" "_law_pulled" (defArgs s_pulled) (defBody s_pulled) (defScope s_pulled) .none kV_pulled dc_pulled pm_pulled an_pulled cd_pulled ct_pulled), sl_pulled⟩)
    (c_pulled : PySem.W.codeIn K cd_pulled "_law_pulled" = true)
    (k_pulled : PySem.W.keepIn K (.ref x_pulled) = true)
    {x_ticked : Addr} {od_ticked an_ticked : Option Addr} {sl_ticked : Array (Option Value)} {oc_ticked dc_ticked pm_ticked cd_ticked ct_ticked : Value}
    {kV_ticked : Value}
    (a_ticked : PySem.W.nsIn K mainGlobals "_law_ticked" = some (some (.ref x_ticked)))
    (l_ticked : K.lookup x_ticked = some ⟨oc_ticked, od_ticked, .func (PySem.W.fnOf "_law_ticked" "_law_ticked" (defArgs s_ticked) (defBody s_ticked) (defScope s_ticked) .none kV_ticked dc_ticked pm_ticked an_ticked cd_ticked ct_ticked), sl_ticked⟩)
    (c_ticked : PySem.W.codeIn K cd_ticked "_law_ticked" = true)
    (k_ticked : PySem.W.keepIn K (.ref x_ticked) = true)
    {x_walk : Addr} {od_walk an_walk : Option Addr} {sl_walk : Array (Option Value)} {oc_walk dc_walk pm_walk cd_walk ct_walk : Value}
    {kV_walk : Value}
    (a_walk : PySem.W.nsIn K mainGlobals "_law_walk" = some (some (.ref x_walk)))
    (l_walk : K.lookup x_walk = some ⟨oc_walk, od_walk, .func (PySem.W.fnOf "_law_walk" "_law_walk" (defArgs s_walk) (defBody s_walk) (defScope s_walk) .none kV_walk dc_walk pm_walk an_walk cd_walk ct_walk), sl_walk⟩)
    (c_walk : PySem.W.codeIn K cd_walk "_law_walk" = true)
    (k_walk : PySem.W.keepIn K (.ref x_walk) = true)
    {x_kind : Addr} {od_kind an_kind : Option Addr} {sl_kind : Array (Option Value)} {oc_kind dc_kind pm_kind cd_kind ct_kind : Value}
    {kV_kind : Value}
    (a_kind : PySem.W.nsIn K mainGlobals "_law_kind" = some (some (.ref x_kind)))
    (l_kind : K.lookup x_kind = some ⟨oc_kind, od_kind, .func (PySem.W.fnOf "_law_kind" "_law_kind" (defArgs s_kind) (defBody s_kind) (defScope s_kind) .none kV_kind dc_kind pm_kind an_kind cd_kind ct_kind), sl_kind⟩)
    (c_kind : PySem.W.codeIn K cd_kind "_law_kind" = true)
    (k_kind : PySem.W.keepIn K (.ref x_kind) = true)
    {x_copy : Addr} {od_copy an_copy : Option Addr} {sl_copy : Array (Option Value)} {oc_copy dc_copy pm_copy cd_copy ct_copy : Value}
    {kV_copy : Value}
    (a_copy : PySem.W.nsIn K mainGlobals "_law_copy" = some (some (.ref x_copy)))
    (l_copy : K.lookup x_copy = some ⟨oc_copy, od_copy, .func (PySem.W.fnOf "_law_copy" "_law_copy" (defArgs s_copy) (defBody s_copy) (defScope s_copy) .none kV_copy dc_copy pm_copy an_copy cd_copy ct_copy), sl_copy⟩)
    (c_copy : PySem.W.codeIn K cd_copy "_law_copy" = true)
    (k_copy : PySem.W.keepIn K (.ref x_copy) = true)
    {x_law : Addr} {od_law an_law : Option Addr} {sl_law : Array (Option Value)} {oc_law dc_law pm_law cd_law ct_law : Value}
    {kV_law : Value}
    (a_law : PySem.W.nsIn K mainGlobals "law" = some (some (.ref x_law)))
    (l_law : K.lookup x_law = some ⟨oc_law, od_law, .func (PySem.W.fnOf "law" "law" (defArgs s_law) (defBody s_law) (defScope s_law) .none kV_law dc_law pm_law an_law cd_law ct_law), sl_law⟩)
    (c_law : PySem.W.codeIn K cd_law "law" = true)
    (k_law : PySem.W.keepIn K (.ref x_law) = true)
    (pgP : PySem.W.plainGet K xP Str.empty = true)
    (hdP : PySem.W.hasDictIn K xP = true)
    (poP : PySem.W.plainOver K xP = true)
    (saP : PySem.W.findIn K (.ref xP) "__setattr__" = some (some (.builtin "object.__setattr__")))
    (mkP : PySem.W.makesIn K xP = true)
    (kcP : PySem.W.keepIn K (.ref xP) = true)
    (pgS : PySem.W.plainGet K xS Str.empty = true)
    (hdS : PySem.W.hasDictIn K xS = true)
    (poS : PySem.W.plainOver K xS = true)
    (saS : PySem.W.findIn K (.ref xS) "__setattr__" = some (some (.builtin "object.__setattr__")))
    (mkS : PySem.W.makesIn K xS = true)
    (kcS : PySem.W.keepIn K (.ref xS) = true)
    {xW xT : Addr}
    (aW : PySem.W.nsIn K mainGlobals "WheelBox" = some (some (.ref xW)))
    (aT : PySem.W.nsIn K mainGlobals "Town" = some (some (.ref xT)))
    {tPl : Tok}
    (vPl : PySem.W.findCls K (.ref xT) (.type "type") "PLAIN" = some (.val (.str "plain" tPl)))
    (rdT : PySem.W.readsIn K xT (.type "type") = true)
    (gaT : PySem.W.specialIn K (.ref xT) "__getattribute__" = some (some (.builtin "type.__getattribute__")))
    (icn : PySem.W.specialIn K (.builtin "object.__class__") "__get__" = some (some (.builtin "getset_descriptor.__get__")))
    (ict : PySem.W.takesIn K (.builtin "object.__class__") = some true)
    (icaP : PySem.W.findIn K (.ref xP) "__class__" = some (some (.builtin "object.__class__")))
    (icmP : PySem.W.mroIn K xP (.type "object") = some true)
    (nPnumber : PySem.W.findIn K (.ref xP) "number" = some none)
    (nProunds : PySem.W.findIn K (.ref xP) "_rounds" = some none)
    (nProw : PySem.W.findIn K (.ref xP) "_row" = some none)
    (nPleft : PySem.W.findIn K (.ref xP) "_left" = some none)
    (nPsent : PySem.W.findIn K (.ref xP) "_sent" = some none)
    (nPplace : PySem.W.findIn K (.ref xP) "_place" = some none)
    (nPquiet : PySem.W.findIn K (.ref xP) "_quiet" = some none)
    (icaS : PySem.W.findIn K (.ref xS) "__class__" = some (some (.builtin "object.__class__")))
    (icmS : PySem.W.mroIn K xS (.type "object") = some true)
    (nSnumber : PySem.W.findIn K (.ref xS) "number" = some none)
    (nSrounds : PySem.W.findIn K (.ref xS) "_rounds" = some none)
    (nSrow : PySem.W.findIn K (.ref xS) "_row" = some none)
    (nSleft : PySem.W.findIn K (.ref xS) "_left" = some none)
    (nSsent : PySem.W.findIn K (.ref xS) "_sent" = some none)
    (nSplace : PySem.W.findIn K (.ref xS) "_place" = some none)
    (nSquiet : PySem.W.findIn K (.ref xS) "_quiet" = some none)
    (kPW : PySem.W.kitOne K (.ref xP) (.ref xW) = some true)
    (kSW : PySem.W.kitOne K (.ref xS) (.ref xW) = some true)
    (kPS : PySem.W.kitOne K (.ref xP) (.ref xS) = some false)
    (kSS : PySem.W.kitOne K (.ref xS) (.ref xS) = some true)
    (kPP : PySem.W.kitOne K (.ref xP) (.ref xP) = some true)
    (kSP : PySem.W.kitOne K (.ref xS) (.ref xP) = some false)
    (nePS : xP ≠ xS)
    (fi_pcall : PySem.W.fnIn K x_pcall = true)
    (fi_scall : PySem.W.fnIn K x_scall = true)
    {x_scan : Addr} {kVs docs pms cts ocs ccls cls2 : Value} {ans ods cdds clds : Option Addr} {osls ccss csls : Array (Option Value)} {cdas ccs2 : Addr} {vscs : Array Value} {files : Str} {tfs : Tok} {cdCs : ClassData}
    (aS_scan : PySem.W.findIn K (.ref xS) "can_begin" = some (some (.ref x_scan)))
    (i_scan : PySem.W.isFn K (.ref x_scan) = true)
    (k_scan : PySem.W.keepIn K (.ref x_scan) = true)
    (l_scan : K.lookup x_scan = some ⟨ocs, ods, .func (PySem.W.ksFn "can_begin" "ShyBox.can_begin" (defArgs s_scan) (defBody s_scan) (defScope s_scan) .none kVs docs pms ans (.ref cdas) cts ccs2), osls⟩)
    (c_scan : PySem.W.codeIn K (.ref cdas) "ShyBox.can_begin" = true)
    (lc_scan : K.lookup cdas = some ⟨ccls, cdds, .fields vscs, ccss⟩)
    (v_scan : vscs[2]? = some (.str files tfs))
    (f_scan : ((l.prog.main.file : Str) == files) = true)
    (cc_scan : K.lookup ccs2 = some ⟨cls2, clds, .cell (some (.ref xS)), csls⟩)
    (ci_scan : PySem.W.clsIn K xS = some cdCs)
    (su_sub : PySem.W.mroIn K xS (.ref xS) = some true)
    (su_top : (l.prog.main.scope.names.lookup ("super" : Str)).isSome = false)
    (su_mg : PySem.W.nsIn K mainGlobals "super" = some none)
    (su_stat : PySem.W.nsIn K cStatics "thirdparty.any" = some none)
    (su_sup : PySem.W.ks_superIn K xS xS "can_begin" = some (some (.ref x_wcan)))
    (su_ty : PySem.W.typeIn K (.ref x_wcan) = some (.type "function"))
    (su_fn : PySem.W.fnIn K x_wcan = true)
    {t_DIGITS : Tok}
    (n_DIGITS : PySem.W.nsIn K mainGlobals "DIGITS" = some (some (.str "123456789" t_DIGITS)))
    {t_MOST_DIGITS : Tok}
    (n_MOST_DIGITS : PySem.W.nsIn K mainGlobals "MOST_DIGITS" = some (some (.int 4 t_MOST_DIGITS)))
    {t_GREATEST_SUM : Tok}
    (n_GREATEST_SUM : PySem.W.nsIn K mainGlobals "GREATEST_SUM" = some (some (.int 24 t_GREATEST_SUM)))
    {t_MOST_LOOPS : Tok}
    (n_MOST_LOOPS : PySem.W.nsIn K mainGlobals "MOST_LOOPS" = some (some (.int 3 t_MOST_LOOPS)))
    {t_MOST_BOXES : Tok}
    (n_MOST_BOXES : PySem.W.nsIn K mainGlobals "MOST_BOXES" = some (some (.int 10 t_MOST_BOXES)))
    {t_MOST_ROUNDS : Tok}
    (n_MOST_ROUNDS : PySem.W.nsIn K mainGlobals "MOST_ROUNDS" = some (some (.int 8 t_MOST_ROUNDS)))
    {t_QUIET_AHEAD : Tok}
    (n_QUIET_AHEAD : PySem.W.nsIn K mainGlobals "QUIET_AHEAD" = some (some (.int 8 t_QUIET_AHEAD)))
    {t_MOST_QUIET : Tok}
    (n_MOST_QUIET : PySem.W.nsIn K mainGlobals "MOST_QUIET" = some (some (.int 16 t_MOST_QUIET)))
    (z_abs : PySem.W.nsIn K mainGlobals "abs" = some none)
    (z_all : PySem.W.nsIn K mainGlobals "all" = some none)
    (z_bool : PySem.W.nsIn K mainGlobals "bool" = some none)
    (z_int : PySem.W.nsIn K mainGlobals "int" = some none)
    (z_isinstance : PySem.W.nsIn K mainGlobals "isinstance" = some none)
    (z_len : PySem.W.nsIn K mainGlobals "len" = some none)
    (z_min : PySem.W.nsIn K mainGlobals "min" = some none)
    (z_range : PySem.W.nsIn K mainGlobals "range" = some none)
    (z_repr : PySem.W.nsIn K mainGlobals "repr" = some none)
    (z_str : PySem.W.nsIn K mainGlobals "str" = some none)
    (z_sum : PySem.W.nsIn K mainGlobals "sum" = some none)
    (z_tuple : PySem.W.nsIn K mainGlobals "tuple" = some none)
    : ∃ fd : FuncData, (∀ (s : Shared) (v : Value), BindsTo s fd ⟨[v], []⟩ [("_law_script", v)]) ∧ ∀ base : Heap, K.In base → base.Ns mainGlobals mg → Rp.GOk l.prog w K mg base CX0 10 fa fd ["_law_script"] (sp_law K) := by
  have e := hfa.symm.trans (PySem.W.mg_of X G a_law)
  cases e
  have F_is_number := fun_mk (st := s_is_number) l_is_number c_is_number k_is_number
  have b_is_number := F_is_number.binds (ps := ["thing"]) fun _ _ _ _ _ _ us hl => match us, hl with | [_], _ => rfl
  have F_check_number := fun_mk (st := s_check_number) l_check_number c_check_number k_check_number
  have b_check_number := F_check_number.binds (ps := ["thing"]) fun _ _ _ _ _ _ us hl => match us, hl with | [_], _ => rfl
  have F_blocks := fun_mk (st := s_blocks) l_blocks c_blocks k_blocks
  have b_blocks := F_blocks.binds (ps := ["number"]) fun _ _ _ _ _ _ us hl => match us, hl with | [_], _ => rfl
  have F_row_of := fun_mk (st := s_row_of) l_row_of c_row_of k_row_of
  have b_row_of := F_row_of.binds (ps := ["number"]) fun _ _ _ _ _ _ us hl => match us, hl with | [_], _ => rfl
  have F_init := fun_mk (st := s_init) l_init c_init k_init
  have b_init := F_init.binds (ps := ["self", "number", "rounds"]) fun _ _ _ _ _ _ us hl => match us, hl with | [_, _, _], _ => rfl
  have F_standing := fun_mk (st := s_standing) l_standing c_standing k_standing
  have b_standing := F_standing.binds (ps := ["self"]) fun _ _ _ _ _ _ us hl => match us, hl with | [_], _ => rfl
  have F_breaks := fun_mk (st := s_breaks) l_breaks c_breaks k_breaks
  have b_breaks := F_breaks.binds (ps := ["self"]) fun _ _ _ _ _ _ us hl => match us, hl with | [_], _ => rfl
  have F_pull := fun_mk (st := s_pull) l_pull c_pull k_pull
  have b_pull := F_pull.binds (ps := ["self"]) fun _ _ _ _ _ _ us hl => match us, hl with | [_], _ => rfl
  have F_wcan := fun_mk (st := s_wcan) l_wcan c_wcan k_wcan
  have b_wcan := F_wcan.binds (ps := ["self"]) fun _ _ _ _ _ _ us hl => match us, hl with | [_], _ => rfl
  have F_begin := fun_mk (st := s_begin) l_begin c_begin k_begin
  have b_begin := F_begin.binds (ps := ["self"]) fun _ _ _ _ _ _ us hl => match us, hl with | [_], _ => rfl
  have F_go_on := fun_mk (st := s_go_on) l_go_on c_go_on k_go_on
  have b_go_on := F_go_on.binds (ps := ["self"]) fun _ _ _ _ _ _ us hl => match us, hl with | [_], _ => rfl
  have F_stand_as := fun_mk (st := s_stand_as) l_stand_as c_stand_as k_stand_as
  have b_stand_as := F_stand_as.binds (ps := ["self", "other"]) fun _ _ _ _ _ _ us hl => match us, hl with | [_, _], _ => rfl
  have F_pcall := fun_mk (st := s_pcall) l_pcall c_pcall k_pcall
  have b_pcall := F_pcall.binds (ps := ["self", "broken"]) fun _ _ _ _ _ _ us hl => match us, hl with | [_, _], _ => rfl
  have F_pcopied := fun_mk (st := s_pcopied) l_pcopied c_pcopied k_pcopied
  have b_pcopied := F_pcopied.binds (ps := ["self"]) fun _ _ _ _ _ _ us hl => match us, hl with | [_], _ => rfl
  have F_scall := fun_mk (st := s_scall) l_scall c_scall k_scall
  have b_scall := F_scall.binds (ps := ["self", "broken"]) fun _ _ _ _ _ _ us hl => match us, hl with | [_, _], _ => rfl
  have F_scopied := fun_mk (st := s_scopied) l_scopied c_scopied k_scopied
  have b_scopied := F_scopied.binds (ps := ["self"]) fun _ _ _ _ _ _ us hl => match us, hl with | [_], _ => rfl
  have F_wheel := fun_mk (st := s_wheel) l_wheel c_wheel k_wheel
  have b_wheel := F_wheel.binds (ps := ["number", "sort", "rounds"]) fun _ _ _ _ _ _ us hl => match us, hl with | [_, _, _], _ => rfl
  have F_source := fun_mk (st := s_source) l_source c_source k_source
  have b_source := F_source.binds (ps := ["_law_script"]) fun _ _ _ _ _ _ us hl => match us, hl with | [_], _ => rfl
  have F_draw := fun_mk (st := s_draw) l_draw c_draw k_draw
  have b_draw := F_draw.binds (ps := ["_law_source_here", "_law_many"]) fun _ _ _ _ _ _ us hl => match us, hl with | [_, _], _ => rfl
  have F_number := fun_mk (st := s_number) l_number c_number k_number
  have b_number := F_number.binds (ps := ["_law_source_here"]) fun _ _ _ _ _ _ us hl => match us, hl with | [_], _ => rfl
  have F_times := fun_mk (st := s_times) l_times c_times k_times
  have b_times := F_times.binds (ps := ["_law_source_here"]) fun _ _ _ _ _ _ us hl => match us, hl with | [_], _ => rfl
  have F_row := fun_mk (st := s_row) l_row c_row k_row
  have b_row := F_row.binds (ps := ["_law_number_here"]) fun _ _ _ _ _ _ us hl => match us, hl with | [_], _ => rfl
  have F_bool := fun_mk (st := s_bool) l_bool c_bool k_bool
  have b_bool := F_bool.binds (ps := ["_law_thing", "_law_due"]) fun _ _ _ _ _ _ us hl => match us, hl with | [_, _], _ => rfl
  have F_begins := fun_mk (st := s_begins) l_begins c_begins k_begins
  have b_begins := F_begins.binds (ps := ["_law_model", "_law_sort"]) fun _ _ _ _ _ _ us hl => match us, hl with | [_, _], _ => rfl
  have F_behind := fun_mk (st := s_behind) l_behind c_behind k_behind
  have b_behind := F_behind.binds (ps := ["_law_model", "_law_sort", "_law_row_here", "_law_broken"]) fun _ _ _ _ _ _ us hl => match us, hl with | [_, _, _, _], _ => rfl
  have F_stands := fun_mk (st := s_stands) l_stands c_stands k_stands
  have b_stands := F_stands.binds (ps := ["_law_box", "_law_model"]) fun _ _ _ _ _ _ us hl => match us, hl with | [_, _], _ => rfl
  have F_pulled := fun_mk (st := s_pulled) l_pulled c_pulled k_pulled
  have b_pulled := F_pulled.binds (ps := ["_law_box", "_law_model", "_law_times_here"]) fun _ _ _ _ _ _ us hl => match us, hl with | [_, _, _], _ => rfl
  have F_ticked := fun_mk (st := s_ticked) l_ticked c_ticked k_ticked
  have b_ticked := F_ticked.binds (ps := ["_law_box", "_law_model", "_law_sort", "_law_row_here", "_law_mode", "_law_broken"]) fun _ _ _ _ _ _ us hl => match us, hl with | [_, _, _, _, _, _], _ => rfl
  have F_walk := fun_mk (st := s_walk) l_walk c_walk k_walk
  have b_walk := F_walk.binds (ps := ["_law_source_here", "_law_box", "_law_model", "_law_sort", "_law_row_here"]) fun _ _ _ _ _ _ us hl => match us, hl with | [_, _, _, _, _], _ => rfl
  have F_kind := fun_mk (st := s_kind) l_kind c_kind k_kind
  have b_kind := F_kind.binds (ps := ["_law_box", "_law_sort"]) fun _ _ _ _ _ _ us hl => match us, hl with | [_, _], _ => rfl
  have F_copy := fun_mk (st := s_copy) l_copy c_copy k_copy
  have b_copy := F_copy.binds (ps := ["_law_source_here", "_law_one"]) fun _ _ _ _ _ _ us hl => match us, hl with | [_, _], _ => rfl
  have F_law := fun_mk (st := s_law) l_law c_law k_law
  have b_law := F_law.binds (ps := ["_law_script"]) fun _ _ _ _ _ _ us hl => match us, hl with | [_], _ => rfl
  have T : Σ' T : Txt l.prog K mg, T.a_law = fa ∧ T.d_law = PySem.W.fnOf "law" "law" (defArgs s_law) (defBody s_law) (defScope s_law) .none kV_law dc_law pm_law an_law cd_law ct_law :=
    ⟨{ PB := xP, gPB := PySem.W.mg_of X G axP, clPB := ⟨pgP, hdP, poP, saP⟩,
        SB := xS, gSB := PySem.W.mg_of X G axS, clSB := ⟨pgS, hdS, poS, saS⟩,
        WB := xW, gWB := PySem.W.mg_of X G aW, TC := xT, gTC := PySem.W.mg_of X G aT, mcT := .type "type", rdT := ⟨rdT, gaT⟩, uPl := _, vPl := ⟨vPl, ⟨_, rfl⟩⟩,
        na := (fun C hC f hf => by simp only [List.mem_cons, List.not_mem_nil, or_false] at hf; rcases hC with rfl | rfl <;> rcases hf with rfl | rfl | rfl | rfl | rfl | rfl | rfl <;> assumption),
        isP := ⟨icaP, icn, ict, icmP⟩, isS := ⟨icaS, icn, ict, icmS⟩, kPW := kPW, kSW := kSW, kPS := kPS, kSS := kSS, kPP := kPP, kSP := kSP, PBne := nePS,
        a_scan := x_scan, d_scan := _, mS_scan := ⟨aS_scan, i_scan, k_scan⟩, b_scan := Binds.all fun us hl => match us, hl with | [_], _ => rfl,
        su := ⟨⟨kVs, docs, pms, cts, ocs, ccls, cls2, ans, ods, cdds, clds, osls, ccss, csls, cdas, ccs2, vscs, files, tfs, cdCs, rfl, l_scan, c_scan, lc_scan, v_scan, f_scan, cc_scan, ci_scan⟩, su_sub, PySem.W.mg_none_of X G su_mg, su_top, su_stat, su_sup, su_ty, su_fn⟩,
        a_is_number := _, d_is_number := _, F_is_number := F_is_number, b_is_number := b_is_number, g_is_number := PySem.W.mg_of X G a_is_number,
        a_check_number := _, d_check_number := _, F_check_number := F_check_number, b_check_number := b_check_number, g_check_number := PySem.W.mg_of X G a_check_number,
        a_blocks := _, d_blocks := _, F_blocks := F_blocks, b_blocks := b_blocks, g_blocks := PySem.W.mg_of X G a_blocks,
        a_row_of := _, d_row_of := _, F_row_of := F_row_of, b_row_of := b_row_of, g_row_of := PySem.W.mg_of X G a_row_of,
        a_init := _, d_init := _, F_init := F_init, b_init := b_init, mkP := ⟨mkP, aP_init, i_init, kcP⟩, mkS := ⟨mkS, aS_init, i_init, kcS⟩,
        a_standing := _, d_standing := _, F_standing := F_standing, b_standing := b_standing, pyst := y_standing, pP_standing := ⟨pa_standing, pg_standing, pt_standing, rs_standing, pr_standing⟩, pS_standing := ⟨pb_standing, pg_standing, pt_standing, rs_standing, pr_standing⟩,
        a_breaks := _, d_breaks := _, F_breaks := F_breaks, b_breaks := b_breaks, pybr := y_breaks, pP_breaks := ⟨pa_breaks, pg_breaks, pt_breaks, rs_breaks, pr_breaks⟩, pS_breaks := ⟨pb_breaks, pg_breaks, pt_breaks, rs_breaks, pr_breaks⟩,
        a_pull := _, d_pull := _, F_pull := F_pull, b_pull := b_pull, mP_pull := ⟨aP_pull, i_pull, k_pull⟩, mS_pull := ⟨aS_pull, i_pull, k_pull⟩,
        a_wcan := _, d_wcan := _, F_wcan := F_wcan, b_wcan := b_wcan, mP_wcan := ⟨aP_wcan, i_wcan, k_wcan⟩,
        a_begin := _, d_begin := _, F_begin := F_begin, b_begin := b_begin, mP_begin := ⟨aP_begin, i_begin, k_begin⟩, mS_begin := ⟨aS_begin, i_begin, k_begin⟩,
        a_go_on := _, d_go_on := _, F_go_on := F_go_on, b_go_on := b_go_on, mP_go_on := ⟨aP_go_on, i_go_on, k_go_on⟩, mS_go_on := ⟨aS_go_on, i_go_on, k_go_on⟩,
        a_stand_as := _, d_stand_as := _, F_stand_as := F_stand_as, b_stand_as := b_stand_as, mP_stand_as := ⟨aP_stand_as, i_stand_as, k_stand_as⟩, mS_stand_as := ⟨aS_stand_as, i_stand_as, k_stand_as⟩,
        a_pcall := _, d_pcall := _, F_pcall := F_pcall, b_pcall := b_pcall, cP := ⟨aP_pcall, i_pcall, fi_pcall⟩,
        a_pcopied := _, d_pcopied := _, F_pcopied := F_pcopied, b_pcopied := b_pcopied, mP_pcopied := ⟨aP_pcopied, i_pcopied, k_pcopied⟩,
        a_scall := _, d_scall := _, F_scall := F_scall, b_scall := b_scall, cS := ⟨aS_scall, i_scall, fi_scall⟩,
        a_scopied := _, d_scopied := _, F_scopied := F_scopied, b_scopied := b_scopied, mS_scopied := ⟨aS_scopied, i_scopied, k_scopied⟩,
        a_wheel := _, d_wheel := _, F_wheel := F_wheel, b_wheel := b_wheel, g_wheel := PySem.W.mg_of X G a_wheel,
        a_source := _, d_source := _, F_source := F_source, b_source := b_source, g_source := PySem.W.mg_of X G a_source,
        a_draw := _, d_draw := _, F_draw := F_draw, b_draw := b_draw, g_draw := PySem.W.mg_of X G a_draw,
        a_number := _, d_number := _, F_number := F_number, b_number := b_number, g_number := PySem.W.mg_of X G a_number,
        a_times := _, d_times := _, F_times := F_times, b_times := b_times, g_times := PySem.W.mg_of X G a_times,
        a_row := _, d_row := _, F_row := F_row, b_row := b_row, g_row := PySem.W.mg_of X G a_row,
        a_bool := _, d_bool := _, F_bool := F_bool, b_bool := b_bool, g_bool := PySem.W.mg_of X G a_bool,
        a_begins := _, d_begins := _, F_begins := F_begins, b_begins := b_begins, g_begins := PySem.W.mg_of X G a_begins,
        a_behind := _, d_behind := _, F_behind := F_behind, b_behind := b_behind, g_behind := PySem.W.mg_of X G a_behind,
        a_stands := _, d_stands := _, F_stands := F_stands, b_stands := b_stands, g_stands := PySem.W.mg_of X G a_stands,
        a_pulled := _, d_pulled := _, F_pulled := F_pulled, b_pulled := b_pulled, g_pulled := PySem.W.mg_of X G a_pulled,
        a_ticked := _, d_ticked := _, F_ticked := F_ticked, b_ticked := b_ticked, g_ticked := PySem.W.mg_of X G a_ticked,
        a_walk := _, d_walk := _, F_walk := F_walk, b_walk := b_walk, g_walk := PySem.W.mg_of X G a_walk,
        a_kind := _, d_kind := _, F_kind := F_kind, b_kind := b_kind, g_kind := PySem.W.mg_of X G a_kind,
        a_copy := _, d_copy := _, F_copy := F_copy, b_copy := b_copy, g_copy := PySem.W.mg_of X G a_copy,
        a_law := _, d_law := _, F_law := F_law, b_law := b_law, g_law := PySem.W.mg_of X G a_law,
        t_DIGITS := _, c_DIGITS := PySem.W.mg_of X G n_DIGITS,
        t_MOST_DIGITS := _, c_MOST_DIGITS := PySem.W.mg_of X G n_MOST_DIGITS,
        t_GREATEST_SUM := _, c_GREATEST_SUM := PySem.W.mg_of X G n_GREATEST_SUM,
        t_MOST_LOOPS := _, c_MOST_LOOPS := PySem.W.mg_of X G n_MOST_LOOPS,
        t_MOST_BOXES := _, c_MOST_BOXES := PySem.W.mg_of X G n_MOST_BOXES,
        t_MOST_ROUNDS := _, c_MOST_ROUNDS := PySem.W.mg_of X G n_MOST_ROUNDS,
        t_QUIET_AHEAD := _, c_QUIET_AHEAD := PySem.W.mg_of X G n_QUIET_AHEAD,
        t_MOST_QUIET := _, c_MOST_QUIET := PySem.W.mg_of X G n_MOST_QUIET,
        z_abs := PySem.W.mg_none_of X G z_abs,
        z_all := PySem.W.mg_none_of X G z_all,
        z_bool := PySem.W.mg_none_of X G z_bool,
        z_int := PySem.W.mg_none_of X G z_int,
        z_isinstance := PySem.W.mg_none_of X G z_isinstance,
        z_len := PySem.W.mg_none_of X G z_len,
        z_min := PySem.W.mg_none_of X G z_min,
        z_range := PySem.W.mg_none_of X G z_range,
        z_repr := PySem.W.mg_none_of X G z_repr,
        z_str := PySem.W.mg_none_of X G z_str,
        z_sum := PySem.W.mg_none_of X G z_sum,
        z_tuple := PySem.W.mg_none_of X G z_tuple }, rfl, rfl⟩
  obtain ⟨T, e1, e2⟩ := T
  subst e1
  refine ⟨T.d_law, fun s v => by rw [e2]; exact .of_eq rfl, fun base _ _ => ok_law T⟩
theorem walk {l : PySem.W.OpenLaw} {q : Program} {loose : List Str} {XP : (Str → Option Value) → Heap → Prop} {YP : World → Heap → Prop} {d : DefRec} {K : Params → PySem.W.Frag} (hn : l.most = some 63) (hdf : d.params.defaults = [])
    (hY : ∀ (w : World) (h : Heap), YP w h → (K w.params).In h)
    (F : ∀ (w : World) (mg : Str → Option Value) (fa : Addr) (h : Heap), (K w.params).In h → h.Ns mainGlobals mg → mg d.name = some (.ref fa) →
      ∃ fd : FuncData, (∀ (s : Shared) (u : Value), BindsTo s fd ⟨[u], []⟩ [("_law_script", u)]) ∧ ∀ base : Heap, (K w.params).In base → base.Ns mainGlobals mg → Rp.GOk l.prog w (K w.params) mg base CX0 10 fa fd ["_law_script"] (sp_law (K w.params))) :
    PySem.W.WalkO q loose XP YP l.row.toRowW d [] (fun f vs => PySem.call f vs) :=
  Rp.walk_gof (n := 63) (k := 10) (x := "_law_script") (CX := fun _ => CX0) (sp := fun w => sp_law (K w.params)) hn (by decide) hdf ⟨rfl, by decide, by decide⟩ hY F (fun w H a ns hl _ hS => ⟨a, ns, rfl, hS, hl, fun _ _ => rfl⟩) fun _ _ _ _ _ z => z
end K16

open PySem PySem.W PyProof.Rows in
set_option maxRecDepth 100000 in
set_option maxHeartbeats 0 in
theorem PySem.Challenge.cw_wheelchorus_k16_boxes_alone_holds : PySem.Challenge.rw_wheelchorus_k16_boxes_alone.Holds := by
  w_on; o_law; k_head; (case hw => w_witness2)
  k_fill
  refine K16.walk (l := PySem.Challenge.rw_wheelchorus_k16_boxes_alone) rfl rfl (fun w h Y => PySem.W.kIn_of Y) ?F
  case F =>
    intro w mg fa h KX G hmg
    refine' K16.all_mk KX G hmg ?axP ?axS ?a_is_number ?l_is_number ?c_is_number ?k_is_number ?a_check_number ?l_check_number ?c_check_number ?k_check_number ?a_blocks ?l_blocks ?c_blocks ?k_blocks ?a_row_of ?l_row_of ?c_row_of ?k_row_of ?aP_init ?aS_init ?i_init ?l_init ?c_init ?k_init ?pa_standing ?pb_standing ?pg_standing ?pt_standing ?pr_standing ?l_standing ?c_standing ?k_standing ?pa_breaks ?pb_breaks ?pg_breaks ?pt_breaks ?pr_breaks ?l_breaks ?c_breaks ?k_breaks ?aP_pull ?aS_pull ?i_pull ?l_pull ?c_pull ?k_pull ?aP_wcan ?i_wcan ?l_wcan ?c_wcan ?k_wcan ?aP_begin ?aS_begin ?i_begin ?l_begin ?c_begin ?k_begin ?aP_go_on ?aS_go_on ?i_go_on ?l_go_on ?c_go_on ?k_go_on ?aP_stand_as ?aS_stand_as ?i_stand_as ?l_stand_as ?c_stand_as ?k_stand_as ?aP_pcall ?i_pcall ?l_pcall ?c_pcall ?k_pcall ?aP_pcopied ?i_pcopied ?l_pcopied ?c_pcopied ?k_pcopied ?aS_scall ?i_scall ?l_scall ?c_scall ?k_scall ?aS_scopied ?i_scopied ?l_scopied ?c_scopied ?k_scopied ?a_wheel ?l_wheel ?c_wheel ?k_wheel ?a_source ?l_source ?c_source ?k_source ?a_draw ?l_draw ?c_draw ?k_draw ?a_number ?l_number ?c_number ?k_number ?a_times ?l_times ?c_times ?k_times ?a_row ?l_row ?c_row ?k_row ?a_bool ?l_bool ?c_bool ?k_bool ?a_begins ?l_begins ?c_begins ?k_begins ?a_behind ?l_behind ?c_behind ?k_behind ?a_stands ?l_stands ?c_stands ?k_stands ?a_pulled ?l_pulled ?c_pulled ?k_pulled ?a_ticked ?l_ticked ?c_ticked ?k_ticked ?a_walk ?l_walk ?c_walk ?k_walk ?a_kind ?l_kind ?c_kind ?k_kind ?a_copy ?l_copy ?c_copy ?k_copy ?a_law ?l_law ?c_law ?k_law ?pgP ?hdP ?poP ?saP ?mkP ?kcP ?pgS ?hdS ?poS ?saS ?mkS ?kcS ?aW ?aT ?vPl ?rdT ?gaT ?icn ?ict ?icaP ?icmP ?nPnumber ?nProunds ?nProw ?nPleft ?nPsent ?nPplace ?nPquiet ?icaS ?icmS ?nSnumber ?nSrounds ?nSrow ?nSleft ?nSsent ?nSplace ?nSquiet ?kPW ?kSW ?kPS ?kSS ?kPP ?kSP ?nePS ?fi_pcall ?fi_scall ?aS_scan ?i_scan ?k_scan ?l_scan ?c_scan ?lc_scan ?v_scan ?f_scan ?cc_scan ?ci_scan ?su_sub ?su_top ?su_mg ?su_stat ?su_sup ?su_ty ?su_fn ?n_DIGITS ?n_MOST_DIGITS ?n_GREATEST_SUM ?n_MOST_LOOPS ?n_MOST_BOXES ?n_MOST_ROUNDS ?n_QUIET_AHEAD ?n_MOST_QUIET ?z_abs ?z_all ?z_bool ?z_int ?z_isinstance ?z_len ?z_min ?z_range ?z_repr ?z_str ?z_sum ?z_tuple
    (case axP => k_is)
    (case axS => k_is)
    (case a_is_number => k_is)
    (case l_is_number => k_is)
    (case c_is_number => k_is)
    (case k_is_number => k_is)
    (case a_check_number => k_is)
    (case l_check_number => k_is)
    (case c_check_number => k_is)
    (case k_check_number => k_is)
    (case a_blocks => k_is)
    (case l_blocks => k_is)
    (case c_blocks => k_is)
    (case k_blocks => k_is)
    (case a_row_of => k_is)
    (case l_row_of => k_is)
    (case c_row_of => k_is)
    (case k_row_of => k_is)
    (case aP_init => k_is)
    (case aS_init => k_is)
    (case i_init => k_is)
    (case l_init => k_is)
    (case c_init => k_is)
    (case k_init => k_is)
    (case pa_standing => k_is)
    (case pb_standing => k_is)
    (case pg_standing => k_is)
    (case pt_standing => k_is)
    (case pr_standing => k_is)
    (case l_standing => k_is)
    (case c_standing => k_is)
    (case k_standing => k_is)
    (case pa_breaks => k_is)
    (case pb_breaks => k_is)
    (case pg_breaks => k_is)
    (case pt_breaks => k_is)
    (case pr_breaks => k_is)
    (case l_breaks => k_is)
    (case c_breaks => k_is)
    (case k_breaks => k_is)
    (case aP_pull => k_is)
    (case aS_pull => k_is)
    (case i_pull => k_is)
    (case l_pull => k_is)
    (case c_pull => k_is)
    (case k_pull => k_is)
    (case aP_wcan => k_is)
    (case i_wcan => k_is)
    (case l_wcan => k_is)
    (case c_wcan => k_is)
    (case k_wcan => k_is)
    (case aP_begin => k_is)
    (case aS_begin => k_is)
    (case i_begin => k_is)
    (case l_begin => k_is)
    (case c_begin => k_is)
    (case k_begin => k_is)
    (case aP_go_on => k_is)
    (case aS_go_on => k_is)
    (case i_go_on => k_is)
    (case l_go_on => k_is)
    (case c_go_on => k_is)
    (case k_go_on => k_is)
    (case aP_stand_as => k_is)
    (case aS_stand_as => k_is)
    (case i_stand_as => k_is)
    (case l_stand_as => k_is)
    (case c_stand_as => k_is)
    (case k_stand_as => k_is)
    (case aP_pcall => k_is)
    (case i_pcall => k_is)
    (case l_pcall => k_is)
    (case c_pcall => k_is)
    (case k_pcall => k_is)
    (case aP_pcopied => k_is)
    (case i_pcopied => k_is)
    (case l_pcopied => k_is)
    (case c_pcopied => k_is)
    (case k_pcopied => k_is)
    (case aS_scall => k_is)
    (case i_scall => k_is)
    (case l_scall => k_is)
    (case c_scall => k_is)
    (case k_scall => k_is)
    (case aS_scopied => k_is)
    (case i_scopied => k_is)
    (case l_scopied => k_is)
    (case c_scopied => k_is)
    (case k_scopied => k_is)
    (case a_wheel => k_is)
    (case l_wheel => k_is)
    (case c_wheel => k_is)
    (case k_wheel => k_is)
    (case a_source => k_is)
    (case l_source => k_is)
    (case c_source => k_is)
    (case k_source => k_is)
    (case a_draw => k_is)
    (case l_draw => k_is)
    (case c_draw => k_is)
    (case k_draw => k_is)
    (case a_number => k_is)
    (case l_number => k_is)
    (case c_number => k_is)
    (case k_number => k_is)
    (case a_times => k_is)
    (case l_times => k_is)
    (case c_times => k_is)
    (case k_times => k_is)
    (case a_row => k_is)
    (case l_row => k_is)
    (case c_row => k_is)
    (case k_row => k_is)
    (case a_bool => k_is)
    (case l_bool => k_is)
    (case c_bool => k_is)
    (case k_bool => k_is)
    (case a_begins => k_is)
    (case l_begins => k_is)
    (case c_begins => k_is)
    (case k_begins => k_is)
    (case a_behind => k_is)
    (case l_behind => k_is)
    (case c_behind => k_is)
    (case k_behind => k_is)
    (case a_stands => k_is)
    (case l_stands => k_is)
    (case c_stands => k_is)
    (case k_stands => k_is)
    (case a_pulled => k_is)
    (case l_pulled => k_is)
    (case c_pulled => k_is)
    (case k_pulled => k_is)
    (case a_ticked => k_is)
    (case l_ticked => k_is)
    (case c_ticked => k_is)
    (case k_ticked => k_is)
    (case a_walk => k_is)
    (case l_walk => k_is)
    (case c_walk => k_is)
    (case k_walk => k_is)
    (case a_kind => k_is)
    (case l_kind => k_is)
    (case c_kind => k_is)
    (case k_kind => k_is)
    (case a_copy => k_is)
    (case l_copy => k_is)
    (case c_copy => k_is)
    (case k_copy => k_is)
    (case a_law => k_is)
    (case l_law => k_is)
    (case c_law => k_is)
    (case k_law => k_is)
    (case pgP => k_is)
    (case hdP => k_is)
    (case poP => k_is)
    (case saP => k_is)
    (case mkP => k_is)
    (case kcP => k_is)
    (case pgS => k_is)
    (case hdS => k_is)
    (case poS => k_is)
    (case saS => k_is)
    (case mkS => k_is)
    (case kcS => k_is)
    (case aW => k_is)
    (case aT => k_is)
    (case vPl => k_is)
    (case rdT => k_is)
    (case gaT => k_is)
    (case icn => k_is)
    (case ict => k_is)
    (case icaP => k_is)
    (case icmP => k_is)
    (case nPnumber => k_is)
    (case nProunds => k_is)
    (case nProw => k_is)
    (case nPleft => k_is)
    (case nPsent => k_is)
    (case nPplace => k_is)
    (case nPquiet => k_is)
    (case icaS => k_is)
    (case icmS => k_is)
    (case nSnumber => k_is)
    (case nSrounds => k_is)
    (case nSrow => k_is)
    (case nSleft => k_is)
    (case nSsent => k_is)
    (case nSplace => k_is)
    (case nSquiet => k_is)
    (case kPW => first | k_is | kit_is | (decide +kernel))
    (case kSW => first | k_is | kit_is | (decide +kernel))
    (case kPS => first | k_is | kit_is | (decide +kernel))
    (case kSS => first | k_is | kit_is | (decide +kernel))
    (case kPP => first | k_is | kit_is | (decide +kernel))
    (case kSP => first | k_is | kit_is | (decide +kernel))
    (case nePS => first | decide | (decide +kernel))
    (case fi_pcall => k_is)
    (case fi_scall => k_is)
    (case aS_scan => k_is)
    (case i_scan => k_is)
    (case k_scan => k_is)
    (case l_scan => k_is)
    (case c_scan => k_is)
    (case lc_scan => k_is)
    (case v_scan => first | rfl | (decide +kernel) | k_is)
    (case f_scan => first | rfl | (decide +kernel))
    (case cc_scan => k_is)
    (case ci_scan => k_is)
    (case su_sub => k_is)
    (case su_top => first | rfl | (decide +kernel))
    (case su_mg => k_is)
    (case su_stat => k_is)
    (case su_sup => first | k_is | rfl | (decide +kernel))
    (case su_ty => k_is)
    (case su_fn => k_is)
    (case n_DIGITS => k_is)
    (case n_MOST_DIGITS => k_is)
    (case n_GREATEST_SUM => k_is)
    (case n_MOST_LOOPS => k_is)
    (case n_MOST_BOXES => k_is)
    (case n_MOST_ROUNDS => k_is)
    (case n_QUIET_AHEAD => k_is)
    (case n_MOST_QUIET => k_is)
    (case z_abs => k_is)
    (case z_all => k_is)
    (case z_bool => k_is)
    (case z_int => k_is)
    (case z_isinstance => k_is)
    (case z_len => k_is)
    (case z_min => k_is)
    (case z_range => k_is)
    (case z_repr => k_is)
    (case z_str => k_is)
    (case z_sum => k_is)
    (case z_tuple => k_is)
