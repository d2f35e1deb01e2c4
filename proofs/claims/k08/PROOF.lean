import PyProof.Rows.All
import Wide.All
import OpenK.AllK
import Wide.FinOn
import HandS.ForMost
import HandS.SlotsOwn
import HandS.Wide
import HandS.IsInst
import HandS.Style
import HandS.Zip
import HandS.Walk
import HandS.Exc
import HandS.TryOnly
import HandS.ExcOwn
import HandS.WordsExc
import HandS.ExcIs
import KE.OsGo
import HandS.Codes
import HandS.Text
import KE.IntTextLaws
import KE.KExcIs
import KE.DataEq
import KE.KTupSum
import HandS.Defaults
import HandS.MakeKw
import HandS.MakeKwOnly
import HandS.ClsMeth
import HandS.Strs
import KE.GoesMore
import HandS.TupAny
import HandS.TupMul
import HandS.TryMany
import HandS.ExcCtx
import KE.KOpsOwn
import PyProof.InstNe
import PySem.Challenge.RW_wheelchorus_k08_towns_changed
set_option Elab.async false
set_option linter.all false
set_option maxRecDepth 100000
set_option maxHeartbeats 4000000
/-! Numbers as lists of digits, their rows, and where two rows part. -/
namespace Wm
open PySem L2
def codes (ds : List Nat) : List Nat := ds.map (· + 48)
def numS (ds : List Nat) : Str := ⟨(codes ds).toArray⟩
structure Dig (ds : List Nat) : Prop where
  dig : ∀ d ∈ ds, 1 ≤ d ∧ d ≤ 9
structure Num (ds : List Nat) : Prop where
  pos : 1 ≤ ds.length
  len : ds.length ≤ 4
  dig : ∀ d ∈ ds, 1 ≤ d ∧ d ≤ 9
  sum : ds.sum ≤ 24
def blk (d : Nat) : List Int := (List.replicate d [1, 0]).flatten
def rowL : List Nat → List Int
  | [] => [0, 0]
  | d :: ds => blk d ++ ([0, 0] ++ rowL ds)
structure Diff (xs ys : List Int) (k : Nat) (a b : Int) : Prop where
  one : xs[k]? = some a
  two : ys[k]? = some b
  ne : a ≠ b
  eq : ∀ j, j < k → xs[j]? = ys[j]?
theorem Diff.symm {xs ys : List Int} {k : Nat} {a b : Int} (h : Diff xs ys k a b) : Diff ys xs k b a :=
  ⟨h.two, h.one, h.ne.symm, fun j l => (h.eq j l).symm⟩
theorem Diff.cons {xs ys : List Int} {k : Nat} {a b : Int} (z : Int) (h : Diff xs ys k a b) : Diff (z :: xs) (z :: ys) (k + 1) a b := by
  refine ⟨by simpa using h.one, by simpa using h.two, h.ne, fun j l => ?_⟩
  cases j with
  | zero => rfl
  | succ j => simpa using h.eq j (by omega)
theorem Diff.app {xs ys : List Int} {k : Nat} {a b : Int} : ∀ (p : List Int), Diff xs ys k a b → Diff (p ++ xs) (p ++ ys) (p.length + k) a b
  | [], h => by simpa using h
  | z :: p, h => by
    have ih := (Diff.app p h).cons z
    have e : (z :: p).length + k = p.length + k + 1 := by simp only [List.length_cons]; omega
    rw [e]
    exact ih
theorem Diff.uniq {xs ys : List Int} {k l : Nat} {a b c d : Int} (h : Diff xs ys k a b) (g : Diff xs ys l c d) : k = l ∧ a = c ∧ b = d := by
  have e : k = l := by
    rcases Nat.lt_trichotomy k l with x | x | x
    · exact absurd (by have q := g.eq k x; rw [h.one, h.two] at q; exact Option.some.inj q) h.ne
    · exact x
    · exact absurd (by have q := h.eq l x; rw [g.one, g.two] at q; exact Option.some.inj q) g.ne
  subst e
  exact ⟨rfl, Option.some.inj (h.one.symm.trans g.one), Option.some.inj (h.two.symm.trans g.two)⟩
theorem Diff.lt1 {xs ys : List Int} {k : Nat} {a b : Int} (h : Diff xs ys k a b) : k < xs.length := (List.getElem?_eq_some_iff.mp h.one).1
theorem Diff.lt2 {xs ys : List Int} {k : Nat} {a b : Int} (h : Diff xs ys k a b) : k < ys.length := (List.getElem?_eq_some_iff.mp h.two).1
theorem blk_add (d e : Nat) : blk (d + e) = blk d ++ blk e := by
  unfold blk
  rw [← List.replicate_append_replicate, List.flatten_append]
theorem blk_succ (e : Nat) : blk (e + 1) = [1, 0] ++ blk e := by
  rw [Nat.add_comm, blk_add]
  rfl
theorem blk_len (d : Nat) : (blk d).length = 2 * d := by
  induction d with
  | zero => rfl
  | succ d ih => rw [blk_succ, List.length_append, ih]; simp only [List.length_cons, List.length_nil]; omega
theorem row_less (d e : Nat) (ds es : List Nat) (h : d < e) : Diff (rowL (d :: ds)) (rowL (e :: es)) (2 * d) 0 1 := by
  obtain ⟨f, rfl⟩ : ∃ f, e = d + (f + 1) := ⟨e - d - 1, by omega⟩
  have h0 : Diff ([0, 0] ++ rowL ds) ([1, 0] ++ (blk f ++ ([0, 0] ++ rowL es))) 0 0 1 := ⟨rfl, rfl, by decide, fun j l => absurd l (Nat.not_lt_zero _)⟩
  have h1 := h0.app (blk d)
  rw [blk_len, Nat.add_zero] at h1
  have e1 : rowL ((d + (f + 1)) :: es) = blk d ++ ([1, 0] ++ (blk f ++ ([0, 0] ++ rowL es))) := by
    show blk (d + (f + 1)) ++ _ = _
    rw [blk_add, blk_succ, List.append_assoc, List.append_assoc]
  rw [e1]
  exact h1
theorem rows_part : ∀ (ds es : List Nat), (∀ d ∈ ds, 1 ≤ d) → (∀ e ∈ es, 1 ≤ e) →
    ds = es ∨ (∃ k, Diff (rowL ds) (rowL es) k 1 0 ∧ es < ds) ∨ (∃ k, Diff (rowL ds) (rowL es) k 0 1 ∧ ds < es)
  | [], [], _, _ => .inl rfl
  | [], e :: es, _, h => by
    obtain ⟨f, rfl⟩ : ∃ f, e = f + 1 := ⟨e - 1, by have := h e (by simp); omega⟩
    refine .inr (.inr ⟨0, ⟨rfl, ?_, by decide, fun j l => absurd l (Nat.not_lt_zero _)⟩, List.nil_lt_cons _ _⟩)
    show (blk (f + 1) ++ _)[0]? = _
    rw [blk_succ]
    rfl
  | d :: ds, [], h, _ => by
    obtain ⟨f, rfl⟩ : ∃ f, d = f + 1 := ⟨d - 1, by have := h d (by simp); omega⟩
    refine .inr (.inl ⟨0, ⟨?_, rfl, by decide, fun j l => absurd l (Nat.not_lt_zero _)⟩, List.nil_lt_cons _ _⟩)
    show (blk (f + 1) ++ _)[0]? = _
    rw [blk_succ]
    rfl
  | d :: ds, e :: es, h, g => by
    rcases Nat.lt_trichotomy d e with x | x | x
    · exact .inr (.inr ⟨_, row_less d e ds es x, List.cons_lt_cons_iff.mpr (.inl x)⟩)
    · subst x
      rcases rows_part ds es (fun y m => h y (List.mem_cons_of_mem _ m)) (fun y m => g y (List.mem_cons_of_mem _ m)) with q | ⟨k, q, l⟩ | ⟨k, q, l⟩
      · exact .inl (by rw [q])
      · exact .inr (.inl ⟨_, (q.app [0, 0]).app (blk d), List.cons_lt_cons_iff.mpr (.inr ⟨rfl, l⟩)⟩)
      · exact .inr (.inr ⟨_, (q.app [0, 0]).app (blk d), List.cons_lt_cons_iff.mpr (.inr ⟨rfl, l⟩)⟩)
    · exact .inr (.inl ⟨_, (row_less e d es ds x).symm, List.cons_lt_cons_iff.mpr (.inl x)⟩)
theorem codes_lt : ∀ (ds es : List Nat), ds < es → codes ds < codes es
  | [], [], h => absurd h (List.lt_irrefl _)
  | [], _ :: _, _ => List.nil_lt_cons _ _
  | _ :: _, [], h => absurd h (List.not_lt_nil _)
  | d :: ds, e :: es, h => by
    rcases List.cons_lt_cons_iff.mp h with x | ⟨x, y⟩
    · exact List.cons_lt_cons_iff.mpr (.inl (Nat.add_lt_add_right x 48))
    · exact List.cons_lt_cons_iff.mpr (.inr ⟨by rw [x], codes_lt ds es y⟩)
theorem codes_inj : ∀ (ds es : List Nat), codes ds = codes es → ds = es
  | [], [], _ => rfl
  | [], _ :: _, h => by simp [codes] at h
  | _ :: _, [], h => by simp [codes] at h
  | d :: ds, e :: es, h => by
    have h1 : d + 48 = e + 48 := (List.cons.inj h).1
    have h2 : codes ds = codes es := (List.cons.inj h).2
    rw [codes_inj ds es h2, show d = e by omega]
theorem numS_cps (ds : List Nat) : (numS ds).cps.toList = codes ds := rfl
theorem numS_inj {ds es : List Nat} (h : numS ds = numS es) : ds = es := codes_inj _ _ (by rw [← numS_cps, h, numS_cps])
theorem numS_len (ds : List Nat) : (numS ds).length = ds.length := by
  show (codes ds).toArray.size = _
  simp [codes]
theorem lt_asymm' {a b : List Nat} (h : a < b) : ¬ b < a := fun g => List.lt_irrefl _ (List.lt_trans h g)
theorem rowL_le : ∀ ds : List Nat, (∀ d ∈ ds, d ≤ 9) → (rowL ds).length ≤ 20 * ds.length + 2
  | [], _ => by decide
  | d :: ds, h => by
    have ih := rowL_le ds fun y m => h y (List.mem_cons_of_mem _ m)
    have hd := h d (by simp)
    show (blk d ++ ([0, 0] ++ rowL ds)).length ≤ _
    rw [List.length_append, List.length_append, blk_len]
    simp only [List.length_cons, List.length_nil]
    omega
end Wm

/-! Digits as signs, texts of digits cut and joined; what a heap keeps. -/
namespace Wm
open PySem L2
theorem dig_cases {d : Nat} (h : 1 ≤ d ∧ d ≤ 9) : d = 1 ∨ d = 2 ∨ d = 3 ∨ d = 4 ∨ d = 5 ∨ d = 6 ∨ d = 7 ∨ d = 8 ∨ d = 9 := by omega
theorem dig_int {d : Nat} (h : 1 ≤ d ∧ d ≤ 9) : PySem.intText? ⟨#[d + 48]⟩ = some (d : Int) := by
  rcases dig_cases h with e | e | e | e | e | e | e | e | e <;> subst e <;> decide +kernel
theorem dig_in {d : Nat} (h : 1 ≤ d ∧ d ≤ 9) : (d + 48) ∈ ("123456789" : Str).cps.toList := by
  rcases dig_cases h with e | e | e | e | e | e | e | e | e <;> subst e <;> decide +kernel
theorem dig_str {d : Nat} (h : 1 ≤ d ∧ d ≤ 9) : ((toString (d : Int) : String) : Str) = numS [d] := by
  rcases dig_cases h with e | e | e | e | e | e | e | e | e <;> subst e <;> decide +kernel
theorem numS_app (ds es : List Nat) : numS ds ++ numS es = numS (ds ++ es) := by
  refine PyProof.Rows.ext_toList ?_
  show ((numS ds).cps ++ (numS es).cps).toList = _
  rw [Array.toList_append, numS_cps, numS_cps, numS_cps]
  simp [codes]
theorem numS_nil : numS [] = ("" : Str) := by decide +kernel
theorem numS_take (ds : List Nat) (k : Nat) : cutS (numS ds) none (some (k : Int)) = numS (ds.take k) := by
  refine PyProof.Rows.ext_toList ?_
  show ((codes ds).drop 0).take (HT.sIx (numS ds).length (numS ds).length (some (k : Int)) - 0) = codes (ds.take k)
  rw [numS_len, HT.sIx_nat, List.drop_zero, Nat.sub_zero]
  simp only [codes, ← List.map_take]
  congr 1
  rw [List.take_eq_take_iff]
  omega
theorem numS_last (ds : List Nat) : cutS (numS ds) none (some (-1)) = numS ds.dropLast := by
  refine PyProof.Rows.ext_toList ?_
  show ((codes ds).drop 0).take (HT.sIx (numS ds).length (numS ds).length (some (-1)) - 0) = codes ds.dropLast
  rw [numS_len, List.drop_zero, Nat.sub_zero, List.dropLast_eq_take]
  simp only [codes, ← List.map_take]
  have e : HT.sIx ds.length ds.length (some (-1)) = ds.length - 1 := by
    unfold HT.sIx
    simp only [show (-1 : Int) < 0 by decide, if_true]
    omega
  rw [e]
theorem numS_at (ds : List Nat) (i : Nat) (hi : i < ds.length) : (numS ds).cps[i]? = some (ds[i] + 48) := by
  show ((codes ds).toArray)[i]? = _
  simp [codes, hi]
theorem numS_size (ds : List Nat) : (numS ds).cps.size = ds.length := numS_len ds

/-! heaps -/
theorem same_new {H : Hp} {p : Addr} {o : HO} (n : H p = none) : Same H (upd H p o) := fun b u e => by
  rw [upd_ne (ne_of_none e n)]
  exact e
theorem at_old {H : Hp} {p q : Addr} {o u : HO} (h : H p = some o) (n : H q = none) : upd H q u p = some o := by
  rw [upd_ne (ne_of_none h n)]
  exact h
theorem sameT {K : PySem.W.Frag} {H H' : Hp} {a : Addr} {xs : List V} (e : Same H H') (h : SqT K H a xs) : SqT K H' a xs := by
  rcases h with (h | ⟨o, h⟩) | h
  · exact .inl (.inl (e _ _ h))
  · exact .inl (.inr ⟨o, e _ _ h⟩)
  · exact .inr h
/-- what stood stands, but for what H did not know and the object at p, which is new since -/
theorem same_mut {H H' : Hp} {p : Addr} {o : HO} (s : Same H H') (n : H p = none) : Same H (upd H' p o) := fun b u e => by
  rw [upd_ne (ne_of_none e n)]
  exact s b u e
/-- the bag's list at b, its cells at c -/
def Cel (H : Hp) (b c : Addr) : Prop := ∃ x k m z : Int, H b = some (.lst [.int x, .ref c, .int k, .int m, .int z])
structure But (b : Addr) (H H' : Hp) : Prop where
  keep : ∀ p o, p ≠ b → H p = some o → H' p = some o
  cel : ∀ c, Cel H b c → Cel H' b c
instance {b : Addr} {H H' : Hp} : CoeFun (But b H H') (fun _ => ∀ p o, p ≠ b → H p = some o → H' p = some o) := ⟨But.keep⟩
theorem But.refl (b : Addr) (H : Hp) : But b H H := ⟨fun _ _ _ h => h, fun _ h => h⟩
theorem But.trans {b : Addr} {H H1 H2 : Hp} (x : But b H H1) (y : But b H1 H2) : But b H H2 := ⟨fun p o n h => y.keep p o n (x.keep p o n h), fun c h => y.cel c (x.cel c h)⟩
theorem But.of {b : Addr} {H H' : Hp} (s : Same H H') : But b H H' := ⟨fun p o _ h => s p o h, fun _ ⟨x, k, m, z, h⟩ => ⟨x, k, m, z, s _ _ h⟩⟩
theorem But.set {b c : Addr} {H : Hp} {x k m z x' k' m' z' : Int} (hb : H b = some (.lst [.int x, .ref c, .int k, .int m, .int z])) : But b H (upd H b (.lst [.int x', .ref c, .int k', .int m', .int z'])) :=
  ⟨fun p u n h => by
    rw [upd_ne n]
    exact h, fun c2 ⟨a1, a2, a3, a4, h⟩ => by
    rw [hb] at h
    have h := Option.some.inj h
    injection h with h
    injection h with h1 h
    injection h with h2 h
    injection h2 with h2
    subst h2
    exact ⟨x', k', m', z', upd_same⟩⟩
/-- the bag of draws: its cells' list and its four numbers -/
def Bag (H : Hp) (b : Addr) (n : Nat) : Prop :=
  ∃ (c : Addr) (x k m z : Int) (ns : List Int), H b = some (.lst [.int x, .ref c, .int k, .int m, .int z]) ∧ H c = some (.lst (ns.map V.int)) ∧ 0 ≤ k ∧ 0 ≤ m ∧ m ≤ (n : Int)
theorem bag_ne {H : Hp} {b c : Addr} {x k m z : Int} {ns : List Int} (hb : H b = some (.lst [.int x, .ref c, .int k, .int m, .int z])) (hc : H c = some (.lst (ns.map V.int))) : c ≠ b := by
  intro e
  subst e
  rw [hb] at hc
  have q := Option.some.inj hc
  have q2 : ([.int x, .ref c, .int k, .int m, .int z] : List V) = ns.map V.int := by injection q
  cases ns with
  | nil => simp at q2
  | cons u r => cases r with
    | nil => simp at q2
    | cons v r => simp at q2
theorem Bag.mono {H : Hp} {b : Addr} {n m : Nat} (h : Bag H b n) (l : n ≤ m) : Bag H b m := by
  obtain ⟨c, x, k, q, z, ns, h1, h2, h3, h4, h5⟩ := h
  exact ⟨c, x, k, q, z, ns, h1, h2, h3, h4, by omega⟩
theorem Bag.keep {H H' : Hp} {b : Addr} {n : Nat} (h : Bag H b n) (s : Same H H') : Bag H' b n := by
  obtain ⟨c, x, k, q, z, ns, h1, h2, h3, h4, h5⟩ := h
  exact ⟨c, x, k, q, z, ns, s _ _ h1, s _ _ h2, h3, h4, h5⟩
theorem Cel.uniq {H : Hp} {b c d : Addr} (h : Cel H b c) (g : Cel H b d) : c = d := by
  obtain ⟨x, k, m, z, h⟩ := h
  obtain ⟨x', k', m', z', g⟩ := g
  rw [h] at g
  have g := Option.some.inj g
  injection g with g
  injection g with g1 g
  injection g with g2 g
  injection g2
theorem But.put {b D : Addr} {H H' : Hp} {o : HO} (e : But b H H') (n : H D = none) : But b H (upd H' D o) := by
  refine ⟨fun p u pb h => ?_, fun c h => ?_⟩
  · rw [upd_ne (ne_of_none h n)]
    exact e.keep p u pb h
  · have h0 := h
    obtain ⟨x, k, m, z, h⟩ := h
    obtain ⟨x', k', m', z', g⟩ := e.cel c h0
    exact ⟨x', k', m', z', by rw [upd_ne (ne_of_none h n)]; exact g⟩
theorem Bag.put {b D : Addr} {H H' : Hp} {o : HO} {n m : Nat} (bag : Bag H b n) (f : H D = none) (e : But b H H') (bag2 : Bag H' b m) : Bag (upd H' D o) b m := by
  obtain ⟨c, x, k, q, z, ns, h1, h2, h3, h4, h5⟩ := bag
  obtain ⟨c', x', k', q', z', ns', g1, g2, g3, g4, g5⟩ := bag2
  have ec : c = c' := Cel.uniq (e.cel c ⟨x, k, q, z, h1⟩) ⟨x', k', q', z', g1⟩
  subst ec
  exact ⟨c, x', k', q', z', ns', by rw [upd_ne (ne_of_none h1 f)]; exact g1, by rw [upd_ne (ne_of_none h2 f)]; exact g2, g3, g4, g5⟩
end Wm
namespace Wm
open PySem L2
theorem yesT {σ : L2.St} {H : Hp} {A B : Hp → Prop} (h : A H) : tYes σ H (fun b H3 => if b = true then A H3 else B H3) := by
  show (if true = true then A H else B H)
  rw [if_pos rfl]
  exact h
end Wm

/-! row[::2] of a list or a tuple; a loop over a list or a tuple. -/
namespace Hf
open PySem PySem.Spec PyProof.Rows L2
def ev2 {α : Type} : List α → List α
  | [] => []
  | [x] => [x]
  | x :: _ :: r => x :: ev2 r
theorem ev2_le {α : Type} : ∀ xs : List α, (ev2 xs).length ≤ xs.length
  | [] => Nat.le_refl _
  | [_] => Nat.le_refl _
  | x :: y :: r => by
    have ih := ev2_le r
    show (ev2 r).length + 1 ≤ r.length + 2
    omega
theorem ev2_mem {α : Type} {z : α} : ∀ {xs : List α}, z ∈ ev2 xs → z ∈ xs
  | [], h => h
  | [_], h => h
  | x :: y :: r, h => by
    rcases List.mem_cons.mp h with e | e
    · rw [e]; simp
    · exact List.mem_cons_of_mem _ (List.mem_cons_of_mem _ (ev2_mem e))
theorem ev2_map {α β : Type} (f : α → β) : ∀ xs : List α, ev2 (xs.map f) = (ev2 xs).map f
  | [] => rfl
  | [_] => rfl
  | x :: y :: r => by
    show f x :: ev2 (r.map f) = f x :: (ev2 r).map f
    rw [ev2_map f r]
theorem ev2_pick {α : Type} : ∀ xs : List α, (List.range ((xs.length + 1) / 2)).filterMap (fun k => xs[2 * k]?) = ev2 xs
  | [] => by simp [ev2]
  | [x] => by
    rw [show ([x].length + 1) / 2 = 1 by simp, show List.range 1 = [0] by decide]
    simp [ev2]
  | x :: y :: r => by
    have ih := ev2_pick r
    have e : ((x :: y :: r).length + 1) / 2 = (r.length + 1) / 2 + 1 := by
      show (r.length + 1 + 1 + 1) / 2 = _
      omega
    rw [e, List.range_succ_eq_map, List.filterMap_cons]
    show x :: _ = x :: ev2 r
    rw [List.filterMap_map, ← ih]
    rfl
theorem ev2_vals : ∀ {xs : List V} {us : List Value}, Vals xs us → Vals (ev2 xs) (ev2 us)
  | [], _, h => by cases h; exact .nil
  | [x], _, h => by
    cases h with
    | cons a b =>
      cases b
      exact .cons a .nil
  | x :: y :: r, _, h => by
    cases h with
    | cons a b =>
      cases b with
      | cons c d => exact .cons a (ev2_vals d)
theorem pick2 (items : Array Value) : slicePick items none none (some 2) = (ev2 items.toList).toArray := by
  have e := ev2_pick items.toList
  unfold slicePick
  have b : sliceBounds none none (some 2) items.size = (0, (items.size : Int), 2) := by
    first
    | rfl
    | simp [sliceBounds]
  rw [b]
  show ((sliceRange 0 (items.size : Int) 2).filterMap (items[·]?)).toArray = _
  have r : sliceRange 0 (items.size : Int) 2 = (List.range ((items.size + 1) / 2)).map fun k => 2 * k := by
    unfold sliceRange
    have h1 : (2 : Int) > 0 := by decide
    by_cases h : (0 : Int) < (items.size : Int)
    · have e : ((items.size : Int) - 0 + 2 - 1) / 2 = (((items.size + 1) / 2 : Nat) : Int) := by omega
      simp only [h1, if_true, h, e, Int.toNat_natCast]
      apply List.map_congr_left
      intro k _
      omega
    · have e : items.size = 0 := by omega
      simp [e]
  rw [r, List.filterMap_map]
  rw [Array.length_toList] at e
  rw [← e]
  refine congrArg List.toArray (congrArg (fun f => List.filterMap f _) (funext fun k => ?_))
  show items[2 * k]? = _
  rw [Array.getElem?_toList]
section
variable {prog : Program} {w : World} {A : Around} {E : Value → Shared → Prop} {s : Shared}
theorem places2 (n : Nat) : Builtin.Slice.slicePlaces 0 (n : Int) 2 = (n + 1) / 2 := by
  unfold Builtin.Slice.slicePlaces
  have h1 : (2 : Int) > 0 := by omega
  simp only [h1, if_true]
  split <;> omega
theorem adjust2 (n : Nat) : Builtin.Slice.sliceAdjust none none 2 (n : Int) = (0, (n : Int)) := by
  have h1 : ¬ ((2 : Int) < 0) := by omega
  unfold Builtin.Slice.sliceAdjust
  simp only [h1, if_false]
theorem sliceApplied2 {sl : Addr} {t : Tok} {n : Nat} {Q : Int × Int × Nat → Shared → Prop} (hs : s.heap.IsSliceOf sl .none .none (.int 2 t))
    (h : Q (0, 2, (n + 1) / 2) s) : wpAny (model prog w) A (Builtin.Slice.sliceApplied (.ref sl) (pure (n : Int))) Q E s := by
  obtain ⟨os, hos, hcs, hds⟩ := id hs
  unfold Builtin.Slice.sliceApplied Builtin.Slice.sliceFields
  refine wpAny_bind (wpAny_bind (wpAny_field hos hds (x := .none) rfl (wpAny_bind (wpAny_field hos hds (x := .none) rfl (wpAny_bind (wpAny_field hos hds (x := .int 2 t) rfl (wpAny_pure ?_)))))))
  refine wpAny_bind (slicePart_int ?_)
  show wpAny _ _ (if ((2 : Int) == 0) = true then _ else _) _ _ s
  rw [if_neg (by decide)]
  refine wpAny_bind (HT.slicePart_ .none (wpAny_bind (HT.slicePart_ .none (wpAny_bind (wpAny_pure ?_)))))
  show wpAny _ _ (match Builtin.Slice.sliceAdjust none none 2 (n : Int) with | (lo, hi) => pure (lo, (2 : Int), Builtin.Slice.slicePlaces lo hi 2)) _ _ s
  rw [adjust2 n]
  show wpAny _ _ (pure ((0 : Int), (2 : Int), Builtin.Slice.slicePlaces (0 : Int) (n : Int) 2)) _ _ s
  rw [places2]
  exact wpAny_pure h
theorem pick2t (xs : Array Value) : ((List.range ((xs.size + 1) / 2)).filterMap fun (m : Nat) => xs[((0 : Int) + (m : Int) * 2).toNat]?).toArray = (ev2 xs.toList).toArray := by
  have e : (fun (m : Nat) => xs[((0 : Int) + (m : Int) * 2).toNat]?) = fun m => xs.toList[2 * m]? := by
    funext m
    have : ((0 : Int) + (m : Int) * 2).toNat = 2 * m := by omega
    rw [this, Array.getElem?_toList]
  rw [e, ← ev2_pick xs.toList, Array.length_toList]
theorem getItem_tuple_2 {t sl : Addr} {tk : Tok} {items : Array Value} {Q : Value → Shared → Prop} (ht : IsTup s.heap t items) (hs : s.heap.IsSliceOf sl .none .none (.int 2 tk))
    (h : Q (.ref s.heap.objs.size) { s with heap := s.heap.push { cls := .type "tuple", data := .seq (ev2 items.toList).toArray } })
    (hsz : items.size ≤ sizeLine) : wpAny (model prog w) A (getItem (.ref t) (.ref sl)) Q E s := by
  have htake : sizeOk (.seq (ev2 items.toList).toArray) := by
    show (ev2 items.toList).toArray.size ≤ sizeLine
    rw [List.size_toArray]
    exact Nat.le_trans (ev2_le items.toList) (by rw [Array.length_toList]; exact hsz)
  obtain ⟨os, hos, hcs, hds⟩ := id hs
  have hTs : s.TypeIs (.ref sl) "slice" := ⟨os, hos, hcs⟩
  unfold getItem
  try with_reducible refine wpAny_holding ?_
  first | refine wpAny_bind (wpAny_pure ?_) | skip
  refine wpAny_bind (wpAny_sequenceKey ht.typeIs (by decide) ?_)
  refine wpAny_bind (wpAny_callSpecial?_slot (name := Str.ofString "__getitem__") ht.typeIs PyProof.Rows.slot_tuple_getitem
    (wpAny_call_entry PyProof.Rows.slot_tuple_getitem ht.typeIs entry_tuple_getitem ?_ (args_tuple_getitem _ _)))
  show wpAny _ _ (Builtin.Tuple.tupleItemsOf (.ref t) >>= _) _ _ s
  refine wpAny_bind (tupleItemsOf_ ht ?_)
  refine wpAny_bind (wpAny_typeOf hTs ?_)
  rw [if_pos (by decide)]
  refine wpAny_bind (sliceApplied2 hs ?_)
  have hno : ¬ (((0 : Int) == 0 && (2 : Int) == 1 && ((items.size + 1) / 2) == items.size) = true) := by
    intro q
    rw [Bool.and_eq_true, Bool.and_eq_true] at q
    exact absurd q.1.2 (by decide)
  show wpAny _ _ (if ((0 : Int) == 0 && (2 : Int) == 1 && ((items.size + 1) / 2) == items.size) = true then _ else _) _ _ s
  rw [if_neg hno, pick2t]
  first
    | exact wpAny_bind (m := Builtin.Tuple.tupleExact _) (wpAny_newObj_type (wpAny_pure ⟨_, rfl, wpAny_pure h⟩) htake)
    | exact wpAny_bind (m := Builtin.Tuple.tupleExact _) (wpAny_newObj_type (wpAny_bind (wpAny_pure (wpAny_pure ⟨_, rfl, wpAny_pure h⟩))) htake)
    | exact wpAny_bind (wpAny_bind (m := Builtin.Tuple.tupleExact _) (wpAny_newObj_type (wpAny_pure (wpAny_pure ⟨_, rfl, wpAny_pure h⟩)) htake))
    | exact wpAny_bind (wpAny_bind (m := Builtin.Tuple.tupleExact _) (wpAny_newObj_type (wpAny_pure ⟨_, rfl, wpAny_pure h⟩) htake))
end
section
variable {X : Cx}
def tHalf (K : PySem.W.Frag) (te : TE) : TE := fun σ H Q => te σ H fun x H1 => ∃ a xs, x = .ref a ∧ (SqL K H1 a xs ∨ SqT K H1 a xs) ∧
  ∀ p H2, (∀ b o, H1 b = some o → H2 b = some o) → H1 p = none → (SqL K H2 p (ev2 xs) ∨ SqT K H2 p (ev2 xs)) → Q (.ref p) H2
theorem new_same {H : Hp} {p : Addr} {o : HO} (n : H p = none) : ∀ b u, H b = some u → upd H p o b = some u := fun b u e => by
  rw [upd_ne (ne_of_none e n)]
  exact e
theorem pe_half {e : Expr} {te : TE} {k : Nat} {p1 p3 pos : Pos} (he : PE X e te) : PE X (.Subscript e (.Slice none none (some (.Constant (.int 2) k p1)) p3) pos) (tHalf X.K te) := by
  refine ⟨fun pins s σ H Q I h => ?_⟩
  refine Subscript_ (thn (he.run pins s σ H _ I h) fun v s1 ⟨x, H1, I1, r1, q1⟩ => ?_)
  obtain ⟨a, xs, ex, hq, q⟩ := q1
  subst ex
  cases r1
  have hst : PO X (some (.Constant (.int 2) k p1)) (tPart (tC (.int 2))) := po_some pe_int
  refine wpAny_Slice (thn (po_none.run pins s1 σ H1 (fun o H2 => o = none ∧ H2 = H1) I1 ⟨rfl, rfl⟩) fun vl s2 ⟨l, H2, I2, pl, el, e2⟩ => ?_)
  subst el e2
  refine thn (po_none.run pins s2 σ H2 (fun o H3 => o = none ∧ H3 = H2) I2 ⟨rfl, rfl⟩) fun vu s3 ⟨u, H3, I3, pu, eu, e3⟩ => ?_
  subst eu e3
  refine thn (hst.run pins s3 σ H3 (fun o H4 => o = some 2 ∧ H4 = H3) I3 ⟨2, rfl, rfl, rfl⟩) fun vs s4 ⟨o, H4, I4, ps, eo, e4⟩ => ?_
  subst eo e4
  have I5 : Inv X pins σ H4 { s4 with heap := s4.heap.push { cls := .type "slice", data := .fields #[vl, vu, vs] } } := I4.kept (t' := s4.toks) fun b ob q => Heap.get?_push_of_some _ q
  rcases hq with hx | hx
  · obtain ⟨its, r, ht, hz⟩ := I5.list hx
    have hlen := r.length
    show wpAny (model X.prog X.w) X.A (subscriptTail e (.Slice none none (some (.Constant (.int 2) k p1)) p3) (.ref a) (.ref s4.heap.objs.size)) (EP X pins σ Q) X.xe { s4 with heap := s4.heap.push { cls := .type "slice", data := .fields #[vl, vu, vs] } }
    refine tail_any (ops := [.ref a, .ref s4.heap.objs.size]) ht.isList.typeIs (PySem.slot_list_getitem.lookup) ?_ (by with_unfolding_all rfl)
    refine wpAny_getItem_list_slice ht.isList (Heap.IsSliceOf.new _ vl vu vs) pl pu ps (by decide) ?_ (by rw [List.size_toArray]; omega)
    rw [pick2]
    refine ⟨.ref _, _, I5.laid (t' := s4.toks) (o := .lst (ev2 xs)) (fun b ob q => Heap.get?_push_of_some _ q) (Nat.le_refl _) ?_, rfl, q _ _ (new_same (I5.hok.fresh (Nat.le_refl _))) (I5.hok.fresh (Nat.le_refl _)) (.inl (SqL.of upd_same))⟩
    exact ⟨Nat.le_trans (ev2_le xs) hz, _, 0, ev2_vals r, Heap.get?_push_size _ rfl⟩
  · obtain ⟨its, r, ht, hz⟩ := I5.tuple hx
    have hlen := r.length
    cases pl
    cases pu
    cases ps
    show wpAny (model X.prog X.w) X.A (subscriptTail e (.Slice none none (some (.Constant (.int 2) k p1)) p3) (.ref a) (.ref s4.heap.objs.size)) (EP X pins σ Q) X.xe { s4 with heap := s4.heap.push { cls := .type "slice", data := .fields #[Value.none, Value.none, .int 2 _] } }
    refine tail_any (ops := [.ref a, .ref s4.heap.objs.size]) ht.typeIs (PyProof.Rows.slot_tuple_getitem.lookup) ?_ (by with_unfolding_all rfl)
    refine getItem_tuple_2 ht (Heap.IsSliceOf.new _ _ _ _) ?_ (by rw [List.size_toArray]; omega)
    refine ⟨.ref _, _, I5.laid (t' := s4.toks) (o := .tup (ev2 xs)) (fun b ob q => Heap.get?_push_of_some _ q) (Nat.le_refl _) ?_, rfl, q _ _ (new_same (I5.hok.fresh (Nat.le_refl _))) (I5.hok.fresh (Nat.le_refl _)) (.inr (SqT.of upd_same))⟩
    exact ⟨Nat.le_trans (ev2_le xs) hz, _, ev2_vals r, IsTup.new _ _⟩
theorem keepL {K : PySem.W.Frag} {H H' : Hp} {a : Addr} {xs : List V} (e : Same H H') (h : SqL K H a xs) : SqL K H' a xs := by
  rcases h with (h | ⟨o, h⟩) | h
  · exact .inl (.inl (e _ _ h))
  · exact .inl (.inr ⟨o, e _ _ h⟩)
  · exact .inr h
theorem keepT {K : PySem.W.Frag} {H H' : Hp} {a : Addr} {xs : List V} (e : Same H H') (h : SqT K H a xs) : SqT K H' a xs := by
  rcases h with (h | ⟨o, h⟩) | h
  · exact .inl (.inl (e _ _ h))
  · exact .inl (.inr ⟨o, e _ _ h⟩)
  · exact .inr h
def iSeq (K : PySem.W.Frag) (tl : TE) : TI := fun σ H R => tl σ H fun x H1 => ∃ a xs, x = .ref a ∧ (SqL K H1 a xs ∨ SqT K H1 a xs) ∧
  ∀ J G, Walk J xs.length G (YAt xs) → (∀ H', Same H1 H' → G H') → R J H1
theorem pi_seq {tg l : Expr} {tl : TE} (hl : PE X l tl) : PI X tg l (iSeq X.K tl) := by
  refine ⟨fun pins s σ H R I h => ?_⟩
  refine thn (hl.run pins s σ H _ I h) fun v s1 ⟨x, H1, I1, r1, q1⟩ => ?_
  obtain ⟨a, xs, e, hq, q⟩ := q1
  subst e
  cases r1
  rcases hq with hq | hq
  · have q := q _ _ walk_list fun H' s => keepL s hq
    obtain ⟨its, rv, p, hz⟩ := I1.list hq
    refine wpAny_pyIter_list p.isList ?_
    refine ⟨s1.heap.objs.size, [s1.heap.objs.size], _, _, H1, rfl, I1.kept (t' := s1.toks) fun b o e => Heap.get?_push_of_some _ e, turn_list a _, ⟨_, Heap.get?_push_size _ rfl, rfl, rfl⟩, fun b hb => ?_, q⟩
    have e : b = s1.heap.objs.size := by simpa using hb
    subst e
    exact I1.fpOk (Nat.le_refl _) (I1.hok.fresh (Nat.le_refl _))
  · have q := q _ _ walk_tup fun H' s => keepT s hq
    obtain ⟨its, rv, p, hz⟩ := I1.tuple hq
    refine wpAny_pyIter_tuple (show s1.heap.IsTuple a its.toArray from p) ?_
    refine ⟨s1.heap.objs.size, [s1.heap.objs.size], _, _, H1, rfl, I1.kept (t' := s1.toks) fun b o e => Heap.get?_push_of_some _ e, turn_tuple a _, ⟨_, Heap.get?_push_size _ rfl, rfl, rfl⟩, fun b hb => ?_, q⟩
    have e : b = s1.heap.objs.size := by simpa using hb
    subst e
    exact I1.fpOk (Nat.le_refl _) (I1.hok.fresh (Nat.le_refl _))
end
end Hf

/-! Rows read back: strokes, steps, groups. -/
namespace Wm
open PySem L2 TL
/-- the rows of the first digits, without the two ticks at the end -/
def pre : List Nat → List Int
  | [] => []
  | d :: ds => blk d ++ ([0, 0] ++ pre ds)
theorem pre_app : ∀ (ds : List Nat) (d : Nat), pre (ds ++ [d]) = pre ds ++ (blk d ++ [0, 0])
  | [], d => by show blk d ++ ([0, 0] ++ []) = [] ++ _; simp
  | e :: ds, d => by
    show blk e ++ ([0, 0] ++ pre (ds ++ [d])) = (blk e ++ ([0, 0] ++ pre ds)) ++ _
    rw [pre_app ds d]
    simp only [List.append_assoc]
theorem pre_row : ∀ ds : List Nat, pre ds ++ [0, 0] = rowL ds
  | [] => rfl
  | d :: ds => by
    show (blk d ++ ([0, 0] ++ pre ds)) ++ _ = blk d ++ ([0, 0] ++ rowL ds)
    rw [← pre_row ds]
    simp only [List.append_assoc]
theorem blk_V (d : Nat) : (List.replicate d [V.int 1, V.int 0]).flatten = (blk d).map V.int := by
  unfold blk
  rw [List.map_flatten, List.map_replicate]
  rfl
theorem pre_le : ∀ ds : List Nat, (∀ d ∈ ds, d ≤ 9) → (pre ds).length ≤ 20 * ds.length
  | [], _ => by decide
  | d :: ds, h => by
    have ih := pre_le ds fun y m => h y (List.mem_cons_of_mem _ m)
    have hd := h d (by simp)
    show (blk d ++ ([0, 0] ++ pre ds)).length ≤ _
    rw [List.length_append, List.length_append, blk_len]
    simp only [List.length_cons, List.length_nil]
    omega
theorem take_succ_app {α : Type} {l : List α} {i : Nat} {x : α} (h : l[i]? = some x) : l.take (i + 1) = l.take i ++ [x] := by
  rw [List.take_add_one, h]
  rfl
theorem take_succ_map {α β : Type} {l : List α} {i : Nat} {x : α} (f : α → β) (h : l[i]? = some x) : (l.take i).map f ++ [f x] = (l.take (i + 1)).map f := by
  rw [take_succ_app h, List.map_append]
  rfl
theorem row_sum : ∀ ds : List Nat, (rowL ds).length = 2 * (ds.sum + ds.length + 1)
  | [] => rfl
  | d :: ds => by
    have ih := row_sum ds
    show (blk d ++ ([0, 0] ++ rowL ds)).length = _
    rw [List.length_append, List.length_append, blk_len, ih, List.sum_cons]
    simp only [List.length_cons, List.length_nil]
    omega
theorem row_le (ds : List Nat) (N : Num ds) : (rowL ds).length ≤ 100 := by
  have h := rowL_le ds fun d m => (N.dig d m).2
  have l := N.len
  omega
theorem row_bits : ∀ (ds : List Nat) (z : Int), z ∈ rowL ds → z = 0 ∨ z = 1
  | [], z, h => by
    have h : z ∈ [0, 0] := h
    simp only [List.mem_cons, List.not_mem_nil, or_false, or_self] at h
    exact .inl h
  | d :: ds, z, h => by
    have h : z ∈ blk d ++ ([0, 0] ++ rowL ds) := h
    rw [List.mem_append, List.mem_append] at h
    rcases h with h | h | h
    · obtain ⟨l, hl, hz⟩ := List.mem_flatten.mp h
      rw [(List.mem_replicate.mp hl).2] at hz
      simp only [List.mem_cons, List.not_mem_nil, or_false] at hz
      exact hz.symm
    · simp only [List.mem_cons, List.not_mem_nil, or_false, or_self] at h
      exact .inl h
    · exact row_bits ds z h
/-! strokes -/
def ones : Nat → List Int → List Nat
  | _, [] => []
  | o, x :: xs => if x = 1 then o :: ones (o + 1) xs else ones (o + 1) xs
theorem ones_app : ∀ (a : List Int) (o : Nat) (b : List Int), ones o (a ++ b) = ones o a ++ ones (o + a.length) b
  | [], o, b => rfl
  | x :: a, o, b => by
    have ih := ones_app a (o + 1) b
    have e : o + (x :: a).length = o + 1 + a.length := by rw [List.length_cons]; omega
    rw [e]
    show (if x = 1 then o :: ones (o + 1) (a ++ b) else ones (o + 1) (a ++ b)) = (if x = 1 then o :: ones (o + 1) a else ones (o + 1) a) ++ _
    rw [ih]
    by_cases c : x = 1
    · rw [if_pos c, if_pos c]; rfl
    · rw [if_neg c, if_neg c]
theorem ones_mem : ∀ (xs : List Int) (o k : Nat), k ∈ ones o xs ↔ ∃ j, k = o + j ∧ xs[j]? = some 1
  | [], o, k => by simp [ones]
  | x :: xs, o, k => by
    have ih := ones_mem xs (o + 1) k
    show k ∈ (if x = 1 then o :: ones (o + 1) xs else ones (o + 1) xs) ↔ _
    constructor
    · intro h
      by_cases c : x = 1
      · rw [if_pos c] at h
        rcases List.mem_cons.mp h with e | e
        · exact ⟨0, by omega, by rw [c]; rfl⟩
        · obtain ⟨j, e1, e2⟩ := ih.mp e
          exact ⟨j + 1, by omega, by simpa using e2⟩
      · rw [if_neg c] at h
        obtain ⟨j, e1, e2⟩ := ih.mp h
        exact ⟨j + 1, by omega, by simpa using e2⟩
    · rintro ⟨j, e1, e2⟩
      cases j with
      | zero =>
        have c : x = 1 := Option.some.inj e2
        rw [if_pos c]
        exact List.mem_cons.mpr (.inl (by omega))
      | succ j =>
        have m : k ∈ ones (o + 1) xs := ih.mpr ⟨j, by omega, by simpa using e2⟩
        by_cases c : x = 1
        · rw [if_pos c]; exact List.mem_cons_of_mem _ m
        · rw [if_neg c]; exact m
theorem ones_blk (o d : Nat) : ones o (blk (d + 1)) = ones o (blk d) ++ [o + 2 * d] := by
  rw [blk_add, ones_app, blk_len]
  rfl
theorem ones_end (a : List Int) (o : Nat) : ones o (a ++ [0, 0]) = ones o a := by
  rw [ones_app]
  show ones o a ++ [] = _
  rw [List.append_nil]
theorem step2 (s : List Nat) (d : Nat) : ones 0 (pre s ++ blk (d + 1)) = ones 0 (pre s ++ blk d) ++ [(pre s).length + 2 * d] := by
  rw [ones_app, ones_app, ones_blk, List.append_assoc, Nat.zero_add]
theorem step4 (s : List Nat) (d : Nat) : ones 0 (pre (s ++ [d]) ++ blk 1) = ones 0 (pre s ++ blk d) ++ [(pre s).length + 2 * d + 2] := by
  rw [ones_app, pre_app, ← List.append_assoc, ones_end]
  have e : ((pre s ++ blk d) ++ ([0, 0] : List Int)).length = (pre s).length + 2 * d + 2 := by
    rw [List.length_append, List.length_append, blk_len]
    rfl
  rw [e, Nat.zero_add]
  rfl
theorem ones_row (s : List Nat) (d : Nat) : ones 0 (rowL (s ++ [d])) = ones 0 (pre s ++ blk d) := by
  rw [← pre_row, pre_app, ← List.append_assoc, ones_end, ones_end]
theorem ones_inj {ds es : List Nat} (h1 : ∀ d ∈ ds, 1 ≤ d) (h2 : ∀ e ∈ es, 1 ≤ e) (h : ones 0 (rowL ds) = ones 0 (rowL es)) : ds = es := by
  rcases rows_part ds es h1 h2 with q | ⟨k, q, _⟩ | ⟨k, q, _⟩
  · exact q
  · have m : k ∈ ones 0 (rowL ds) := (ones_mem _ _ _).mpr ⟨k, by omega, q.one⟩
    rw [h] at m
    obtain ⟨j, e1, e2⟩ := (ones_mem _ _ _).mp m
    rw [show j = k by omega, q.two] at e2
    cases e2
  · have m : k ∈ ones 0 (rowL es) := (ones_mem _ _ _).mpr ⟨k, by omega, q.two⟩
    rw [← h] at m
    obtain ⟨j, e1, e2⟩ := (ones_mem _ _ _).mp m
    rw [show j = k by omega, q.one] at e2
    cases e2
def St (l : List Nat) : Prop := ∀ (k a b : Nat), l[k]? = some a → l[k + 1]? = some b → b = a + 2 ∨ b = a + 4
theorem St.cons {x : Nat} {l : List Nat} (h : ∀ y, l.head? = some y → y = x + 2 ∨ y = x + 4) (s : St l) : St (x :: l) := by
  intro k a b e1 e2
  cases k with
  | zero =>
    have e : x = a := Option.some.inj e1
    subst e
    refine h b ?_
    rw [List.head?_eq_getElem?]
    exact e2
  | succ k => exact s k a b (by simpa using e1) (by simpa using e2)
theorem steps_blk {l : List Int} (hl : ∀ o, St (ones o l) ∧ ∀ y, (ones o l).head? = some y → y = o) : ∀ (d o : Nat), St (ones o (blk d ++ ([0, 0] ++ l))) ∧ ∀ y, (ones o (blk d ++ ([0, 0] ++ l))).head? = some y → (y = o ∨ y = o + 2)
  | 0, o => by
    have h := hl (o + 2)
    exact ⟨h.1, fun y e => .inr (h.2 y e)⟩
  | d + 1, o => by
    have ih := steps_blk hl d (o + 2)
    have e : ones o (blk (d + 1) ++ ([0, 0] ++ l)) = o :: ones (o + 2) (blk d ++ ([0, 0] ++ l)) := by
      rw [blk_succ]
      rfl
    rw [e]
    refine ⟨ih.1.cons fun y q => ?_, fun y q => .inl (Option.some.inj q).symm⟩
    rcases ih.2 y q with z | z
    · exact .inl z
    · exact .inr (by omega)
theorem steps_row : ∀ (es : List Nat), (∀ d ∈ es, 1 ≤ d) → ∀ o, St (ones o (rowL es)) ∧ ∀ y, (ones o (rowL es)).head? = some y → y = o
  | [], _, o => ⟨fun k a b (e : (none : Option Nat) = some a) => (by cases e), fun y (e : (none : Option Nat) = some y) => by cases e⟩
  | d :: es, h, o => by
    have ih := steps_row es fun y m => h y (List.mem_cons_of_mem _ m)
    obtain ⟨f, rfl⟩ : ∃ f, d = f + 1 := ⟨d - 1, by have := h d (by simp); omega⟩
    have q := steps_blk ih (f + 1) o
    refine ⟨q.1, fun y e => ?_⟩
    have e' : ones o (rowL ((f + 1) :: es)) = o :: ones (o + 2) (blk f ++ ([0, 0] ++ rowL es)) := by
      show ones o (blk (f + 1) ++ _) = _
      rw [blk_succ]
      rfl
    rw [e'] at e
    exact (Option.some.inj e).symm
theorem first_row (d : Nat) (es : List Nat) (h : 1 ≤ d) : (ones 0 (rowL (d :: es)))[0]? = some 0 := by
  obtain ⟨f, rfl⟩ : ∃ f, d = f + 1 := ⟨d - 1, by omega⟩
  show (ones 0 (blk (f + 1) ++ _))[0]? = _
  rw [blk_succ]
  rfl
/-! groups -/
def gaps : List Int → List Nat
  | [] => [0]
  | z :: zs => if z = 1 then (match gaps zs with | [] => [1] | g :: gs => (g + 1) :: gs) else 0 :: gaps zs
theorem gaps_ne : ∀ zs, gaps zs ≠ []
  | [] => by simp [gaps]
  | z :: zs => by
    show (if z = 1 then (match gaps zs with | [] => [1] | g :: gs => (g + 1) :: gs) else 0 :: gaps zs) ≠ []
    by_cases c : z = 1
    · rw [if_pos c]
      split <;> simp
    · rw [if_neg c]; simp
def bits (zs : List Int) : List Nat := zs.map fun z => if z = 1 then 49 else 48
theorem joinL_cons {s : List Nat} {p : List Nat} {ps : List (List Nat)} (h : ps ≠ []) : joinL s (p :: ps) = p ++ (s ++ joinL s ps) := by
  cases ps with
  | nil => exact absurd rfl h
  | cons q r => rfl
theorem joinL_one (s p : List Nat) : joinL s [p] = p := rfl
theorem map_ne {α β : Type} {f : α → β} {l : List α} (h : l ≠ []) : l.map f ≠ [] := fun e => h (List.map_eq_nil_iff.mp e)
theorem gaps_join : ∀ zs, bits zs = joinL [48] ((gaps zs).map fun g => List.replicate g 49)
  | [] => rfl
  | z :: zs => by
    have ih := gaps_join zs
    have ne := gaps_ne zs
    show (if z = 1 then 49 else 48) :: bits zs = joinL [48] ((if z = 1 then (match gaps zs with | [] => [1] | g :: gs => (g + 1) :: gs) else 0 :: gaps zs).map _)
    by_cases c : z = 1
    · rw [if_pos c, if_pos c]
      cases e : gaps zs with
      | nil => exact absurd e ne
      | cons g gs =>
        rw [e] at ih
        rw [ih]
        cases gs with
        | nil => rfl
        | cons g2 gs => rfl
    · rw [if_neg c, if_neg c, List.map_cons, joinL_cons (map_ne ne), ← ih]
      rfl
theorem gaps_sum : ∀ zs, (gaps zs).sum ≤ zs.length ∧ (gaps zs).length ≤ zs.length + 1
  | [] => by decide
  | z :: zs => by
    have ih := gaps_sum zs
    show (if z = 1 then (match gaps zs with | [] => [1] | g :: gs => (g + 1) :: gs) else 0 :: gaps zs).sum ≤ zs.length + 1 ∧ (if z = 1 then (match gaps zs with | [] => [1] | g :: gs => (g + 1) :: gs) else 0 :: gaps zs).length ≤ zs.length + 1 + 1
    by_cases c : z = 1
    · rw [if_pos c]
      cases e : gaps zs with
      | nil => exact absurd e (gaps_ne zs)
      | cons g gs =>
        rw [e, List.sum_cons, List.length_cons] at ih
        show ((g + 1) :: gs).sum ≤ _ ∧ ((g + 1) :: gs).length ≤ _
        rw [List.sum_cons, List.length_cons]
        omega
    · rw [if_neg c, List.sum_cons, List.length_cons]
      omega
theorem mem_sum {g : Nat} : ∀ {l : List Nat}, g ∈ l → g ≤ l.sum
  | a :: l, h => by
    rw [List.sum_cons]
    rcases List.mem_cons.mp h with e | e
    · omega
    · have := mem_sum e
      omega
theorem gaps_le {zs : List Int} {g : Nat} (h : g ∈ gaps zs) : g ≤ zs.length := by
  have h1 := (gaps_sum zs).1
  have h2 : g ≤ (gaps zs).sum := mem_sum h
  omega
theorem ev2_row : ∀ ds, Hf.ev2 (rowL ds) = (match ds with | [] => [0] | d :: r => List.replicate d 1 ++ (0 :: Hf.ev2 (rowL r)))
  | [] => rfl
  | d :: r => by
    show Hf.ev2 (blk d ++ ([0, 0] ++ rowL r)) = List.replicate d 1 ++ (0 :: Hf.ev2 (rowL r))
    induction d with
    | zero => rfl
    | succ d ih =>
      rw [blk_succ, List.replicate_succ]
      show (1 : Int) :: Hf.ev2 (blk d ++ ([0, 0] ++ rowL r)) = _
      rw [ih]
      rfl
theorem gaps_rep (l : List Int) (d : Nat) : gaps (List.replicate d 1 ++ (0 :: l)) = d :: gaps l := by
  induction d with
  | zero => rfl
  | succ d ih =>
    rw [List.replicate_succ]
    show (if (1 : Int) = 1 then (match gaps (List.replicate d 1 ++ (0 :: l)) with | [] => [1] | g :: gs => (g + 1) :: gs) else _) = _
    rw [if_pos rfl, ih]
theorem gaps_row : ∀ ds, gaps (Hf.ev2 (rowL ds)) = ds ++ [0, 0]
  | [] => rfl
  | d :: r => by
    rw [ev2_row]
    show gaps (List.replicate d 1 ++ (0 :: Hf.ev2 (rowL r))) = _
    rw [gaps_rep, gaps_row r]
    rfl
end Wm

/-! Ticks of bent rows as data. -/
namespace Wm
open PySem L2
inductive Tk : PyData → Prop
  | int {i : Int} : i.natAbs < 1000000 → Tk (.int i)
  | bl (b : Bool) : Tk (.bool b)
  | non : Tk .none
  | one : Tk (.str "1")
  | lst : Tk (.list [.int 0])
def Item (K : PySem.W.Frag) (H : Hp) (x : V) : Prop := ∃ d, Dp K H x d ∧ Tk d
theorem sqL_keep {K : PySem.W.Frag} {H H' : Hp} {a : Addr} {xs : List V} (e : Same H H') (h : SqL K H a xs) : SqL K H' a xs := by
  rcases h with (h | ⟨o, h⟩) | h
  · exact .inl (.inl (e _ _ h))
  · exact .inl (.inr ⟨o, e _ _ h⟩)
  · exact .inr h
theorem tk_keep {K : PySem.W.Frag} {H H' : Hp} {x : V} {d : PyData} (e : Same H H') (h : Dp K H x d) (t : Tk d) : Dp K H' x d := by
  cases t with
  | int _ => cases h; exact .int _
  | bl b => cases h; exact .bl _
  | non => cases h; exact .non
  | one => cases h; exact .str _
  | lst =>
    cases h with
    | lst q a =>
      refine .lst (sqL_keep e q) ?_
      cases a with
      | cons b c =>
        cases b
        cases c
        exact .cons (.int _) .nil
theorem Item.keep {K : PySem.W.Frag} {H H' : Hp} {x : V} (e : Same H H') (h : Item K H x) : Item K H' x := let ⟨d, a, b⟩ := h; ⟨d, tk_keep e a b, b⟩
theorem tks_keep {K : PySem.W.Frag} {H H' : Hp} (e : Same H H') : ∀ {xs : List V} {ds : List PyData}, DpAll K H xs ds → (∀ d ∈ ds, Tk d) → DpAll K H' xs ds
  | _, _, .nil, _ => .nil
  | _, _, .cons a b, t => .cons (tk_keep e a (t _ (by simp))) (tks_keep e b fun d m => t d (List.mem_cons_of_mem _ m))
theorem items_data {K : PySem.W.Frag} {H : Hp} : ∀ {xs : List V}, (∀ x ∈ xs, Item K H x) → ∃ ds, DpAll K H xs ds ∧ (∀ d ∈ ds, Tk d) ∧ ds.length = xs.length
  | [], _ => ⟨[], .nil, by simp, rfl⟩
  | x :: xs, h => by
    obtain ⟨d, a, b⟩ := h x (by simp)
    obtain ⟨ds, c1, c2, c3⟩ := items_data (xs := xs) fun y m => h y (List.mem_cons_of_mem _ m)
    refine ⟨d :: ds, .cons a c1, fun y m => ?_, by rw [List.length_cons, List.length_cons, c3]⟩
    rcases List.mem_cons.mp m with q | q
    · rw [q]; exact b
    · exact c2 y q
theorem item_int {K : PySem.W.Frag} {H : Hp} {i : Int} (h : i.natAbs < 1000000) : Item K H (.int i) := ⟨_, .int i, .int h⟩
theorem tk_lay {d : PyData} (t : Tk d) : d.canLay0 = true ∧ d.depth ≤ 1 := by
  cases t with
  | int _ => exact ⟨by simp [PyData.canLay0], by simp [PyData.depth]⟩
  | bl b => exact ⟨by simp [PyData.canLay0], by simp [PyData.depth]⟩
  | non => exact ⟨by simp [PyData.canLay0], by simp [PyData.depth]⟩
  | one => exact ⟨by decide +kernel, by simp [PyData.depth]⟩
  | lst => exact ⟨by simp [PyData.canLay0, PyData.canLayAll0], by simp [PyData.depth, PyData.depthAll]⟩
theorem tks_lay : ∀ {ds : List PyData}, (∀ d ∈ ds, Tk d) → PyData.canLayAll0 ds = true ∧ PyData.depthAll ds ≤ 1
  | [], _ => by simp [PyData.canLayAll0, PyData.depthAll]
  | d :: ds, h => by
    have h1 := tk_lay (h d (by simp))
    have h2 := tks_lay (ds := ds) fun y m => h y (List.mem_cons_of_mem _ m)
    simp only [PyData.canLayAll0, PyData.depthAll, h1.1, h2.1, Bool.and_self, true_and]
    omega
theorem tks_shaped {ds : List PyData} (h : ∀ d ∈ ds, Tk d) : SeqAt.shaped (.list ds) = true := by
  have q := tks_lay h
  have e : decide ((PyData.list ds).depth ≤ 64) = true := decide_eq_true (by simp only [PyData.depth]; omega)
  show ((PyData.list ds).canLay0 && _) = true
  rw [e, Bool.and_true]
  exact q.1
theorem tk_show {d : PyData} (t : Tk d) : d.showable = true ∧ d.hasDict = false ∧ d.leavesShort 13 = true ∧ d.weight ≤ 30 := by
  cases t with
  | @int i h =>
    have hl : i.natAbs.log2 < 20 ∨ i = 0 := by
      by_cases z : i = 0
      · exact .inr z
      · exact .inl ((Nat.log2_lt (by omega)).mpr (by omega))
    refine ⟨decide_eq_true ?_, rfl, decide_eq_true (PyData.shown_int_le (by omega)), ?_⟩
    · rcases hl with z | z
      · omega
      · subst z; decide
    · rcases hl with z | z
      · simp only [PyData.weight]; split <;> omega
      · subst z; decide
  | bl b => exact ⟨rfl, rfl, rfl, by simp [PyData.weight]⟩
  | non => exact ⟨rfl, rfl, rfl, by simp [PyData.weight]⟩
  | one => exact ⟨rfl, rfl, by decide +kernel, by decide +kernel⟩
  | lst => exact ⟨by decide +kernel, rfl, by decide +kernel, by decide +kernel⟩
theorem tks_show : ∀ {ds : List PyData}, (∀ d ∈ ds, Tk d) → PyData.showableAll ds = true ∧ PyData.hasDictAll ds = false ∧ PyData.leavesShortAll 13 ds = true ∧ PyData.weightAll ds ≤ 31 * ds.length
  | [], _ => by simp [PyData.showableAll, PyData.hasDictAll, PyData.leavesShortAll, PyData.weightAll]
  | d :: ds, h => by
    have h1 := tk_show (h d (by simp))
    have h2 := tks_show (ds := ds) fun y m => h y (List.mem_cons_of_mem _ m)
    simp only [PyData.showableAll, PyData.hasDictAll, PyData.leavesShortAll, PyData.weightAll, h1.1, h1.2.1, h1.2.2.1, h2.1, h2.2.1, h2.2.2.1, Bool.and_self, Bool.or_self, true_and, List.length_cons]
    omega
theorem tks_shown {ds : List PyData} (h : ∀ d ∈ ds, Tk d) (l : ds.length ≤ 1000) : (PyData.list ds).shown.length ≤ sizeLine :=
  PyData.shown_fits (B := 13) (by decide) (by decide) (tks_show h).2.2.1 (Nat.le_trans (tks_show h).2.2.2 (by omega))
def isI : V → Bool
  | .int _ => true
  | _ => false
def isBit (x : V) : Bool := decide (x = .int 0) || decide (x = .int 1)
theorem all_ints {xs : List V} (h : ∀ x ∈ xs, isI x = true) : ∃ zs : List Int, xs = zs.map V.int := by
  induction xs with
  | nil => exact ⟨[], rfl⟩
  | cons x xs ih =>
    obtain ⟨zs, e⟩ := ih fun y m => h y (List.mem_cons_of_mem _ m)
    have hx := h x (by simp)
    cases x with
    | int i => exact ⟨i :: zs, by rw [e]; rfl⟩
    | _ => cases hx
theorem all_bits {xs : List V} (h : ∀ x ∈ xs, isBit x = true) : ∃ zs : List Int, xs = zs.map V.int ∧ ∀ z ∈ zs, z = 0 ∨ z = 1 := by
  induction xs with
  | nil => exact ⟨[], rfl, by simp⟩
  | cons x xs ih =>
    obtain ⟨zs, e, b⟩ := ih fun y m => h y (List.mem_cons_of_mem _ m)
    have hx := h x (by simp)
    have hc : x = .int 0 ∨ x = .int 1 := by
      rcases Bool.or_eq_true_iff.mp hx with q | q
      · exact .inl (of_decide_eq_true q)
      · exact .inr (of_decide_eq_true q)
    have : ∃ i : Int, x = .int i ∧ (i = 0 ∨ i = 1) := by
      rcases hc with q | q
      · exact ⟨0, q, .inl rfl⟩
      · exact ⟨1, q, .inr rfl⟩
    obtain ⟨i, rfl, hi⟩ := this
    refine ⟨i :: zs, by rw [e]; rfl, fun z m => ?_⟩
    rcases List.mem_cons.mp m with q | q
    · rw [q]; exact hi
    · exact b z q
/-- what isinstance asks of such a tick -/
theorem tyx_of {K : PySem.W.Frag} {H : Hp} {x : V} (h : Item K H x) : ∃ (n : String) (a b : Bool), TyX K H x (.type n) ∧ PySem.W.kitOne K (.type n) (.type "int") = some a ∧
    PySem.W.kitOne K (.type n) (.type "bool") = some b ∧ (a && !b) = isI x := by
  obtain ⟨d, h, t⟩ := h
  cases t with
  | int _ => cases h; exact ⟨"int", true, false, .base (.int _), kit_ty (by decide +kernel), kit_ty (by decide +kernel), rfl⟩
  | bl b => cases h; exact ⟨"bool", true, true, .base (.bl _), kit_ty (by decide +kernel), kit_ty (by decide +kernel), rfl⟩
  | non => cases h; exact ⟨"NoneType", false, false, .base .non, kit_ty (by decide +kernel), kit_ty (by decide +kernel), rfl⟩
  | one => cases h; exact ⟨"str", false, false, .base (.str _), kit_ty (by decide +kernel), kit_ty (by decide +kernel), rfl⟩
  | lst =>
    cases h with
    | lst q a =>
      rcases q with (q | ⟨o, q⟩) | q
      · exact ⟨"list", false, false, .base (.lst q), kit_ty (by decide +kernel), kit_ty (by decide +kernel), rfl⟩
      · exact ⟨"list", false, false, .base (.frz q), kit_ty (by decide +kernel), kit_ty (by decide +kernel), rfl⟩
      · obtain ⟨o, xs, n, e, c, _⟩ := q
        exact ⟨"list", false, false, .kList e c, kit_ty (by decide +kernel), kit_ty (by decide +kernel), rfl⟩
/-- a list or a tuple -/
def SqA (K : PySem.W.Frag) (H : Hp) (a : Addr) (xs : List V) : Prop := SqL K H a xs ∨ SqT K H a xs
theorem SqA.keep {K : PySem.W.Frag} {H H' : Hp} {a : Addr} {xs : List V} (e : Same H H') (h : SqA K H a xs) : SqA K H' a xs := h.imp (sqL_keep e) (sameT e)
end Wm

/-! Texts of digits: halves, groups, the number they tell. -/
namespace Wm
open PySem L2 TL
def oneS (g : Nat) : Str := ⟨(List.replicate g 49).toArray⟩
def bitS (z : Int) : Str := if z = 1 then "1" else "0"
def decS (g : Nat) : Str := ((toString (g : Int) : String) : Str)
theorem bit_str {z : Int} (h : z = 0 ∨ z = 1) : ((toString z : String) : Str) = bitS z := by
  rcases h with e | e <;> subst e <;> decide +kernel
theorem tl_bit (z : Int) : tl (bitS z) = [if z = 1 then 49 else 48] := by
  unfold bitS
  by_cases c : z = 1
  · rw [if_pos c, if_pos c]; decide +kernel
  · rw [if_neg c, if_neg c]; decide +kernel
theorem joinL_nil : ∀ ps : List (List Nat), joinL [] ps = ps.flatten
  | [] => rfl
  | [p] => by show p = [p].flatten; simp
  | p :: q :: r => by
    show p ++ ([] ++ joinL [] (q :: r)) = _
    rw [joinL_nil (q :: r), List.nil_append]
    rfl
theorem tl_empty : tl ("" : Str) = [] := by decide +kernel
theorem tl_zero : tl ("0" : Str) = [48] := by decide +kernel
theorem tl_join0 (ys : List Str) : tl (Txt.join "" ys) = (ys.map tl).flatten := by
  rw [join_eq, tl_join, tl_empty, joinL_nil]
theorem bits_flat : ∀ zs : List Int, ((zs.map bitS).map tl).flatten = bits zs
  | [] => rfl
  | z :: zs => by
    rw [List.map_cons, List.map_cons, List.flatten_cons, bits_flat zs, tl_bit]
    rfl
theorem halves_eq (zs : List Int) : Txt.join "" (zs.map bitS) = Txt.join "0" ((gaps zs).map oneS) := by
  refine ext_tl ?_
  rw [tl_join0, bits_flat, gaps_join, join_eq, tl_join, tl_zero, List.map_map]
  rfl
theorem groups_eq (zs : List Int) : Txt.split (Txt.join "" (zs.map bitS)) "0" = (gaps zs).map oneS := by
  rw [halves_eq]
  refine split_join (s := 48) (S := []) tl_zero (by decide +kernel) (map_ne (gaps_ne zs)) fun p hp h => ?_
  obtain ⟨g, _, rfl⟩ := List.mem_map.mp hp
  have h : 48 ∈ List.replicate g 49 := h
  exact absurd (List.mem_replicate.mp h).2 (by decide)
theorem oneS_len (g : Nat) : (oneS g).length = g := by
  rw [len_tl]
  show (List.replicate g 49).length = g
  rw [List.length_replicate]
theorem halves_len (zs : List Int) : (Txt.join "" (zs.map bitS)).length = zs.length := by
  rw [len_tl, tl_join0, bits_flat]
  unfold bits
  rw [List.length_map]
theorem len4 : ∀ g : Fin 1001, (decS g.val).length ≤ 4 := by decide +kernel
theorem dec_len {g : Nat} (h : g ≤ 1000) : (decS g).length ≤ 4 := len4 ⟨g, by omega⟩
theorem dec_sum : ∀ {gs : List Nat}, (∀ g ∈ gs, g ≤ 1000) → ((gs.map decS).map (·.length)).sum ≤ 4 * gs.length
  | [], _ => by simp
  | g :: gs, h => by
    have h1 := dec_len (h g (by simp))
    have h2 := dec_sum (gs := gs) fun y m => h y (List.mem_cons_of_mem _ m)
    rw [List.map_cons, List.map_cons, List.sum_cons, List.length_cons]
    omega
theorem join0_len (ys : List Str) : (Txt.join "" ys).length = (ys.map (·.length)).sum := by
  rw [len_tl, tl_join0]
  induction ys with
  | nil => rfl
  | cons y ys ih => rw [List.map_cons, List.flatten_cons, List.length_append, ih, List.map_cons, List.sum_cons, len_tl]
theorem bit_sum (zs : List Int) : ((zs.map bitS).map (·.length)).sum = zs.length := by rw [← join0_len, halves_len]
theorem num_text : ∀ {ds : List Nat}, (∀ d ∈ ds, 1 ≤ d ∧ d ≤ 9) → Txt.join "" (ds.map decS) = numS ds
  | [], _ => by decide +kernel
  | d :: ds, h => by
    have ih := num_text (ds := ds) fun y m => h y (List.mem_cons_of_mem _ m)
    refine ext_tl ?_
    rw [tl_join0, List.map_cons, List.map_cons, List.flatten_cons, ← tl_join0, ih]
    have e : decS d = numS [d] := dig_str (h d (by simp))
    rw [e]
    rfl
/-- the number that a row of bits tells, if it is a row -/
def told (zs : List Int) : Str := Txt.join "" ((gaps (Hf.ev2 zs)).dropLast.dropLast.map decS)
theorem told_row {ds : List Nat} (h : ∀ d ∈ ds, 1 ≤ d ∧ d ≤ 9) : told (rowL ds) = numS ds := by
  unfold told
  rw [gaps_row, ← num_text h]
  congr 2
  show (ds ++ [0, 0]).dropLast.dropLast = ds
  rw [show (ds ++ [0, 0]) = (ds ++ [0]) ++ [0] by simp, List.dropLast_concat, List.dropLast_concat]
theorem digits_codes : ("123456789" : Str).cps.toList = [49, 50, 51, 52, 53, 54, 55, 56, 57] := by decide +kernel
theorem dig_text (t : Str) (h : ∀ c ∈ tl t, c ∈ ("123456789" : Str).cps.toList) : ∃ ds : List Nat, (∀ d ∈ ds, 1 ≤ d ∧ d ≤ 9) ∧ t = numS ds := by
  have h2 : ∀ c ∈ tl t, 49 ≤ c ∧ c ≤ 57 := fun c m => by
    have q := h c m
    rw [digits_codes] at q
    simp only [List.mem_cons, List.not_mem_nil, or_false] at q
    omega
  refine ⟨(tl t).map (· - 48), fun d m => ?_, ?_⟩
  · obtain ⟨c, mc, rfl⟩ := List.mem_map.mp m
    have := h2 c mc
    omega
  · refine ext_tl ?_
    show tl t = ((tl t).map (· - 48)).map (· + 48)
    rw [List.map_map]
    refine (List.map_id _).symm.trans (List.map_congr_left fun c m => ?_)
    have := h2 c m
    show c = c - 48 + 48
    omega
theorem num_codes {ds : List Nat} (h : ∀ d ∈ ds, 1 ≤ d ∧ d ≤ 9) : ∀ c ∈ tl (numS ds), c ∈ ("123456789" : Str).cps.toList := fun c m => by
  have m : c ∈ codes ds := m
  obtain ⟨d, md, rfl⟩ := List.mem_map.mp m
  exact dig_in (h d md)
def IsNum (t : Str) : Prop := ∃ ds, Num ds ∧ t = numS ds
theorem isnum_dig {ds : List Nat} : IsNum (numS ds) ↔ Num ds :=
  ⟨fun ⟨es, N, e⟩ => by rw [numS_inj e]; exact N, fun N => ⟨ds, N, rfl⟩⟩
theorem row_inj {ds es : List Nat} (N : Num ds) (M : Num es) (h : (rowL ds).map V.int = (rowL es).map V.int) : ds = es := by
  have e : rowL ds = rowL es := by
    have q := congrArg (List.map fun v => match v with | V.int i => i | _ => 0) h
    simpa [List.map_map, Function.comp_def] using q
  exact ones_inj (fun d m => (N.dig d m).1) (fun d m => (M.dig d m).1) (by rw [e])
theorem map_int_inj {xs ys : List Int} (h : xs.map V.int = ys.map V.int) : xs = ys := by
  have q := congrArg (List.map fun v => match v with | V.int i => i | _ => 0) h
  simpa [List.map_map, Function.comp_def] using q
/-- what number_of tells of a row -/
def Told (xs : List V) (v : V) : Prop := (∃ ds, Num ds ∧ xs = (rowL ds).map V.int ∧ v = .str (numS ds)) ∨ ((∀ ds, Num ds → xs ≠ (rowL ds).map V.int) ∧ v = .non)
theorem Told.uniq {xs : List V} {v u : V} (a : Told xs v) (b : Told xs u) : v = u := by
  rcases a with ⟨ds, N, e, rfl⟩ | ⟨n, rfl⟩
  · rcases b with ⟨es, M, f, rfl⟩ | ⟨n, _⟩
    · rw [row_inj N M (e.symm.trans f)]
    · exact absurd e (n ds N)
  · rcases b with ⟨es, M, f, rfl⟩ | ⟨_, rfl⟩
    · exact absurd f (n es M)
    · rfl
theorem Told.row {ds : List Nat} {v : V} (N : Num ds) (a : Told ((rowL ds).map V.int) v) : v = .str (numS ds) := a.uniq (.inl ⟨ds, N, rfl, rfl⟩)
end Wm

/-! enumerate of a tuple, as a thing that a for walks. -/
namespace Es
open PySem PySem.Spec PyProof.Rows L2
theorem meets_ent (t : Addr) (its : Array Value) (m : Nat) (dd : Option Addr) (slo : Array (Option Value)) :
    Meets (Builtin.«enumerate.__new__» ⟨[.type "enumerate", .ref t], []⟩) (fun _ R s => s.heap.get? t = some { cls := .type "tuple", dict := dd, data := .seq its m, slots := slo } ∧
      R (.ok (.ret (.ref (s.heap.push { cls := .type "tuple_iterator", data := .fields #[.ref t, .int 0 0] }).objs.size))) { s with heap := (s.heap.push { cls := .type "tuple_iterator", data := .fields #[.ref t, .int 0 0] }).push { cls := .type "enumerate", data := .fields #[.none, .bool false, .ref s.heap.objs.size, rawInt 0, .none, .none] } }) :=
  .of_wp fun prog w A R s h => by
    obtain ⟨hp, gn, dr, tk, os⟩ := s
    obtain ⟨ht, h⟩ := h
    have hsub := sub_enumerate
    have hT : Heap.IsTuple (Shared.heap ⟨hp, gn, dr, tk, os⟩) t its := ⟨_, ht, rfl, m, rfl⟩
    wp_walk using AutoSeq1.wpAny_loadPart' ht
    refine wpAny_stack_any fun st => wpAny_pure ?_
    split
    · rename_i c _ _ _ _ _
      cases (c == Value.type "enumerate")
      · wp_walk using AutoSeq1.wpAny_loadPart' ht, wpAny_pyIter_tuple hT
        exact ⟨_, rfl, h⟩
      · wp_walk using AutoSeq1.wpAny_loadPart' ht, wpAny_pyIter_tuple hT
        exact ⟨_, rfl, h⟩
    · wp_walk using AutoSeq1.wpAny_loadPart' ht, wpAny_pyIter_tuple hT
      exact ⟨_, rfl, h⟩
section
variable {prog : Program} {w : World} {A : Around} {E : Value → Shared → Prop} {s : Shared}
theorem call_ent {t : Addr} {its : Array Value} {Q : Value → Shared → Prop} (ht : s.heap.IsTuple t its)
    (q : ∀ g, IsEnum g (s.heap.objs.size + 1) s.heap.objs.size 0 .none → g.IsTupleIter s.heap.objs.size t 0 → (∀ b o, s.heap.get? b = some o → g.get? b = some o) → Q (.ref (s.heap.objs.size + 1)) { s with heap := g }) :
    wpAny (model prog w) A (call (.type "enumerate") [.ref t]) Q E s := by
  obtain ⟨⟨tc, td, tdat, tsl⟩, h0, h1, m, h2⟩ := ht
  simp only at h1 h2
  subst h1 h2
  refine callType_new F.called_enumerate (by decide) (F.typeCall_enumerate_1 _) (F.newCall_enumerate_1 _) (fun ob => F.args_object_init_2 ob _) F.entry_enumerate_new (meets_ent t its m td tsl) ⟨h0, ?_⟩
  have hz : (s.heap.push { cls := .type "tuple_iterator", data := .fields #[.ref t, .int 0 0] }).objs.size = s.heap.objs.size + 1 := Heap.size_push ..
  have er : IsEnum ((s.heap.push { cls := .type "tuple_iterator", data := .fields #[.ref t, .int 0 0] }).push { cls := .type "enumerate", data := .fields #[.none, .bool false, .ref s.heap.objs.size, rawInt 0, .none, .none] }) (s.heap.objs.size + 1) s.heap.objs.size 0 .none := by
    rw [← hz]
    exact Heap.get?_push_size _ rfl
  show _ ∧ _
  rw [hz]
  exact ⟨⟨_, er, rfl⟩, q _ er ⟨_, Heap.get?_push_of_some _ (Heap.get?_push_size _ rfl), rfl, rfl⟩ fun b o x => Heap.get?_push_of_some _ (Heap.get?_push_of_some _ x)⟩
theorem tup_end {e it t : Addr} {i : Nat} {its : Array Value} {old : Value} {k : Int} {Q : Option Value → Shared → Prop} (hh : A.handled = none) (er : IsEnum s.heap e it k old) (ti : s.heap.IsTupleIter it t i) (ht : s.heap.IsTuple t its) (hx : its[i]? = none)
    (q : ∀ g, Heap.ExtBut it s.heap g → Q none { s with heap := g }) : wpAny (model prog w) A (pyNext (.ref e)) Q E s := by
  have te : s.TypeIs (.ref e) "enumerate" := ⟨_, er, rfl⟩
  unfold pyNext
  refine wpAny_bind (wpAny_attempt (wpAny_callSpecial?_slot (name := Str.ofString "__next__") te F.slot_enumerate_next (wpAny_call_entry F.slot_enumerate_next te F.entry_enumerate_next ?_ (F.args_enumerate_next_1 _))))
  show wpAny _ _ (field (.ref e) 2 >>= _) _ _ _
  refine wpAny_bind (wpAny_field er rfl (x := .ref it) rfl ?_)
  refine wpAny_bind (wpAny_nextOf_tuple_end (show A.in1.handled = none from hh) ti ht hx fun g x k1 ⟨o, k2, k3⟩ => ?_)
  refine wpAny_bind (wpAny_isInstance (T := "StopIteration") (b := true) ⟨o, k2, k3⟩ isSubtype_stop ?_)
  exact wpAny_pure (q _ k1)
end
def Iten (K : PySem.W.Frag) (a : Addr) : It :=
  ⟨fun i H => ∃ (xs : List V) (x : V), SqT K H a xs ∧ xs[i]? = some x, fun i H v H' => ∃ T x, v = .ref T ∧ H T = none ∧ H' = upd H T (.tup [.int (i : Nat), x]) ∧ ∀ xs, SqT K H a xs → xs[i]? = some x, fun i H => ∃ xs : List V, SqT K H a xs ∧ xs.length ≤ i⟩
theorem turn_ent {P : Program} {w : World} {K : PySem.W.Frag} {elts : List Expr} {kk : Nat} {tpos : Pos} (a e it : Addr) (nei : e ≠ it) (nea : e ≠ a) (nai : a ≠ it) :
    Turn P w K (.Tuple elts kk tpos) (Iten K a) [e, it] e (fun i h => (∃ old, IsEnum h e it ((i : Nat) : Int) old) ∧ h.IsTupleIter it a i) where
  mem := by simp
  obj := fun i h st b hb => by
    obtain ⟨⟨old, er⟩, o, ho, _, hd⟩ := st
    have hb' : b = e ∨ b = it := by simpa using hb
    rcases hb' with z | z
    · rw [z]
      exact ⟨_, er, fun v q => nomatch q⟩
    · rw [z]
      exact ⟨o, ho, fun v q => by rw [hd] at q; cases q⟩
  keep := fun i h g st k => by
    obtain ⟨⟨old, er⟩, ti⟩ := st
    exact ⟨⟨old, k e (by simp) _ er⟩, ti.at fun o q => k it (by simp) o q⟩
  item := by
    intro X hP hw hK hc i pins s σ H E I hf st hg
    subst hP hw hK
    obtain ⟨⟨old, er⟩, ti⟩ := st
    obtain ⟨xs, x, hq, hx⟩ := hg
    obtain ⟨its, rv, p, _⟩ := I.tuple hq
    obtain ⟨u, hu, ru⟩ := rv.get hx
    have el : e < s.heap.objs.size := Heap.lt_size er
    have il : it < s.heap.objs.size := by
      obtain ⟨_, q, _⟩ := id ti
      exact Heap.lt_size q
    have hlt : i < its.toArray.size := by
      have q := (List.getElem?_eq_some_iff.mp hu).1
      simpa using q
    have hd : X.A.in1.handled = none := I.ok.hd hc
    refine wpAny_pyNext_enum_itemD (Draws.tuple hd it a nai its.toArray) er ⟨ti, p⟩ hlt nei (by simp [nei, nea]) fun y g tk hy eo st2 hT hsz hk => ?_
    have ey : y = u := by
      rw [show its.toArray[i]? = some u by simpa using hu] at hy
      exact (Option.some.inj hy).symm
    subst ey
    refine ⟨_, rfl, wpAny_letOwnedTupleGo_enum (s := { s with heap := g, toks := tk + 1 }) eo fun g2 er2 sb => ?_⟩
    have hT2 : g2.get? s.heap.objs.size = some { cls := .type "tuple", data := .seq #[.int i tk, y] } := (sb.2 _ (Nat.ne_of_gt el)).trans hT
    have new : ObjOk X.prog X.w (upd H s.heap.objs.size (.tup [.int (i : Nat), x])) g2 s.heap.objs.size (.tup [.int (i : Nat), x]) := ⟨by show 2 ≤ sizeLine; decide, [.int i tk, y], .cons ⟨_, rfl⟩ (.cons ru .nil), ⟨_, hT2, rfl, _, rfl⟩⟩
    have I1 : Inv X pins σ (upd H s.heap.objs.size (.tup [.int (i : Nat), x])) { s with heap := g2, toks := tk + 1 } := I.turnedNew (ch := [e, it]) (fun b ob hb q => (sb.2 b (fun z => hb (by simp [z]))).trans (hk b ob (fun z => hb (by simp [z])) (fun z => hb (by simp [z])) q)) hf (Nat.le_refl _) new
    refine ⟨.ref s.heap.objs.size, _, I1, rfl, ⟨_, x, rfl, I.hok.fresh (Nat.le_refl _), rfl, fun ys hy => by rw [I.tuple_inj hy hq]; exact hx⟩, ⟨⟨y, ?_⟩, st2.1.at fun o q => (sb.2 it nei.symm).trans q⟩, fun b hb => ?_⟩
    · rw [show ((i + 1 : Nat) : Int) = (i : Int) + 1 by omega]
      exact er2
    · have lb : b < s.heap.objs.size := by
        have hb' : b = e ∨ b = it := by simpa using hb
        rcases hb' with z | z
        · rw [z]; exact el
        · rw [z]; exact il
      rw [upd_ne (Nat.ne_of_lt lb)]
      exact (hf b hb).1
  done := by
    intro X hP hw hK hc i pins s σ H E I hf st hg
    subst hP hw hK
    obtain ⟨⟨old, er⟩, ti⟩ := st
    obtain ⟨xs, hq, hx⟩ := hg
    obtain ⟨its, rv, p, _⟩ := I.tuple hq
    have hl := rv.length
    exact tup_end (I.ok.hd hc) er ti p (by simp; omega) fun g kg => ⟨rfl, I.turnedL (t' := s.toks) (ch := [e, it]) (fun b o hb q => kg b o (fun z => hb (by simp [z])) q) hf⟩
  self := fun A i s Q E st h => let ⟨⟨_, er⟩, _⟩ := st; wpAny_pyIter_enum er h
def iEnt (K : PySem.W.Frag) (ta : TA) : TI := fun σ H R => ta σ H fun vs H1 => ∃ a xs, vs = [.ref a] ∧ SqT K H1 a xs ∧ R (Iten K a) H1
theorem pi_ent {X : Cx} {e : Expr} {ta : TA} {p pos tpos : Pos} {elts : List Expr} {kk : Nat} (hg : Gl X "enumerate") (hm : X.mg "enumerate" = none) (ha : PA X [e] ta) (hs : starEach [e] X.env = [(false, eval e X.env)] := by rfl) :
    PI X (.Tuple elts kk tpos) (.Call (.Name "enumerate" p) [e] [] pos) (iEnt X.K ta) := by
  refine ⟨fun pins s σ H R I h => ?_⟩
  refine Call_ (ld_blt I hg hm boot_enumerate (PyProof.Rows.callWith_type1 (thn (ha.run pos pins s σ H _ I h) fun us s1 ⟨vs, H1, I1, r1, q1⟩ => ?_) hs rfl))
  obtain ⟨a, xs, ev, hq, q⟩ := q1
  subst ev
  cases r1 with
  | cons r rr =>
    cases rr
    cases r
    obtain ⟨its, rv, pt, _⟩ := I1.tuple hq
    obtain ⟨ot, hot, _⟩ := id pt
    have al : a < s1.heap.objs.size := Heap.lt_size hot
    refine call_ent (show s1.heap.IsTuple a its.toArray from pt) fun g er ti kg => wpAny_pyIter_enum er ?_
    have I2 : Inv X pins σ H1 { s1 with heap := g } := I1.kept (t' := s1.toks) kg
    refine ⟨s1.heap.objs.size + 1, [s1.heap.objs.size + 1, s1.heap.objs.size], _, _, H1, rfl, I2, turn_ent a (s1.heap.objs.size + 1) s1.heap.objs.size (Nat.succ_ne_self _) (Nat.ne_of_gt (Nat.lt_succ_of_lt al)) (Nat.ne_of_lt al), ⟨⟨.none, er⟩, ti⟩, fun b hb => ?_, q⟩
    have hb' : b = s1.heap.objs.size + 1 ∨ b = s1.heap.objs.size := by simpa using hb
    have le : s1.heap.objs.size ≤ b := by
      rcases hb' with z | z
      · rw [z]; exact Nat.le_add_right _ _
      · rw [z]; exact Nat.le_refl _
    exact I1.fpOk le (I1.hok.fresh le)
theorem walk_ent {K : PySem.W.Frag} {a : Addr} {xs : List V} : Walk (Iten K a) xs.length (fun H => SqT K H a xs) (YPair (fun i => some (.int (i : Nat))) (fun i => xs[i]?)) := by
  refine ⟨fun i _ hi q => ⟨xs, xs[i], q, by simp [hi]⟩, fun _ q => ⟨xs, q, Nat.le_refl _⟩, fun i H v H' _ q y => ?_⟩
  obtain ⟨T, x, y1, y2, y3, y4⟩ := y
  exact ⟨T, .int (i : Nat), x, y1, y2, y3, rfl, y4 xs q⟩
end Es

/-! len(set(xs)) of a list of texts: how many different ones. -/
namespace Sl
open PySem PySem.Spec PyProof.Rows
section
variable {prog : Program} {w : World} {A : Around} {E : Value → Shared → Prop} {s : Shared}
/-- c different ones among the first i: c = i just if they differ -/
def Cnt (xs : List Str) (i c : Nat) : Prop := c ≤ i ∧ (c = i ↔ (xs.take i).Nodup)
theorem cnt_zero (xs : List Str) : Cnt xs 0 0 := ⟨Nat.le_refl _, by simp⟩
theorem cnt_succ {xs : List Str} {i c : Nat} {x : Str} (h : Cnt xs i c) (hx : xs[i]? = some x) : Cnt xs (i + 1) (if decide (x ∈ xs.take i) = true then c else c + 1) := by
  obtain ⟨h1, h2⟩ := h
  have e : xs.take (i + 1) = xs.take i ++ [x] := by rw [List.take_add_one, hx]; rfl
  by_cases m : x ∈ xs.take i
  · rw [decide_eq_true m, if_pos rfl]
    refine ⟨by omega, ⟨fun z => absurd z (by omega), fun z => ?_⟩⟩
    rw [e, List.nodup_append] at z
    exact absurd rfl (z.2.2 x m x (by simp))
  · rw [decide_eq_false m, if_neg (by decide)]
    refine ⟨by omega, ?_⟩
    rw [e, List.nodup_append]
    constructor
    · intro z
      refine ⟨h2.mp (by omega), by simp, fun a ha b hb q => m ?_⟩
      rw [List.mem_singleton] at hb
      rw [← hb, ← q]
      exact ha
    · intro z
      have := h2.mpr z.1
      omega
abbrev so (led : Bool) : Obj := { cls := .type "set", dict := none, data := .set #[] 0 (.fresh 0 0 led) }
theorem at_keep {h h' : Heap} {S : Addr} {f : Str → Bool} {n : Nat} (R : h.SetOf (PySem.strKind prog w) S f n) (k : ∀ o, h.get? S = some o → h'.get? S = some o) : h'.SetOf (PySem.strKind prog w) S f n := by
  obtain ⟨o, es, ep, t, ho, r⟩ := R
  exact ⟨o, es, ep, t, k _ ho, r⟩
theorem fill {R : Result → Shared → Prop} {I : Addr} {fp wr : List Addr} {G : Array GenState → Array GenState → Prop} {n : Nat} {P : Nat → Value → Prop} {St : Nat → Shared → Prop}
    (W : WalksS prog w A.in1 I fp wr G n P St) (S : Addr) (hSf : S ∉ fp) (xs : List Str) (hsz : xs.length = n) (hb : n + 1 < scanBound) (hval : ∀ i v, P i v → ∃ x t, xs[i]? = some x ∧ v = .str x t) :
    ∀ (k i : Nat) (s : Shared), n - i = k → i ≤ n → St i s → (∃ c, Cnt xs i c ∧ s.heap.SetOf (PySem.strKind prog w) S (fun y => decide (y ∈ xs.take i)) c) →
      (∀ s' c, Moved (S :: wr) G s s' → Cnt xs n c → s'.heap.SetOf (PySem.strKind prog w) S (fun y => decide (y ∈ xs.take n)) c → R (.ok (.ret .none)) s') →
      codeAny (model prog w) A (.builtin "set.update.loop" ⟨[.ref S, .ref I], []⟩) R s := by
  have nw : S ∉ wr := fun h => hSf (W.sub _ h)
  have more : ∀ b ∈ wr, b ∈ S :: wr := fun b hb => List.mem_cons_of_mem _ hb
  intro k
  induction k with
  | zero =>
    intro i s hk hi st ⟨c, hc, hS⟩ hR
    have e : i = n := by omega
    subst e
    refine codeAny_builtin PyProof.Rows.F.entry_set_update_loop ?_
    rw [Around.under_plainId PyProof.Rows.F.plain_set_update_loop _]
    show wpAny _ A.in1 (pyNext (.ref I) >>= _) _ _ s
    refine wpAny_bind (W.done s _ _ st fun s' hm => ?_)
    show wpAny _ A.in1 (ret Value.none) _ _ s'
    exact wpAny_pure (hR s' c (hm.mono more) hc (at_keep hS fun o e => hm.heap S o nw e))
  | succ k ih =>
    intro i s hk hi st ⟨c, hc, hS⟩ hR
    have lt : i < n := by omega
    refine codeAny_builtin PyProof.Rows.F.entry_set_update_loop ?_
    rw [Around.under_plainId PyProof.Rows.F.plain_set_update_loop _]
    show wpAny _ A.in1 (pyNext (.ref I) >>= _) _ _ s
    refine wpAny_bind (W.item i s _ _ lt st fun v s' hP st' hm => ?_)
    obtain ⟨x, t, hx, rfl⟩ := hval i v hP
    have hS1 := at_keep (h' := s'.heap) hS fun o e => hm.heap S o nw e
    show wpAny _ A.in1 (holding [Value.str x t] (setAdd S (.str x t)) >>= _) _ _ s'
    refine wpAny_bind (wpAny_holding ?_)
    unfold setAdd
    refine wpAny_holding ?_
    refine wpAny_bind ((PySem.strKind prog w).pyHash (k := x) (strKind_is _ _ _ _) ?_)
    refine wpAny_setAddHashed_of (knd := PySem.strKind prog w) (s := { s' with toks := s'.toks + 1 }) (strKind_is _ _ _ _) rfl hS1 (by have := hc.1; omega) fun g same hS2 => ?_
    have hS3 := SetOf_congr (S' := fun y => decide (y ∈ xs.take (i + 1))) hS2 (fun y => by
      rw [List.take_add_one, hx]
      simp [List.mem_append]) rfl
    refine wpAny_pure ⟨plainId_quiet PyProof.Rows.F.plain_set_update_loop _, ih (i + 1) _ (by omega) lt (W.frame _ s' _ _ st' (Nat.le_succ _) fun b hb o e => ?_) ⟨_, cnt_succ hc hx, hS3⟩ fun s2 c2 m2 hc2 hS4 => ?_⟩
    · rw [same.2 b (fun h : b = S => hSf (by rw [← h]; exact hb))]
      exact e
    · refine hR s2 c2 (Moved.trans W.gtrans ((hm.mono more).then_heap (Nat.le_succ _) fun b o hb e => ?_) m2) hc2 hS4
      rw [same.2 b (fun h : b = S => hb (by rw [h]; exact List.mem_cons_self))]
      exact e
set_option maxHeartbeats 3200000 in
theorem set_strs {l : Addr} {its : Array Value} {xs : List Str} {Q : Value → Shared → Prop} (hh : A.handled = none) (hl : s.heap.IsList l its) (hi : PyProof.Rows.StrsAre its.toList xs) (hb : xs.length + 1 < scanBound)
    (q : ∀ (g : Heap) (tk c : Nat), Cnt xs xs.length c → g.SetOf (PySem.strKind prog w) s.heap.objs.size (fun y => decide (y ∈ xs.take xs.length)) c → (∀ b o, b < s.heap.objs.size → s.heap.get? b = some o → g.get? b = some o) → Q (.ref s.heap.objs.size) { s with heap := g, toks := tk }) :
    wpAny (model prog w) A (call (.type "set") [.ref l]) Q E s := by
  obtain ⟨c0, tl0, m0⟩ := PySem.F.called_set.mro
  have a1 := PySem.F.called_set.made
  have a2 := PySem.F.called_set.sub
  refine wpAny_call (codeAny_of_tree ?_)
  show wpAny _ _ (callAny (.type "set") _) _ _ _
  refine wpAny_pure ⟨Code.quiet_builtin _ (by decide +kernel), codeAny_builtin PySem.F.entry_type_call ?_⟩
  rw [Around.under_plain (weight_type_call_type "set" [.ref l] []) rfl]
  have a3 := PySem.F.called_set.notType
  have a4 := PySem.F.called_set.canCreate
  have a5 := PySem.F.typeCall_set_1 (.ref l)
  repeat (any_goals (first | assumption | wp_step))
  refine codeAny_mono (code_set_new_1 (.ref l) (E := E) (Q₁ := fun ob s₁ => ∃ led : Bool, ob = .ref s.heap.objs.size ∧ s₁ = { s with heap := s.heap.push { cls := .type "set", dict := none, data := .set #[] 0 (.fresh 0 0 led) } }) fun led => ⟨led, rfl, rfl⟩) fun r s₁ hr => ?_
  cases r with
  | error e => exact hr
  | ok fl =>
    cases fl with
    | ret ob =>
      obtain ⟨led, rfl, rfl⟩ := hr
      generalize hso : ({ cls := .type "set", dict := none, data := .set #[] 0 (.fresh 0 0 led) } : Obj) = so
      have hfr : so.isFreed = false := by rw [← hso]; rfl
      have b1 : (s.heap.push so).get? s.heap.objs.size = some so := Heap.get?_push_size _ hfr
      have b2 : Shared.TypeIs { s with heap := s.heap.push so } (.ref s.heap.objs.size) "set" := ⟨_, b1, by rw [← hso]⟩
      have b3 := PySem.F.called_set.init.lookup
      have b4 := PySem.F.called_set.init.bind (.ref s.heap.objs.size)
      repeat (any_goals (first | assumption | wp_step))
      refine codeAny_mono (codeAny_call_builtin (R := wants (fun r s₂ => r = .none ∧ ∃ g tk c, s₂ = { s with heap := g, toks := tk } ∧ Cnt xs xs.length c ∧ g.SetOf (PySem.strKind prog w) s.heap.objs.size (fun y => decide (y ∈ xs.take xs.length)) c ∧
          (∀ b o, b < s.heap.objs.size → s.heap.get? b = some o → g.get? b = some o)) E) PySem.F.called_set.init.plain PySem.F.entry_set_init (check_set_init_1 b2 ?_)) fun r₂ s₂ hr₂ => ?_
      · obtain ⟨ol, hol, hcl, nl, hdl⟩ := hl
        obtain ⟨ocls, odict, odata, oslots⟩ := ol
        simp only at hcl hdl
        subst hcl hdl
        have hol' : (s.heap.push so).get? l = some { cls := .type "list", dict := odict, data := .seq its nl, slots := oslots } := Heap.get?_push_of_some _ hol
        have c1 := PySem.F.sub_list_set
        have c2 := PySem.F.sub_list_frozenset
        have c3 : (Value.type "list" == Value.type "dict") = false := by decide
        have hl1 : (s.heap.push so).IsList l its := ⟨_, hol', rfl, nl, rfl⟩
        unfold Builtin.«set.__init__» noKeywords Builtin.Frozenset.updateFrom
        generalize hPI : pyIter = PI
        have ll : l < s.heap.objs.size := Heap.lt_size hol
        have nI : ∀ ob : Obj, l ≠ (s.heap.push ob).objs.size := fun ob => by
          rw [Heap.size_push]
          exact Nat.ne_of_lt (Nat.lt_succ_of_lt ll)
        have nS : ∀ ob : Obj, s.heap.objs.size ∉ [(s.heap.push ob).objs.size, l] := fun ob => by
          rw [Heap.size_push]
          simp only [List.mem_cons, List.mem_singleton, List.not_mem_nil, or_false, not_or]
          exact ⟨Nat.ne_of_lt (Nat.lt_succ_self _), Nat.ne_of_gt ll⟩
        have nB : ∀ (ob : Obj) (b : Addr), b < s.heap.objs.size → b ≠ (s.heap.push ob).objs.size := fun ob b lb => by
          rw [Heap.size_push]
          exact Nat.ne_of_lt (Nat.lt_succ_of_lt lb)
        subst hso
        wp_walk
        subst hPI
        refine wpAny_pyIter_list hl1 ?_
        refine wpAny_bind (wpAny_runValue ?_)
        have hh3 : A.in1.in1.in1.handled = none := by simp [hh]
        have sz : xs.length = its.size := by rw [← StrsAre.len_eq hi, Array.length_toList]
        have hval : ∀ (i : Nat) (v : Value), its[i]? = some v → ∃ x t, xs[i]? = some x ∧ v = .str x t := fun i v hv => by
          have li : i < xs.length := by
            rw [sz]
            exact (Array.getElem?_eq_some_iff.mp hv).1
          obtain ⟨t, e⟩ := SS.strs_at hi i v (by rw [Array.getElem?_toList]; exact hv)
          refine ⟨xs[i], t, List.getElem?_eq_getElem li, ?_⟩
          rw [e, List.getD_eq_getElem?_getD, List.getElem?_eq_getElem li]
          rfl
        refine fill ((Walks.list hh3 _ l (nI (so led)) its).toS) s.heap.objs.size (nS (so led)) xs sz (by rw [← sz]; exact hb) hval (its.size - 0) 0 _ (by omega) (Nat.zero_le _)
          ⟨⟨_, Heap.get?_push_size _ rfl, rfl, rfl⟩, (hl1.push _)⟩ ?hS0 ?hR
        case hS0 =>
          exact ⟨0, cnt_zero xs, PyProof.Rows.SetOf_congr ((PyProof.Rows.setObjOf_fresh (knd := PySem.strKind prog w) led).setOf (Heap.get?_push_of_some _ b1) (by unfold scanBound; omega)) (fun _ => by simp) rfl⟩
        case hR =>
          intro s' c' hm hc' hS'
          obtain ⟨g, g', d', tk', os'⟩ := s'
          have eg : g' = s.gens := hm.gens
          have ed : d' = s.drawn := hm.drawn
          have eo : os' = s.os := hm.os
          subst eg ed eo
          show wpAny _ _ _ _ _ _
          refine wpAny_pure ?_
          show wpAny _ _ (ret Value.none) _ _ _
          rw [← sz] at hc' hS'
          refine wpAny_pure ⟨rfl, g, tk', c', rfl, hc', hS', fun b o lb e => ?_⟩
          have n1 : b ≠ s.heap.objs.size := Nat.ne_of_lt lb
          have n2 := nB (so led) b lb
          exact hm.heap b o (by simp only [List.mem_cons, List.mem_singleton, List.not_mem_nil, or_false, not_or]; exact ⟨n1, n2⟩) (Heap.get?_push_of_some _ (Heap.get?_push_of_some _ e))
      · cases r₂ with
        | error e => exact hr₂
        | ok fl₂ =>
          cases fl₂ with
          | ret r =>
            obtain ⟨rfl, g, tk, c', rfl, hc', hS', hk'⟩ := hr₂
            repeat (any_goals (first | assumption | wp_step))
            exact q _ _ _ hc' hS' hk'
          | _ => exact hr₂.elim
    | _ => exact hr.elim
end
end Sl
namespace Sl
open PySem PySem.Spec PyProof.Rows L2
section
variable {X : Cx}
def tLen (K : PySem.W.Frag) (ta : TE) : TE := fun σ H Q => ta σ H fun x H1 => ∃ l, ∃ xs : List Str, x = .ref l ∧ SqL K H1 l (xs.map V.str) ∧ xs.length ≤ 4000 ∧ ∀ c, Cnt xs xs.length c → Q (.int (c : Nat)) H1
theorem pe_len {a : Expr} {ta : TE} {p p2 q pos : Pos} (hc : X.calm = true) (hg : Gl X "len") (hm : X.mg "len" = none) (hg2 : Gl X "set") (hm2 : X.mg "set" = none) (ha : PE X a ta)
    (na : starEach [a] X.env = (false, eval a X.env) :: starEach [] X.env := by rfl) : PE X (.Call (.Name "len" p) [.Call (.Name "set" p2) [a] [] q] [] pos) (tLen X.K ta) := by
  refine ⟨fun pins s σ H Q I h => ?_⟩
  refine Call_ (ld_blt I hg hm boot_len ?_)
  refine PyProof.Rows.callWith_builtin1 (PyProof.Rows.args_cons ?_ rfl) rfl rfl
  refine Call_ (ld_blt I hg2 hm2 boot_set ?_)
  refine PyProof.Rows.callWith_type1 (PyProof.Rows.args_cons (thn (ha.run pins s σ H _ I h) fun v s1 ⟨x, H1, I1, r1, q1⟩ => PyProof.Rows.args_nil ?_) na) na rfl
  obtain ⟨l, xs, ev, hq, hl, k⟩ := q1
  subst ev
  cases r1
  obtain ⟨its, r, pl, hz⟩ := I1.list hq
  refine set_strs (I1.ok.hd hc) pl.isList (by simpa using strsAre_of r) (by unfold scanBound; omega) fun g tk c hcn hS hk => ?_
  refine PyProof.Rows.args_nil ?_
  obtain ⟨o, es, ep, t, ho, hex, hd, _, _, _, hf, hn⟩ := hS
  have I2 : Inv X pins σ H1 { s1 with heap := g, toks := tk } := I1.kept fun b o e => hk b o (Heap.lt_size e) e
  have := hcn.1
  refine call_len_set ho hex hd hf (by rw [hn] <;> omega) ⟨.int (c : Nat), H1, I2.tok _, ⟨_, by rw [hn]⟩, k c hcn⟩
end
/-- xs[i], for xs[i] op= e -/
theorem get_list {X : Cx} : PGet X (rIxL X.K) := by
  intro pins s σ H o i ov iv Q I ro ri h
  obtain ⟨p, xs, k, z, rfl, rfl, hq, he, q⟩ := h
  cases ro
  obtain ⟨t, rfl⟩ := ri
  obtain ⟨its, r, pl, hz⟩ := I.list hq
  obtain ⟨j, h1, h2, h3, h4, h5⟩ := atI_get he
  obtain ⟨u, eu, ru⟩ := r.get h2
  have hl := r.length
  have hn := line63
  have fin : EP X pins σ Q u s := ⟨z, H, I, ru, q⟩
  by_cases h0 : 0 ≤ k
  · have hj : k.toNat = j := by
      rw [seqIndex_of h0 h5] at h1
      exact Option.some.inj h1
    exact wpAny_getItem_list pl.isList h0 (by omega) (by rw [hj]; simpa using eu) fin
  · have hj : (k + (its.toArray.size : Int)).toNat = j := by
      rw [seqIndex_neg (by omega) h4] at h1
      rw [List.size_toArray, ← hl]
      exact Option.some.inj h1
    exact wpAny_getItem_list_neg pl.isList (by omega) (by rw [List.size_toArray] <;> omega) (by omega) (by rw [hj]; simpa using eu) fin
end Sl

/-! xs.extend(t), t a tuple; comprehensions of two clauses by walks. -/
namespace Et
open PySem PySem.Spec PyProof.Rows L2
theorem ext_meets (l : Addr) (us : Array Value) (n : Nat) (b : Addr) (vs : Array Value) (m : Nat) (dd : Option Addr) (sl : Array (Option Value)) (h0 : ¬(!us.isEmpty && Builtin.List.listTooLong (us.size + vs.size)) = true) (h1 : us.size ≤ sizeLine) (h2 : us.size + vs.size ≤ sizeLine + 1) :
    Meets (Builtin.«list.extend» ⟨[.ref l, .ref b], []⟩) (fun _ R s => s.heap.get? l = some { cls := .type "list", dict := none, data := .seq us n, slots := #[] } ∧ s.heap.get? b = some { cls := .type "tuple", dict := dd, data := .seq vs m, slots := sl } ∧ R (.ok (.ret Value.none)) { s with heap := s.heap.update l (Obj.mapSeq fun x => x ++ vs), toks := s.toks }) :=
  .of_wp fun prog w A R s h => by
    obtain ⟨hp, g, d, tk, os⟩ := s
    obtain ⟨hl, hb, h⟩ := h
    have f1 := AutoSeq1.idx_int
    have f2 := AutoSeq1.sub_tuple_tuple
    have f3 := AutoSeq1.sub_list_list
    have f4 := AutoSeq1.sub_tuple_list
    have f5 := AutoSeq1.sub_list_tuple
    have hz' : (us ++ vs).size ≤ sizeLine + 1 := by
      rw [Array.size_append]
      exact h2
    wp_walk using (wpAny_updateSeq hl rfl (hz := h1) (_hz' := hz')), AutoSeq1.wpAny_loadPart' hl, AutoSeq1.wpAny_loadPart' hb
    exact ⟨_, rfl, h⟩
section
variable {X : Cx}
def rExtT (K : PySem.W.Frag) : V → List V → Hp → VK → Prop := fun x vs H Q => ∃ l b xs zs, x = .ref l ∧ vs = [.ref b] ∧ H l = some (.lst xs) ∧ SqT K H b zs ∧ xs.length + zs.length ≤ sizeLine ∧ Q .non (upd H l (.lst (xs ++ zs)))
theorem mt_extT : MtM X "list.extend" (rExtT X.K) := by
  intro pins s σ H x vs v us Q I rx rv h
  obtain ⟨l, b, xs, zs, rfl, rfl, hH, hB, hz, q⟩ := h
  cases rx
  obtain ⟨u, rfl, ru⟩ := rv.one
  cases ru
  obtain ⟨z, its, n, r, hl, e⟩ := I.lstM hH
  obtain ⟨its2, r2, p2, _⟩ := I.tuple hB
  obtain ⟨⟨c2, d2, a2, s2⟩, e2, k1, m, k2⟩ := p2
  simp only at k1 k2
  subst k1 k2
  have hl2 := r2.length
  have hsz : its.toArray.size + its2.toArray.size ≤ sizeLine := by
    rw [List.size_toArray, List.size_toArray]
    omega
  have hlong : ¬ (!its.toArray.isEmpty && Builtin.List.listTooLong (its.toArray.size + its2.toArray.size)) = true := by
    rw [notLongL hsz, Bool.and_false]
    exact Bool.false_ne_true
  refine call_meets F.slot_list_extend ⟨_, e, rfl⟩ F.entry_list_extend (F.args_list_extend_2 _ _) (ext_meets l its.toArray n b its2.toArray m d2 s2 hlong (by rw [List.size_toArray]; omega) (by omega)) ⟨e, e2, ?_⟩
  refine ⟨.non, _, I.lset (its' := its ++ its2) hH e (by simp) (r.append r2) ?_, rfl, q⟩
  rw [List.length_append]
  omega
end
/-- the outer clause of a comprehension of two -/
theorem out_it {J : It} {n : Nat} {G : Hp → Prop} {Y : Nat → Hp → V → Hp → Prop} (w : Walk J n G Y) {g : TG} {tt : TT} {B : (Hp → Prop) → L2.St → Hp → Prop} {vs : List Nat} {σ : L2.St} {H1 : Hp} {D : Addr} {Qd : Hp → Prop} (Pv : Nat → Hp → Prop) (h0 : Pv 0 (upd H1 D (.lst []))) (hG : ∀ i H, i ≤ n → Pv i H → G H)
    (hs : ∀ i x H H', i < n → Pv i H → Y i H x H' → g x (wipe σ vs) H' fun σ2 H2 => wipe σ2 vs = wipe σ vs ∧ tt σ2 H2 fun b H3 => if b = true then B (Pv (i + 1)) σ2 H3 else Pv (i + 1) H3) (hd : ∀ H, Pv n H → Qd H) :
    ∃ W : Nat → Nat → Hp → Prop, (∃ m, W 0 m (upd H1 D (.lst []))) ∧ ∀ i m H, W i m H →
      (J.stop i H ∧ Qd H) ∨ (J.go i H ∧ ∃ Nx : Hp → Prop, (∀ H', Nx H' → ∃ m', m' < m ∧ W (i + 1) m' H') ∧ ∀ x H', J.yld i H x H' → g x (wipe σ vs) H' fun σ2 H2 => wipe σ2 vs = wipe σ vs ∧ tt σ2 H2 fun b H3 => if b = true then B Nx σ2 H3 else Nx H3) := by
  refine ⟨fun i m H => m = n - i ∧ i ≤ n ∧ Pv i H, ⟨n, by simp, Nat.zero_le _, h0⟩, ?_⟩
  rintro i m H ⟨rfl, hi, p⟩
  have q := hG i H hi p
  by_cases lt : i < n
  · exact .inr ⟨w.goes i H lt q, Pv (i + 1), fun H' p' => ⟨n - (i + 1), by omega, rfl, lt, p'⟩, fun x H' y => hs i x H H' lt p (w.yields i H x H' lt q y)⟩
  · have e : i = n := by omega
    subst e
    exact .inl ⟨w.stops H q, hd H p⟩
/-- the inner clause -/
theorem in_it {J : It} {n : Nat} {G : Hp → Prop} {Y : Nat → Hp → V → Hp → Prop} (w : Walk J n G Y) {g : TG} {tt : TT} {te : TE} {vs : List Nat} {σ : L2.St} {H1 : Hp} {D : Addr} {Qd : Hp → Prop} (Pv : Nat → Hp → Prop) (h0 : Pv 0 H1) (hG : ∀ i H, i ≤ n → Pv i H → G H)
    (hs : ∀ i x H H', i < n → Pv i H → Y i H x H' → g x (wipe σ vs) H' fun σ2 H2 => wipe σ2 vs = wipe σ vs ∧ tt σ2 H2 fun b H3 =>
      if b = true then te σ2 H3 fun y H4 => ∃ acc, H4 D = some (.lst acc) ∧ acc.length < sizeLine ∧ Pv (i + 1) (upd H4 D (.lst (acc ++ [y]))) else Pv (i + 1) H3) (hd : ∀ H, Pv n H → Qd H) :
    ∃ W : Nat → Nat → Hp → Prop, (∃ m, W 0 m H1) ∧ ∀ i m H, W i m H →
      (J.stop i H ∧ Qd H) ∨ (J.go i H ∧ ∃ Nx : Hp → Prop, (∀ H', Nx H' → ∃ m', m' < m ∧ W (i + 1) m' H') ∧ ∀ x H', J.yld i H x H' → g x (wipe σ vs) H' fun σ2 H2 => wipe σ2 vs = wipe σ vs ∧ tt σ2 H2 fun b H3 =>
        if b = true then te σ2 H3 fun y H4 => ∃ acc, H4 D = some (.lst acc) ∧ acc.length < sizeLine ∧ Nx (upd H4 D (.lst (acc ++ [y]))) else Nx H3) := by
  refine ⟨fun i m H => m = n - i ∧ i ≤ n ∧ Pv i H, ⟨n, by simp, Nat.zero_le _, h0⟩, ?_⟩
  rintro i m H ⟨rfl, hi, p⟩
  have q := hG i H hi p
  by_cases lt : i < n
  · refine .inr ⟨w.goes i H lt q, Pv (i + 1), fun H' p' => ⟨n - (i + 1), by omega, rfl, lt, p'⟩, fun x H' y => hs i x H H' lt p (w.yields i H x H' lt q y)⟩
  · have e : i = n := by omega
    subst e
    exact .inl ⟨w.stops H q, hd H p⟩
end Et

/-! Data of ints, texts and tuples of such; what keeps them. -/
namespace Dv
open PySem L2 Wm
mutual
inductive Dt (K : PySem.W.Frag) (H : Hp) : V → PyData → Prop
  | int (i : Int) : Dt K H (.int i) (.int i)
  | str (x : Str) : Dt K H (.str x) (.str x)
  | tup {a : Addr} {xs : List V} {ds : List PyData} : SqT K H a xs → Dts K H xs ds → Dt K H (.ref a) (.tuple ds)
inductive Dts (K : PySem.W.Frag) (H : Hp) : List V → List PyData → Prop
  | nil : Dts K H [] []
  | cons {v : V} {vs : List V} {d : PyData} {ds : List PyData} : Dt K H v d → Dts K H vs ds → Dts K H (v :: vs) (d :: ds)
end
/-- tuples stand -/
def Kt (K : PySem.W.Frag) (H H' : Hp) : Prop := ∀ a xs, SqT K H a xs → SqT K H' a xs
section
variable {K : PySem.W.Frag} {H H' H2 : Hp}
theorem Kt.refl : Kt K H H := fun _ _ h => h
theorem Kt.trans (a : Kt K H H') (b : Kt K H' H2) : Kt K H H2 := fun p xs h => b p xs (a p xs h)
theorem Kt.same (s : Same H H') : Kt K H H' := fun _ _ h => sameT s h
/-- a store at what is no tuple -/
theorem Kt.set {p : Addr} {o u : HO} (h : H p = some u) (n1 : ∀ xs, u ≠ .tup xs) (n2 : ∀ ob xs, u ≠ .frz ob (.tup xs)) : Kt K H (upd H p o) := fun a xs q => by
  rcases q with (q | ⟨ob, q⟩) | q
  · exact .inl (.inl (by rw [upd_ne (fun e => by subst e; rw [h] at q; exact n1 _ (Option.some.inj q))]; exact q))
  · exact .inl (.inr ⟨ob, by rw [upd_ne (fun e => by subst e; rw [h] at q; exact n2 _ _ (Option.some.inj q))]; exact q⟩)
  · exact .inr q
theorem Kt.lst {p : Addr} {o : HO} {xs : List V} (h : H p = some (.lst xs)) : Kt K H (upd H p o) := Kt.set h (fun _ q => by cases q) (fun _ _ q => by cases q)
theorem Kt.new {p : Addr} {o : HO} (h : H p = none) : Kt K H (upd H p o) := Kt.same (same_new h)
mutual
theorem Dt.keep (k : Kt K H H') : ∀ (d : PyData) (v : V), Dt K H v d → Dt K H' v d
  | .int _, _, h => by cases h; exact .int _
  | .str _, _, h => by cases h; exact .str _
  | .tuple ds, _, h => by
    cases h with
    | tup a b => exact .tup (k _ _ a) (Dts.keep k ds _ b)
  | .none, _, h => by cases h
  | .bool _, _, h => by cases h
  | .list _, _, h => by cases h
  | .dict _, _, h => by cases h
theorem Dts.keep (k : Kt K H H') : ∀ (ds : List PyData) (vs : List V), Dts K H vs ds → Dts K H' vs ds
  | [], _, h => by cases h; exact .nil
  | d :: ds, _, h => by
    cases h with
    | cons a b => exact .cons (Dt.keep k d _ a) (Dts.keep k ds _ b)
end
mutual
theorem Dt.dp : ∀ (d : PyData) (v : V), Dt K H v d → Dp K H v d
  | .int _, _, h => by cases h; exact .int _
  | .str _, _, h => by cases h; exact .str _
  | .tuple ds, _, h => by
    cases h with
    | tup a b => exact .tup a (Dts.dp ds _ b)
  | .none, _, h => by cases h
  | .bool _, _, h => by cases h
  | .list _, _, h => by cases h
  | .dict _, _, h => by cases h
theorem Dts.dp : ∀ (ds : List PyData) (vs : List V), Dts K H vs ds → DpAll K H vs ds
  | [], _, h => by cases h; exact .nil
  | d :: ds, _, h => by
    cases h with
    | cons a b => exact .cons (Dt.dp d _ a) (Dts.dp ds _ b)
end
theorem Dt.k {d : PyData} {v : V} (h : Dt K H v d) (k : Kt K H H') : Dt K H' v d := Dt.keep k _ _ h
theorem Dts.k {ds : List PyData} {vs : List V} (h : Dts K H vs ds) (k : Kt K H H') : Dts K H' vs ds := Dts.keep k _ _ h
theorem Dt.toDp {d : PyData} {v : V} (h : Dt K H v d) : Dp K H v d := Dt.dp _ _ h
theorem Dts.toDp {ds : List PyData} {vs : List V} (h : Dts K H vs ds) : DpAll K H vs ds := Dts.dp _ _ h
theorem Dt.inv {ds : List PyData} {v : V} (h : Dt K H v (.tuple ds)) : ∃ p xs, v = .ref p ∧ SqT K H p xs ∧ Dts K H xs ds := by
  cases h with
  | tup a b => exact ⟨_, _, rfl, a, b⟩
theorem Dt.str_inv {x : Str} {v : V} (h : Dt K H v (.str x)) : v = .str x := by cases h; rfl
theorem Dt.int_inv {i : Int} {v : V} (h : Dt K H v (.int i)) : v = .int i := by cases h; rfl
theorem Dts.len {ds : List PyData} {vs : List V} (h : Dts K H vs ds) : vs.length = ds.length := by
  induction ds generalizing vs with
  | nil => cases h; rfl
  | cons d ds ih =>
    cases h with
    | cons a b => rw [List.length_cons, List.length_cons, ih b]
theorem Dts.at {i : Nat} {ds : List PyData} {vs : List V} {v : V} (h : Dts K H vs ds) (g : vs[i]? = some v) : ∃ d, ds[i]? = some d ∧ Dt K H v d := by
  induction ds generalizing vs i with
  | nil =>
    cases h
    simp at g
  | cons d ds ih =>
    cases h with
    | cons a b =>
      cases i with
      | zero =>
        simp at g
        subst g
        exact ⟨d, rfl, a⟩
      | succ i => exact ih b (by simpa using g)
theorem Dts.get {i : Nat} {ds : List PyData} {vs : List V} {d : PyData} (h : Dts K H vs ds) (g : ds[i]? = some d) : ∃ v, vs[i]? = some v ∧ Dt K H v d := by
  have li := (List.getElem?_eq_some_iff.mp g).1
  obtain ⟨v, e⟩ : ∃ v, vs[i]? = some v := ⟨_, List.getElem?_eq_getElem (by rw [h.len]; exact li)⟩
  obtain ⟨d2, e2, a⟩ := h.at e
  rw [g] at e2
  cases e2
  exact ⟨v, e, a⟩
theorem Dts.app {ds es : List PyData} {vs ws : List V} (h : Dts K H vs ds) (g : Dts K H ws es) : Dts K H (vs ++ ws) (ds ++ es) := by
  induction ds generalizing vs with
  | nil => cases h; exact g
  | cons d ds ih =>
    cases h with
    | cons a b => exact .cons a (ih b)
theorem Dts.snoc {ds : List PyData} {d : PyData} {vs : List V} {v : V} (h : Dts K H vs ds) (g : Dt K H v d) : Dts K H (vs ++ [v]) (ds ++ [d]) := h.app (.cons g .nil)
theorem Dts.take {ds : List PyData} {vs : List V} (h : Dts K H vs ds) : ∀ n, Dts K H (vs.take n) (ds.take n) := by
  induction ds generalizing vs with
  | nil => cases h; intro n; simp; exact .nil
  | cons d ds ih =>
    cases h with
    | cons a b =>
      intro n
      cases n with
      | zero => exact .nil
      | succ n => exact .cons a (ih b n)
theorem Dts.drop {ds : List PyData} {vs : List V} (h : Dts K H vs ds) : ∀ n, Dts K H (vs.drop n) (ds.drop n) := by
  induction ds generalizing vs with
  | nil => cases h; intro n; simp; exact .nil
  | cons d ds ih =>
    cases h with
    | cons a b =>
      intro n
      cases n with
      | zero => exact .cons a b
      | succ n => exact ih b n
theorem dts_str : ∀ ss : List Str, Dts K H (ss.map V.str) (ss.map PyData.str)
  | [] => .nil
  | s :: ss => .cons (.str s) (dts_str ss)
theorem dts_str_inv {ss : List Str} {vs : List V} (h : Dts K H vs (ss.map PyData.str)) : vs = ss.map V.str := by
  induction ss generalizing vs with
  | nil => cases h; rfl
  | cons s ss ih =>
    cases h with
    | cons a b => rw [a.str_inv, ih b]; rfl
theorem dts_int : ∀ ns : List Int, Dts K H (ns.map V.int) (ns.map PyData.int)
  | [] => .nil
  | s :: ss => .cons (.int s) (dts_int ss)
theorem dts_int_inv {ns : List Int} {vs : List V} (h : Dts K H vs (ns.map PyData.int)) : vs = ns.map V.int := by
  induction ns generalizing vs with
  | nil => cases h; rfl
  | cons s ss ih =>
    cases h with
    | cons a b => rw [a.int_inv, ih b]; rfl
theorem dt_tup {p : Addr} {xs : List V} {ds : List PyData} (h : H p = some (.tup xs)) (g : Dts K H xs ds) : Dt K H (.ref p) (.tuple ds) := .tup (SqT.of h) g
end
/-- data that == may be asked of: texts in the line, not deep -/
def Fine (n : Nat) (d : PyData) : Prop := d.canLay0 = true ∧ d.depth ≤ n
theorem fine_int {n : Nat} (i : Int) : Fine n (.int i) := ⟨by simp [PyData.canLay0], by simp [PyData.depth]⟩
theorem fine_tup {n : Nat} {ds : List PyData} (h : ∀ d ∈ ds, Fine n d) : Fine (n + 1) (.tuple ds) := by
  have q : PyData.canLayAll0 ds = true ∧ PyData.depthAll ds ≤ n := by
    induction ds with
    | nil => simp [PyData.canLayAll0, PyData.depthAll]
    | cons d ds ih =>
      have h1 := h d (by simp)
      have h2 := ih fun y m => h y (List.mem_cons_of_mem _ m)
      simp only [PyData.canLayAll0, PyData.depthAll, h1.1, h2.1, Bool.and_self, true_and]
      have := h1.2
      have := h2.2
      omega
  exact ⟨by simp only [PyData.canLay0]; exact q.1, by simp only [PyData.depth]; have := q.2; omega⟩
theorem fine_str {n : Nat} {x : Str} (h : x.cps.all (· < 0x110000) = true) : Fine n (.str x) := ⟨by simp only [PyData.canLay0]; exact h, by simp [PyData.depth]⟩
theorem fine_num {n : Nat} {ds : List Nat} (h : ∀ d ∈ ds, d ≤ 9) : Fine n (.str (numS ds)) := by
  refine fine_str ?_
  rw [← Array.all_toList, List.all_eq_true]
  intro c m
  obtain ⟨d, md, rfl⟩ := List.mem_map.mp (show c ∈ codes ds from m)
  have := h d md
  exact decide_eq_true (by omega)
theorem Fine.shaped {n : Nat} {d : PyData} (h : Fine n d) (l : n ≤ 64) : SeqAt.shaped d = true := by
  have e : decide (d.depth ≤ 64) = true := decide_eq_true (Nat.le_trans h.2 l)
  show (d.canLay0 && _) = true
  rw [e, Bool.and_true]
  exact h.1
theorem Fine.refl {n : Nat} {d : PyData} (h : Fine n d) : PyData.eqv d d = true := SeqAt.eqv_refl d h.1
theorem Fine.mono {n m : Nat} {d : PyData} (h : Fine n d) (l : n ≤ m) : Fine m d := ⟨h.1, Nat.le_trans h.2 l⟩
end Dv

/-! A list or a tuple, told by a letter; loops over it that may write elsewhere. -/
namespace Kd
open PySem PySem.Spec PyProof.Rows L2
/-- the list or (t) the tuple at a -/
def Is (K : PySem.W.Frag) (t : Bool) (H : Hp) (a : Addr) (xs : List V) : Prop := if t = true then SqT K H a xs else SqL K H a xs
theorem Is.keep {K : PySem.W.Frag} {t : Bool} {H H' : Hp} {a : Addr} {xs : List V} (s : Same H H') (h : Is K t H a xs) : Is K t H' a xs := by
  cases t
  · exact Hf.keepL s h
  · exact Hf.keepT s h
theorem Is.sq {K : PySem.W.Frag} {t : Bool} {H : Hp} {a : Addr} {xs : List V} (h : Is K t H a xs) : SqL K H a xs ∨ SqT K H a xs := by
  cases t
  · exact .inl h
  · exact .inr h
theorem Is.tup {K : PySem.W.Frag} {H : Hp} {a : Addr} {xs : List V} (h : SqT K H a xs) : Is K true H a xs := h
theorem Is.lst {K : PySem.W.Frag} {H : Hp} {a : Addr} {xs : List V} (h : SqL K H a xs) : Is K false H a xs := h
section
variable {X : Cx}
def iSeq (K : PySem.W.Frag) (tl : TE) : TI := fun σ H R => tl σ H fun x H1 => ∃ a xs t, x = .ref a ∧ Is K t H1 a xs ∧
  ∀ J G, Walk J xs.length G (YAt xs) → (∀ H', Is K t H' a xs → G H') → R J H1
theorem pi_seq {tg l : Expr} {tl : TE} (hl : PE X l tl) : PI X tg l (iSeq X.K tl) := by
  refine ⟨fun pins s σ H R I h => ?_⟩
  refine thn (hl.run pins s σ H _ I h) fun v s1 ⟨x, H1, I1, r1, q1⟩ => ?_
  obtain ⟨a, xs, t, e, hq, q⟩ := q1
  subst e
  cases r1
  cases t with
  | false =>
    have hq : SqL X.K H1 a xs := hq
    have q := q _ _ walk_list fun H' s => s
    obtain ⟨its, rv, p, hz⟩ := I1.list hq
    refine wpAny_pyIter_list p.isList ?_
    refine ⟨s1.heap.objs.size, [s1.heap.objs.size], _, _, H1, rfl, I1.kept (t' := s1.toks) fun b o e => Heap.get?_push_of_some _ e, turn_list a _, ⟨_, Heap.get?_push_size _ rfl, rfl, rfl⟩, fun b hb => ?_, q⟩
    have e : b = s1.heap.objs.size := by simpa using hb
    subst e
    exact I1.fpOk (Nat.le_refl _) (I1.hok.fresh (Nat.le_refl _))
  | true =>
    have hq : SqT X.K H1 a xs := hq
    have q := q _ _ walk_tup fun H' s => s
    obtain ⟨its, rv, p, hz⟩ := I1.tuple hq
    refine wpAny_pyIter_tuple (show s1.heap.IsTuple a its.toArray from p) ?_
    refine ⟨s1.heap.objs.size, [s1.heap.objs.size], _, _, H1, rfl, I1.kept (t' := s1.toks) fun b o e => Heap.get?_push_of_some _ e, turn_tuple a _, ⟨_, Heap.get?_push_size _ rfl, rfl, rfl⟩, fun b hb => ?_, q⟩
    have e : b = s1.heap.objs.size := by simpa using hb
    subst e
    exact I1.fpOk (Nat.le_refl _) (I1.hok.fresh (Nat.le_refl _))
end
end Kd

/-! Comprehensions whose items are told one by one. -/
namespace Lm
open PySem L2 Wm Dv
theorem list_is {α : Type} {ys zs : List α} (l : ys.length = zs.length) (h : ∀ (i : Nat) y, ys[i]? = some y → zs[i]? = some y) : ys = zs := by
  refine List.ext_getElem? fun i => ?_
  by_cases q : i < ys.length
  · rw [h i _ (List.getElem?_eq_getElem q), List.getElem?_eq_getElem q]
  · rw [List.getElem?_eq_none (by omega), List.getElem?_eq_none (by omega)]
theorem lc_map {K : PySem.W.Frag} {J : It} {n : Nat} {G : Hp → Prop} {xs : List V} (w : Walk J n G (YAt xs)) {g : TG} {te : TE} {vs : List Nat} {σ : L2.St} {H1 : Hp} {D : Addr} {Qd : Hp → Prop} (R : Nat → V → Hp → Prop)
    (mono : ∀ i y H H', R i y H → Kt K H H' → R i y H') (hD : H1 D = none) (hn : n ≤ 1000) (hG : ∀ H', Same H1 H' → G H')
    (hs : ∀ i x H', i < n → xs[i]? = some x → Same H1 H' → ∀ (Q : V → Hp → Prop) (Z : Hp → Prop), (∀ y H4, Same H' H4 → R i y H4 → Q y H4) → g x (wipe σ vs) H' fun σ2 H2 => wipe σ2 vs = wipe σ vs ∧ tYes σ2 H2 fun b H3 => if b = true then te σ2 H3 Q else Z H3)
    (hd : ∀ H ys, Same H1 H → H D = some (.lst ys) → ys.length = n → (∀ (i : Nat) y, ys[i]? = some y → R i y H) → Qd H) :
    ∃ W : Nat → Nat → Hp → Prop, (∃ m, W 0 m (upd H1 D (.lst []))) ∧ ∀ i m H, W i m H →
      (J.stop i H ∧ Qd H) ∨ (J.go i H ∧ ∃ Nx : Hp → Prop, (∀ H', Nx H' → ∃ m', m' < m ∧ W (i + 1) m' H') ∧ ∀ x H', J.yld i H x H' → g x (wipe σ vs) H' fun σ2 H2 => wipe σ2 vs = wipe σ vs ∧ tYes σ2 H2 fun b H3 =>
        if b = true then te σ2 H3 fun y H4 => ∃ acc, H4 D = some (.lst acc) ∧ acc.length < sizeLine ∧ Nx (upd H4 D (.lst (acc ++ [y]))) else Nx H3) := by
  refine lc_it (tt := tYes) w (fun i H => Same H1 H ∧ ∃ ys : List V, ys.length = i ∧ H D = some (.lst ys) ∧ ∀ j y, ys[j]? = some y → R j y H) ⟨same_new hD, [], rfl, upd_same, fun (j : Nat) (y : V) e => by simp at e⟩ (fun i H _ h => hG H h.1) (fun i x H H' hi hP hY => ?_) (fun H hP => ?_)
  · obtain ⟨sm, ys, el, hy, hR⟩ := hP
    obtain ⟨rfl, hx⟩ := hY
    refine hs i x H' hi hx sm _ _ (fun y H4 s4 r4 => ?_)
    · refine ⟨ys, s4 _ _ hy, by rw [el]; exact small1000 (by omega), same_mut (sm.trans s4) hD, ys ++ [y], by rw [List.length_append, el]; rfl, upd_same, fun j z hz => ?_⟩
      have k5 : Kt K H4 (upd H4 D (.lst (ys ++ [y]))) := Kt.lst (s4 _ _ hy)
      by_cases lj : j < ys.length
      · rw [List.getElem?_append_left lj] at hz
        exact mono _ _ _ _ (hR j z hz) ((Kt.same s4).trans k5)
      · rw [List.getElem?_append_right (by omega)] at hz
        have e0 : j - ys.length = 0 := by
          by_cases q : j - ys.length = 0
          · exact q
          · rw [List.getElem?_eq_none (by rw [List.length_singleton]; omega)] at hz
            cases hz
        rw [e0] at hz
        have ez : y = z := by simpa using hz
        have ej : j = i := by omega
        subst ez ej
        exact mono _ _ _ _ r4 k5
  · obtain ⟨sm, ys, el, hy, hR⟩ := hP
    exact hd H ys sm hy el hR
end Lm
namespace Kx
open PySem L2
def rLen (K : PySem.W.Frag) : List V → Hp → VK → Prop := fun xs H Q => ∃ p ys, xs = [.ref p] ∧ (SqL K H p ys ∨ SqT K H p ys) ∧ Q (.int (ys.length : Nat)) H
def rTup (K : PySem.W.Frag) : List V → Hp → VK → Prop := fun xs H Q => ∃ a ys, xs = [.ref a] ∧ SqT K H a ys ∧ Q (.ref a) H
def rTupOf (K : PySem.W.Frag) : List V → Hp → VK → Prop := fun xs H Q => ∃ p ys, xs = [.ref p] ∧ ((SqL K H p ys ∧ ∀ l, H l = none → Q (.ref l) (upd H l (.tup ys))) ∨ (SqT K H p ys ∧ Q (.ref p) H))
end Kx

/-! An own error with one field, NoBox, as the guide's skeleton on own errors gives it. -/
namespace PySem
namespace LowB
open PySem.W PySem.Calls PyProof.Rows PySem.HandSPX
/-! ### the text of __init__ -/
def iA (p1 p2 : Pos) : Arguments := { posonlyargs := [], args := [{ arg := "self", annotation := none, pos := p1 }, { arg := "number", annotation := none, pos := p2 }], vararg := none, kwonlyargs := [], kw_defaults := [], kwarg := none, defaults := [] }
def iB (q1 q2 q3 q4 : Pos) : List Stmt := [.Assign [.Attribute (.Name "self" q1) "number" q2] (.Name "number" q3) q4]
def iS : Scope := { kind := .function, names := [(PySem.Str.ofString "self", .local), (PySem.Str.ofString "number", .local)], isGenerator := false, isCoroutine := false, more := [] }
/-- what the written part says of Low, at C, and of its __init__, at fI -/
structure LowTxt (K : Frag) (mg : Str → Option Value) (C fI : Addr) : Prop where
  gC : mg "NoBox" = some (.ref C)
  cls : ∃ nm q N bs bm sn sub ab col dd k0 k1 k2 k3 k5, K.lookup C = some (excClassObj nm q C N bs bm true sn sub ab col dd k0 k1 k2 k3 k5 "ValueError.__new__") ∧ refsVE bm = true
  sa : findIn K (.ref C) "__setattr__" = some (some (.builtin "object.__setattr__"))
  ga : findIn K (.ref C) "__getattribute__" = some (some (.builtin "BaseException.__getattribute__"))
  gg : findIn K (.ref C) "__getattr__" = some none
  noN : findIn K (.ref C) "number" = some none
  iC : findIn K (.ref C) "__init__" = some (some (.ref fI))
  tC : typeIn K (.ref fI) = some (.type "function")
  kC : keepIn K (.ref C) = true
  exC : subIn K (.ref C) (.type "BaseException") = some true
  tyC : typeIn K (.ref C) = some (.type "type")
  hdC : hasDictIn K C = true
  te : exmOne K (.ref C) (.ref C) = some true
  fn : ∃ (oc : Value) (od : Option Addr) (doc pm : Value) (an : Option Addr) (cdv ct : Value) (osl : Array (Option Value)) (p1 p2 q1 q2 q3 q4 : Pos),
    K.lookup fI = some ⟨oc, od, .func (fnOf "__init__" "NoBox.__init__" (iA p1 p2) (iB q1 q2 q3 q4) iS .none .none doc pm an cdv ct), osl⟩ ∧ codeIn K cdv "NoBox.__init__" = true
theorem one_size (v : Value) : [v].length ≤ sizeLine := by
  rw [sizeLine_eq]
  exact (by decide : 1 ≤ 16777216)
theorem kept_but {K : Frag} {h h' : Heap} {x : Addr} (X : K.In h) (hx : K.lookup x = none) (k : ∀ b o, b ≠ x → h.get? b = some o → h'.get? b = some o) : K.In h' := fun a o e =>
  k a o (fun z => by rw [z, hx] at e; cases e) (X a o e)
theorem ldC {M : Model} {s : Shared} {name : Str} {scope : Scope} {L a : Addr} {cd : Value} {m : Str → Option Value} {x : Str} {pos : Pos} {v : Value} {Q : Value → Shared → Prop} {A : Around} {E : Value → Shared → Prop} (hn : s.heap.Ns L m) (hv : m x = some v) (h : Q v s)
    (hk : scope.kind = .function := by rfl) (hl : (envOfC name scope L a cd).kindOf x = some .local := by rfl) (hd : (x == ("__debug__" : Str)) = false := by decide) :
    wpAny M A (eval (.Name x pos) (envOfC name scope L a cd)) Q E s := wpAny_Name (wpAny_loadName_local hk hl hn hv h) hd
/-- what __init__ leaves of a fresh exception at x -/
structure InitEnd (h h' : Heap) (x C dx t1 : Addr) (v : Value) : Prop where
  keep : ∀ b o, b ≠ x → h.get? b = some o → h'.get? b = some o
  obj : h'.get? x = some { cls := .ref C, dict := some dx, data := .fields #[.ref t1, .none, .none, .none, .bool false, .none] }
  dbig : h.objs.size ≤ dx
  dne : dx ≠ x
  ns : h'.Ns1 dx (fun y => if y = "number" then some v else none)
/-- a made Low -/
structure OwnMade (h h' : Heap) (e C d : Addr) (v : Value) : Prop where
  keep : ∀ b o, h.get? b = some o → h'.get? b = some o
  new : h.objs.size ≤ e
  obj : ∃ oe vs, h'.get? e = some oe ∧ oe.cls = .ref C ∧ oe.dict = some d ∧ oe.data = .fields vs ∧ vs[1]? = some .none
  dbig : h.objs.size ≤ d
  dne : d ≠ e
  ns : h'.Ns1 d (fun y => if y = "number" then some v else none)
section
variable {prog : Program} {w : World} {A : Around} {E : Value → Shared → Prop} {R : Result → Shared → Prop} {s : Shared} {K : Frag} {mg : Str → Option Value} {C fI : Addr}
theorem low_init (T : LowTxt K mg C fI) {x t0 : Addr} {v : Value} (X : K.In s.heap) (hlim : s.heap.NoLimit) (hx : s.heap.get? x = some (excO C t0)) (hnx : K.lookup x = none) (hroom : A.depth < recursionLimit)
    (hq : ∀ h' tk dx, InitEnd s.heap h' x C dx t0 v → R (.ok (.ret .none)) { s with heap := h', toks := tk }) :
    codeAny (model prog w) A (.call (.ref fI) ⟨[.ref x, v], []⟩) R s := by
  obtain ⟨oc, od, doc, pm, an, cdv, ct, osl, p1, p2, q1, q2, q3, q4, ho, hcd⟩ := T.fn
  obtain ⟨nm, q, N, bs, bm, sn, sub, ab, col, dd, k0, k1, k2, k3, k5, hC, hbm⟩ := T.cls
  have hcl : clsIn K C = some { name := nm, bases := bs, mro := .ref C :: bm, ns := N, qualname := q, hasDict := true, slotNames := sn, subclasses := sub, abstract := ab, collection := col, hasDel := false } := by unfold clsIn; rw [hC] <;> rfl
  refine Att.call_fn (binds := [("self", .ref x), ("number", v)]) X hlim ho hcd hroom (BindsTo.of_eq (by first | rfl | with_unfolding_all rfl)) (by first | rfl | decide | with_unfolding_all rfl) (fun s₁ IC => ?_) rfl rfl rfl
  obtain ⟨h₁, tk₁, rfl⟩ := IC.toInCall.same
  have k : ∀ b o, s.heap.get? b = some o → h₁.get? b = some o := IC.toInCall.keep
  have hn := IC.toInCall.ns
  have hxL : s.heap.objs.size ≠ x := Nat.ne_of_gt (Heap.lt_size hx)
  have X₁ : K.In h₁ := X.keeps k
  have hx₁ := k _ _ hx
  -- self.by = by
  show wpAny _ _ (execs _ _) _ _ _
  refine wpAny_execs_cons (plainObj_wpAny_Assign_Attribute ?_)
  refine ldC (v := v) hn (by first | rfl | with_unfolding_all rfl | kernel_rfl) (ldC (v := .ref x) hn (by first | rfl | with_unfolding_all rfl | kernel_rfl) ?_)
  refine set_plain X₁ (ox := excO C t0) (od := none) ⟨hx₁, rfl, rfl, trivial⟩ T.sa ?_
  refine exc_osa X₁ hx₁ hcl (show refsVE (.ref C :: bm) = true from hbm) rfl T.noN (fun h₃ tk₃ dx k₃ dn dne hx₃ hn₃ => ?_)
  show wpAny _ _ (execs _ _) _ _ _
  have z : s.heap.objs.size < h₁.objs.size := hn.lt
  exact wpAny_execs_nil (hq h₃ tk₃ dx ⟨fun b o hb e => k₃ b o hb (k b o e), hx₃, Nat.le_of_lt (Nat.lt_of_lt_of_le z dn), dne, hn₃⟩)
theorem low_made (T : LowTxt K mg C fI) {v : Value} (X : K.In s.heap) (hlim : s.heap.NoLimit) (hroom : A.depth + 1 < recursionLimit)
    (hq : ∀ h' tk e d, OwnMade s.heap h' e C d v → R (.ok (.ret (.ref e))) { s with heap := h', toks := tk }) :
    codeAny (model prog w) A (.call (.ref C) ⟨[v], []⟩) R s := by
  obtain ⟨nm, q, N, bs, bm, sn, sub, ab, col, dd, k0, k1, k2, k3, k5, hC, hbm⟩ := T.cls
  obtain ⟨hp, g, dr, tk, os⟩ := s
  have k : ∀ b o, hp.get? b = some o → ((hp.push (kdv_tup [v])).push (excO C hp.objs.size)).get? b = some o := fun b o e => Heap.get?_push_of_some _ (Heap.get?_push_of_some _ e)
  have hget : ((hp.push (kdv_tup [v])).push (excO C hp.objs.size)).get? (hp.objs.size + 1) = some (excO C hp.objs.size) := by heap_get
  have hnx : K.lookup (hp.objs.size + 1) = none := by
    cases e : K.lookup (hp.objs.size + 1) with
    | none => rfl
    | some o =>
      have z : hp.get? (hp.objs.size + 1) = some o := X _ _ e
      exact absurd (Nat.lt_of_succ_lt (Heap.lt_size z)) (Nat.lt_irrefl _)
  refine call_own F.excBase_ValueError (fun X => refsVE_contains X bm hbm) (X _ _ hC) (looks_findIn X T.iC) (fun self => bind_fn X self T.tC) (one_size v) ?_
  refine low_init (s := ⟨(hp.push (kdv_tup [v])).push (excO C hp.objs.size), g, dr, tk, os⟩) T (X.keeps k) (hlim.keeps k) hget hnx ?_ fun h' tk' dx ⟨k', hx, dn, dne, hns⟩ => ?_
  · show A.depth + 1 < recursionLimit
    exact hroom
  · have old : ∀ b o, hp.get? b = some o → h'.get? b = some o := fun b o e => k' b o (Nat.ne_of_lt (Nat.lt_succ_of_lt (Heap.lt_size e))) (k b o e)
    have z : hp.objs.size + 1 + 1 ≤ dx := by
      first
        | (simpa only [Heap.size_push] using dn)
        | exact dn
        | (have q := dn; rw [Heap.size_push, Heap.size_push] at q; exact q)
    exact ⟨rfl, hq h' tk' (hp.objs.size + 1) dx ⟨old, Nat.le_succ _, ⟨_, _, hx, rfl, rfl, rfl, rfl⟩, Nat.le_trans (Nat.le_trans (Nat.le_succ _) (Nat.le_succ _)) z, dne, hns⟩⟩
end
end LowB
end PySem
namespace L2
open PySem PySem.Spec PyProof.Rows
theorem relO_lowB {v : V} {v' : Value} (r : RelV v v') (f : Str) : RelO (List.lookup f [(("number" : Str), v)]) (if f = "number" then some v' else none) := by
  by_cases hw : f = "number"
  · subst hw
    rw [if_pos rfl]
    have q : List.lookup ("number" : Str) [(("number" : Str), v)] = some v := by simp [List.lookup]
    rw [q]
    exact r
  · rw [if_neg hw]
    have qw : (f == ("number" : Str)) = false := by simpa using hw
    have q2 : List.lookup f [(("number" : Str), v)] = none := by simp [List.lookup, qw]
    rw [q2]
    trivial
section
variable {X : Cx} {C fI : Addr}
/-- Low(e) -/
def tMkLowB (C : Addr) (ta : TA) : St → Hp → XK → Prop := fun σ H Q => ta σ H fun vs H1 => ∃ v, vs = [v] ∧ ∀ d, H1 d = none → Q (.ref C) (some d) (upd H1 d (.xd [(("number" : Str), v)]))
theorem pmk_lowB {a : Expr} {ta : TA} {p pos : Pos} {k : Nat} (T : PySem.LowB.LowTxt X.K X.mg C fI) (hr : Room k X.A) (ha : PA X [a] ta) (hg : Gl X "NoBox" := by rfl)
    (he : starEach (a :: []) X.env = (false, eval a X.env) :: starEach [] X.env := by rfl) (hpl : (backTo pos (starEach [] X.env)).any (·.1) = false := by rfl) :
    PMk X (.Call (.Name "NoBox" p) [a] [] pos) (tMkLowB C ta) := by
  intro pins s σ H Q I h
  refine wpAny_Call_Name_kw (ld_glob I hg T.gC ?_)
  refine PySem.W.callWith_K (h₀ := X.base) I.ok.mod.kin T.kC (thn (ha.run pos pins s σ H _ I h) fun us s1 hh => ?_) he hpl
  obtain ⟨vs, H1, I1, r1, v, ev, q1⟩ := hh
  subst ev
  refine ⟨I1.kIn, ?_⟩
  cases r1 with
  | cons rv rn =>
    rename_i v' us'
    cases rn
    show wpAny _ _ (call (.ref C) [v']) _ _ _
    have hlim := I1.nolimit
    obtain ⟨hp, g, dr, tk, os⟩ := s1
    refine wpAny_call (PySem.LowB.low_made T I1.kIn hlim (by have := hr.dp; omega) fun h' tk' e d M => ?_)
    show MkP X pins σ Q (.ref e) ⟨h', g, dr, tk', os⟩
    obtain ⟨oe, fv, hoe, hc, hd, hdat, h1⟩ := M.obj
    have hns := M.ns
    obtain ⟨G', g1, g2⟩ := restrict h' fun b => decide (b ≠ e)
    have gk : ∀ b, b ≠ e → G'.get? b = h'.get? b := fun b hb => g1 b (decide_eq_true hb)
    have ge : G'.get? e = none := g2 e (by simp)
    have old : ∀ b o, hp.get? b = some o → G'.get? b = some o := fun b o q => (gk b (Nat.ne_of_lt (Nat.lt_of_lt_of_le (Heap.lt_size q) M.new))).trans (M.keep b o q)
    have ob : ObjOk X.prog X.w (upd H1 d (.xd [(("number" : Str), v)])) G' d (.xd [(("number" : Str), v)]) :=
      ⟨_, hns.at (fun o q => (gk d M.dne).trans q), fun f => relO_lowB rv f⟩
    have J : Inv X pins σ (upd H1 d (.xd [(("number" : Str), v)])) ⟨G', g, dr, tk', os⟩ := I1.laid (t' := tk') old M.dbig ob
    refine ⟨e, oe, fv, ⟨G', g, dr, tk', os⟩, _, .ref C, some d, rfl, J, fun b o q => ?_, ge, hoe, ⟨hc, hd⟩, hdat, h1, ?_, rfl, I1.bare, raises_own T.exC T.tyC, q1 d (I1.hok.fresh M.dbig)⟩
    · by_cases hb : b = e
      · have q' : G'.get? b = some o := q
        rw [hb, ge] at q'; cases q'
      · exact (gk b hb).symm.trans q
    · rw [upd_ne (Ne.symm M.dne)]
      exact I1.hok.fresh M.new
/-- raise Low(e) -/
def tRaiseLowB (C : Addr) (W : WX) (ta : TA) : TS := fun _ σ H => tMkLowB C ta σ H fun cls d H' => W cls d σ H'
theorem ps_raiseLowB {a : Expr} {ta : TA} {W : WX} {p pos pos2 : Pos} {k : Nat} (hc : X.calm = true) (T : PySem.LowB.LowTxt X.K X.mg C fI) (hr : Room k X.A) (tk : Takes X W) (ha : PA X [a] ta) (hg : Gl X "NoBox" := by rfl)
    (he : starEach (a :: []) X.env = (false, eval a X.env) :: starEach [] X.env := by rfl) (hpl : (backTo pos (starEach [] X.env)).any (·.1) = false := by rfl) :
    PS X (.Raise (some (.Call (.Name "NoBox" p) [a] [] pos)) none pos2) (tRaiseLowB C W ta) := ps_raise hc tk (pmk_lowB T hr ha hg he hpl)
/-- low.by, low the exception that the suite holds (at a; its class cls, its dict d) -/
def tByLowB (C : Addr) (a : Addr) (cls : Value) (d : Option Addr) (te : TE) : TE := fun σ H Q => te σ H fun x H1 => x = .ref a ∧ cls = .ref C ∧ ∃ (dd : Addr) (v : V), d = some dd ∧ H1 dd = some (.xd [(("number" : Str), v)]) ∧ Q v H1
theorem pe_byLowB {a : Addr} {oe : Obj} {cls : Value} {d : Option Addr} {pn : List (Addr × Obj)} {e : Expr} {te : TE} {pos : Pos} (T : PySem.LowB.LowTxt X.K X.mg C fI) (hz : Zc cls d oe) (hf : ∃ vs, oe.data = .fields vs) (he : PE (X.suite a ((a, oe) :: pn)) e te)
    (hb : attributeBase e "number" X.env (eval e X.env) = eval e X.env := by rfl) :
    PE (X.suite a ((a, oe) :: pn)) (.Attribute e "number" pos) (tByLowB C a cls d te) := by
  refine ⟨fun pins s σ H Q I h => ?_⟩
  refine attr_of hb (thn (he.run pins s σ H _ I h) fun u s1 hh => ?_)
  obtain ⟨x, H1, I1, rx, ex, ec, dd, v, ed, ea, q⟩ := hh
  subst ex
  obtain rfl : u = Value.ref a := rx
  subst ec
  subst ed
  obtain ⟨ha, _⟩ := I1.pin (a, oe) (List.mem_append_left _ List.mem_cons_self)
  obtain ⟨vs, hd⟩ := hf
  have hx : ObjOk X.prog X.w H1 s1.heap dd (.xd [(("number" : Str), v)]) := I1.hok dd _ ea
  obtain ⟨mA, hns, hr⟩ := hx
  obtain ⟨od, ho, hl⟩ := lookIn_ns hns
  have l : List.lookup ("number" : Str) [(("number" : Str), v)] = some v := by simp [List.lookup]
  obtain ⟨u, hu, ru⟩ := RelO.some_of (v := v) (o := mA "number") (by rw [← l]; exact hr "number")
  have J : PySem.W.InstAt s1.heap a oe C (some od) := ⟨ha, hz.1, by unfold PySem.W.notCls; rw [hd] <;> rfl, by rw [hz.2]; exact ho⟩
  exact HandSPX.exc_get I1.kIn J T.ga T.gg T.exC (PySem.W.findObj_own T.hdC T.noN rfl (by rw [hl, hu])) (handed_of ru) ⟨v, H1, I1.tok _, ru, q⟩
end
end L2


/-! An own error with one field, NoLoop, as the guide's skeleton on own errors gives it. -/
namespace PySem
namespace LowL
open PySem.W PySem.Calls PyProof.Rows PySem.HandSPX
/-! ### the text of __init__ -/
def iA (p1 p2 : Pos) : Arguments := { posonlyargs := [], args := [{ arg := "self", annotation := none, pos := p1 }, { arg := "loop", annotation := none, pos := p2 }], vararg := none, kwonlyargs := [], kw_defaults := [], kwarg := none, defaults := [] }
def iB (q1 q2 q3 q4 : Pos) : List Stmt := [.Assign [.Attribute (.Name "self" q1) "loop" q2] (.Name "loop" q3) q4]
def iS : Scope := { kind := .function, names := [(PySem.Str.ofString "self", .local), (PySem.Str.ofString "loop", .local)], isGenerator := false, isCoroutine := false, more := [] }
/-- what the written part says of Low, at C, and of its __init__, at fI -/
structure LowTxt (K : Frag) (mg : Str → Option Value) (C fI : Addr) : Prop where
  gC : mg "NoLoop" = some (.ref C)
  cls : ∃ nm q N bs bm sn sub ab col dd k0 k1 k2 k3 k5, K.lookup C = some (excClassObj nm q C N bs bm true sn sub ab col dd k0 k1 k2 k3 k5 "ValueError.__new__") ∧ refsVE bm = true
  sa : findIn K (.ref C) "__setattr__" = some (some (.builtin "object.__setattr__"))
  ga : findIn K (.ref C) "__getattribute__" = some (some (.builtin "BaseException.__getattribute__"))
  gg : findIn K (.ref C) "__getattr__" = some none
  noN : findIn K (.ref C) "loop" = some none
  iC : findIn K (.ref C) "__init__" = some (some (.ref fI))
  tC : typeIn K (.ref fI) = some (.type "function")
  kC : keepIn K (.ref C) = true
  exC : subIn K (.ref C) (.type "BaseException") = some true
  tyC : typeIn K (.ref C) = some (.type "type")
  hdC : hasDictIn K C = true
  te : exmOne K (.ref C) (.ref C) = some true
  fn : ∃ (oc : Value) (od : Option Addr) (doc pm : Value) (an : Option Addr) (cdv ct : Value) (osl : Array (Option Value)) (p1 p2 q1 q2 q3 q4 : Pos),
    K.lookup fI = some ⟨oc, od, .func (fnOf "__init__" "NoLoop.__init__" (iA p1 p2) (iB q1 q2 q3 q4) iS .none .none doc pm an cdv ct), osl⟩ ∧ codeIn K cdv "NoLoop.__init__" = true
theorem one_size (v : Value) : [v].length ≤ sizeLine := by
  rw [sizeLine_eq]
  exact (by decide : 1 ≤ 16777216)
theorem kept_but {K : Frag} {h h' : Heap} {x : Addr} (X : K.In h) (hx : K.lookup x = none) (k : ∀ b o, b ≠ x → h.get? b = some o → h'.get? b = some o) : K.In h' := fun a o e =>
  k a o (fun z => by rw [z, hx] at e; cases e) (X a o e)
theorem ldC {M : Model} {s : Shared} {name : Str} {scope : Scope} {L a : Addr} {cd : Value} {m : Str → Option Value} {x : Str} {pos : Pos} {v : Value} {Q : Value → Shared → Prop} {A : Around} {E : Value → Shared → Prop} (hn : s.heap.Ns L m) (hv : m x = some v) (h : Q v s)
    (hk : scope.kind = .function := by rfl) (hl : (envOfC name scope L a cd).kindOf x = some .local := by rfl) (hd : (x == ("__debug__" : Str)) = false := by decide) :
    wpAny M A (eval (.Name x pos) (envOfC name scope L a cd)) Q E s := wpAny_Name (wpAny_loadName_local hk hl hn hv h) hd
/-- what __init__ leaves of a fresh exception at x -/
structure InitEnd (h h' : Heap) (x C dx t1 : Addr) (v : Value) : Prop where
  keep : ∀ b o, b ≠ x → h.get? b = some o → h'.get? b = some o
  obj : h'.get? x = some { cls := .ref C, dict := some dx, data := .fields #[.ref t1, .none, .none, .none, .bool false, .none] }
  dbig : h.objs.size ≤ dx
  dne : dx ≠ x
  ns : h'.Ns1 dx (fun y => if y = "loop" then some v else none)
/-- a made Low -/
structure OwnMade (h h' : Heap) (e C d : Addr) (v : Value) : Prop where
  keep : ∀ b o, h.get? b = some o → h'.get? b = some o
  new : h.objs.size ≤ e
  obj : ∃ oe vs, h'.get? e = some oe ∧ oe.cls = .ref C ∧ oe.dict = some d ∧ oe.data = .fields vs ∧ vs[1]? = some .none
  dbig : h.objs.size ≤ d
  dne : d ≠ e
  ns : h'.Ns1 d (fun y => if y = "loop" then some v else none)
section
variable {prog : Program} {w : World} {A : Around} {E : Value → Shared → Prop} {R : Result → Shared → Prop} {s : Shared} {K : Frag} {mg : Str → Option Value} {C fI : Addr}
theorem low_init (T : LowTxt K mg C fI) {x t0 : Addr} {v : Value} (X : K.In s.heap) (hlim : s.heap.NoLimit) (hx : s.heap.get? x = some (excO C t0)) (hnx : K.lookup x = none) (hroom : A.depth < recursionLimit)
    (hq : ∀ h' tk dx, InitEnd s.heap h' x C dx t0 v → R (.ok (.ret .none)) { s with heap := h', toks := tk }) :
    codeAny (model prog w) A (.call (.ref fI) ⟨[.ref x, v], []⟩) R s := by
  obtain ⟨oc, od, doc, pm, an, cdv, ct, osl, p1, p2, q1, q2, q3, q4, ho, hcd⟩ := T.fn
  obtain ⟨nm, q, N, bs, bm, sn, sub, ab, col, dd, k0, k1, k2, k3, k5, hC, hbm⟩ := T.cls
  have hcl : clsIn K C = some { name := nm, bases := bs, mro := .ref C :: bm, ns := N, qualname := q, hasDict := true, slotNames := sn, subclasses := sub, abstract := ab, collection := col, hasDel := false } := by unfold clsIn; rw [hC] <;> rfl
  refine Att.call_fn (binds := [("self", .ref x), ("loop", v)]) X hlim ho hcd hroom (BindsTo.of_eq (by first | rfl | with_unfolding_all rfl)) (by first | rfl | decide | with_unfolding_all rfl) (fun s₁ IC => ?_) rfl rfl rfl
  obtain ⟨h₁, tk₁, rfl⟩ := IC.toInCall.same
  have k : ∀ b o, s.heap.get? b = some o → h₁.get? b = some o := IC.toInCall.keep
  have hn := IC.toInCall.ns
  have hxL : s.heap.objs.size ≠ x := Nat.ne_of_gt (Heap.lt_size hx)
  have X₁ : K.In h₁ := X.keeps k
  have hx₁ := k _ _ hx
  -- self.by = by
  show wpAny _ _ (execs _ _) _ _ _
  refine wpAny_execs_cons (plainObj_wpAny_Assign_Attribute ?_)
  refine ldC (v := v) hn (by first | rfl | with_unfolding_all rfl | kernel_rfl) (ldC (v := .ref x) hn (by first | rfl | with_unfolding_all rfl | kernel_rfl) ?_)
  refine set_plain X₁ (ox := excO C t0) (od := none) ⟨hx₁, rfl, rfl, trivial⟩ T.sa ?_
  refine exc_osa X₁ hx₁ hcl (show refsVE (.ref C :: bm) = true from hbm) rfl T.noN (fun h₃ tk₃ dx k₃ dn dne hx₃ hn₃ => ?_)
  show wpAny _ _ (execs _ _) _ _ _
  have z : s.heap.objs.size < h₁.objs.size := hn.lt
  exact wpAny_execs_nil (hq h₃ tk₃ dx ⟨fun b o hb e => k₃ b o hb (k b o e), hx₃, Nat.le_of_lt (Nat.lt_of_lt_of_le z dn), dne, hn₃⟩)
theorem low_made (T : LowTxt K mg C fI) {v : Value} (X : K.In s.heap) (hlim : s.heap.NoLimit) (hroom : A.depth + 1 < recursionLimit)
    (hq : ∀ h' tk e d, OwnMade s.heap h' e C d v → R (.ok (.ret (.ref e))) { s with heap := h', toks := tk }) :
    codeAny (model prog w) A (.call (.ref C) ⟨[v], []⟩) R s := by
  obtain ⟨nm, q, N, bs, bm, sn, sub, ab, col, dd, k0, k1, k2, k3, k5, hC, hbm⟩ := T.cls
  obtain ⟨hp, g, dr, tk, os⟩ := s
  have k : ∀ b o, hp.get? b = some o → ((hp.push (kdv_tup [v])).push (excO C hp.objs.size)).get? b = some o := fun b o e => Heap.get?_push_of_some _ (Heap.get?_push_of_some _ e)
  have hget : ((hp.push (kdv_tup [v])).push (excO C hp.objs.size)).get? (hp.objs.size + 1) = some (excO C hp.objs.size) := by heap_get
  have hnx : K.lookup (hp.objs.size + 1) = none := by
    cases e : K.lookup (hp.objs.size + 1) with
    | none => rfl
    | some o =>
      have z : hp.get? (hp.objs.size + 1) = some o := X _ _ e
      exact absurd (Nat.lt_of_succ_lt (Heap.lt_size z)) (Nat.lt_irrefl _)
  refine call_own F.excBase_ValueError (fun X => refsVE_contains X bm hbm) (X _ _ hC) (looks_findIn X T.iC) (fun self => bind_fn X self T.tC) (one_size v) ?_
  refine low_init (s := ⟨(hp.push (kdv_tup [v])).push (excO C hp.objs.size), g, dr, tk, os⟩) T (X.keeps k) (hlim.keeps k) hget hnx ?_ fun h' tk' dx ⟨k', hx, dn, dne, hns⟩ => ?_
  · show A.depth + 1 < recursionLimit
    exact hroom
  · have old : ∀ b o, hp.get? b = some o → h'.get? b = some o := fun b o e => k' b o (Nat.ne_of_lt (Nat.lt_succ_of_lt (Heap.lt_size e))) (k b o e)
    have z : hp.objs.size + 1 + 1 ≤ dx := by
      first
        | (simpa only [Heap.size_push] using dn)
        | exact dn
        | (have q := dn; rw [Heap.size_push, Heap.size_push] at q; exact q)
    exact ⟨rfl, hq h' tk' (hp.objs.size + 1) dx ⟨old, Nat.le_succ _, ⟨_, _, hx, rfl, rfl, rfl, rfl⟩, Nat.le_trans (Nat.le_trans (Nat.le_succ _) (Nat.le_succ _)) z, dne, hns⟩⟩
end
end LowL
end PySem
namespace L2
open PySem PySem.Spec PyProof.Rows
theorem relO_lowL {v : V} {v' : Value} (r : RelV v v') (f : Str) : RelO (List.lookup f [(("loop" : Str), v)]) (if f = "loop" then some v' else none) := by
  by_cases hw : f = "loop"
  · subst hw
    rw [if_pos rfl]
    have q : List.lookup ("loop" : Str) [(("loop" : Str), v)] = some v := by simp [List.lookup]
    rw [q]
    exact r
  · rw [if_neg hw]
    have qw : (f == ("loop" : Str)) = false := by simpa using hw
    have q2 : List.lookup f [(("loop" : Str), v)] = none := by simp [List.lookup, qw]
    rw [q2]
    trivial
section
variable {X : Cx} {C fI : Addr}
/-- Low(e) -/
def tMkLowL (C : Addr) (ta : TA) : St → Hp → XK → Prop := fun σ H Q => ta σ H fun vs H1 => ∃ v, vs = [v] ∧ ∀ d, H1 d = none → Q (.ref C) (some d) (upd H1 d (.xd [(("loop" : Str), v)]))
theorem pmk_lowL {a : Expr} {ta : TA} {p pos : Pos} {k : Nat} (T : PySem.LowL.LowTxt X.K X.mg C fI) (hr : Room k X.A) (ha : PA X [a] ta) (hg : Gl X "NoLoop" := by rfl)
    (he : starEach (a :: []) X.env = (false, eval a X.env) :: starEach [] X.env := by rfl) (hpl : (backTo pos (starEach [] X.env)).any (·.1) = false := by rfl) :
    PMk X (.Call (.Name "NoLoop" p) [a] [] pos) (tMkLowL C ta) := by
  intro pins s σ H Q I h
  refine wpAny_Call_Name_kw (ld_glob I hg T.gC ?_)
  refine PySem.W.callWith_K (h₀ := X.base) I.ok.mod.kin T.kC (thn (ha.run pos pins s σ H _ I h) fun us s1 hh => ?_) he hpl
  obtain ⟨vs, H1, I1, r1, v, ev, q1⟩ := hh
  subst ev
  refine ⟨I1.kIn, ?_⟩
  cases r1 with
  | cons rv rn =>
    rename_i v' us'
    cases rn
    show wpAny _ _ (call (.ref C) [v']) _ _ _
    have hlim := I1.nolimit
    obtain ⟨hp, g, dr, tk, os⟩ := s1
    refine wpAny_call (PySem.LowL.low_made T I1.kIn hlim (by have := hr.dp; omega) fun h' tk' e d M => ?_)
    show MkP X pins σ Q (.ref e) ⟨h', g, dr, tk', os⟩
    obtain ⟨oe, fv, hoe, hc, hd, hdat, h1⟩ := M.obj
    have hns := M.ns
    obtain ⟨G', g1, g2⟩ := restrict h' fun b => decide (b ≠ e)
    have gk : ∀ b, b ≠ e → G'.get? b = h'.get? b := fun b hb => g1 b (decide_eq_true hb)
    have ge : G'.get? e = none := g2 e (by simp)
    have old : ∀ b o, hp.get? b = some o → G'.get? b = some o := fun b o q => (gk b (Nat.ne_of_lt (Nat.lt_of_lt_of_le (Heap.lt_size q) M.new))).trans (M.keep b o q)
    have ob : ObjOk X.prog X.w (upd H1 d (.xd [(("loop" : Str), v)])) G' d (.xd [(("loop" : Str), v)]) :=
      ⟨_, hns.at (fun o q => (gk d M.dne).trans q), fun f => relO_lowL rv f⟩
    have J : Inv X pins σ (upd H1 d (.xd [(("loop" : Str), v)])) ⟨G', g, dr, tk', os⟩ := I1.laid (t' := tk') old M.dbig ob
    refine ⟨e, oe, fv, ⟨G', g, dr, tk', os⟩, _, .ref C, some d, rfl, J, fun b o q => ?_, ge, hoe, ⟨hc, hd⟩, hdat, h1, ?_, rfl, I1.bare, raises_own T.exC T.tyC, q1 d (I1.hok.fresh M.dbig)⟩
    · by_cases hb : b = e
      · have q' : G'.get? b = some o := q
        rw [hb, ge] at q'; cases q'
      · exact (gk b hb).symm.trans q
    · rw [upd_ne (Ne.symm M.dne)]
      exact I1.hok.fresh M.new
/-- raise Low(e) -/
def tRaiseLowL (C : Addr) (W : WX) (ta : TA) : TS := fun _ σ H => tMkLowL C ta σ H fun cls d H' => W cls d σ H'
theorem ps_raiseLowL {a : Expr} {ta : TA} {W : WX} {p pos pos2 : Pos} {k : Nat} (hc : X.calm = true) (T : PySem.LowL.LowTxt X.K X.mg C fI) (hr : Room k X.A) (tk : Takes X W) (ha : PA X [a] ta) (hg : Gl X "NoLoop" := by rfl)
    (he : starEach (a :: []) X.env = (false, eval a X.env) :: starEach [] X.env := by rfl) (hpl : (backTo pos (starEach [] X.env)).any (·.1) = false := by rfl) :
    PS X (.Raise (some (.Call (.Name "NoLoop" p) [a] [] pos)) none pos2) (tRaiseLowL C W ta) := ps_raise hc tk (pmk_lowL T hr ha hg he hpl)
/-- low.by, low the exception that the suite holds (at a; its class cls, its dict d) -/
def tByLowL (C : Addr) (a : Addr) (cls : Value) (d : Option Addr) (te : TE) : TE := fun σ H Q => te σ H fun x H1 => x = .ref a ∧ cls = .ref C ∧ ∃ (dd : Addr) (v : V), d = some dd ∧ H1 dd = some (.xd [(("loop" : Str), v)]) ∧ Q v H1
theorem pe_byLowL {a : Addr} {oe : Obj} {cls : Value} {d : Option Addr} {pn : List (Addr × Obj)} {e : Expr} {te : TE} {pos : Pos} (T : PySem.LowL.LowTxt X.K X.mg C fI) (hz : Zc cls d oe) (hf : ∃ vs, oe.data = .fields vs) (he : PE (X.suite a ((a, oe) :: pn)) e te)
    (hb : attributeBase e "loop" X.env (eval e X.env) = eval e X.env := by rfl) :
    PE (X.suite a ((a, oe) :: pn)) (.Attribute e "loop" pos) (tByLowL C a cls d te) := by
  refine ⟨fun pins s σ H Q I h => ?_⟩
  refine attr_of hb (thn (he.run pins s σ H _ I h) fun u s1 hh => ?_)
  obtain ⟨x, H1, I1, rx, ex, ec, dd, v, ed, ea, q⟩ := hh
  subst ex
  obtain rfl : u = Value.ref a := rx
  subst ec
  subst ed
  obtain ⟨ha, _⟩ := I1.pin (a, oe) (List.mem_append_left _ List.mem_cons_self)
  obtain ⟨vs, hd⟩ := hf
  have hx : ObjOk X.prog X.w H1 s1.heap dd (.xd [(("loop" : Str), v)]) := I1.hok dd _ ea
  obtain ⟨mA, hns, hr⟩ := hx
  obtain ⟨od, ho, hl⟩ := lookIn_ns hns
  have l : List.lookup ("loop" : Str) [(("loop" : Str), v)] = some v := by simp [List.lookup]
  obtain ⟨u, hu, ru⟩ := RelO.some_of (v := v) (o := mA "loop") (by rw [← l]; exact hr "loop")
  have J : PySem.W.InstAt s1.heap a oe C (some od) := ⟨ha, hz.1, by unfold PySem.W.notCls; rw [hd] <;> rfl, by rw [hz.2]; exact ho⟩
  exact HandSPX.exc_get I1.kIn J T.ga T.gg T.exC (PySem.W.findObj_own T.hdC T.noN rfl (by rw [hl, hu])) (handed_of ru) ⟨v, H1, I1.tok _, ru, q⟩
end
end L2


/-! An own error with one field, BadTown, as the guide's skeleton on own errors gives it. -/
namespace PySem
namespace LowT
open PySem.W PySem.Calls PyProof.Rows PySem.HandSPX
/-! ### the text of __init__ -/
def iA (p1 p2 : Pos) : Arguments := { posonlyargs := [], args := [{ arg := "self", annotation := none, pos := p1 }, { arg := "what", annotation := none, pos := p2 }], vararg := none, kwonlyargs := [], kw_defaults := [], kwarg := none, defaults := [] }
def iB (q1 q2 q3 q4 : Pos) : List Stmt := [.Assign [.Attribute (.Name "self" q1) "what" q2] (.Name "what" q3) q4]
def iS : Scope := { kind := .function, names := [(PySem.Str.ofString "self", .local), (PySem.Str.ofString "what", .local)], isGenerator := false, isCoroutine := false, more := [] }
/-- what the written part says of Low, at C, and of its __init__, at fI -/
structure LowTxt (K : Frag) (mg : Str → Option Value) (C fI : Addr) : Prop where
  gC : mg "BadTown" = some (.ref C)
  cls : ∃ nm q N bs bm sn sub ab col dd k0 k1 k2 k3 k5, K.lookup C = some (excClassObj nm q C N bs bm true sn sub ab col dd k0 k1 k2 k3 k5 "ValueError.__new__") ∧ refsVE bm = true
  sa : findIn K (.ref C) "__setattr__" = some (some (.builtin "object.__setattr__"))
  ga : findIn K (.ref C) "__getattribute__" = some (some (.builtin "BaseException.__getattribute__"))
  gg : findIn K (.ref C) "__getattr__" = some none
  noN : findIn K (.ref C) "what" = some none
  iC : findIn K (.ref C) "__init__" = some (some (.ref fI))
  tC : typeIn K (.ref fI) = some (.type "function")
  kC : keepIn K (.ref C) = true
  exC : subIn K (.ref C) (.type "BaseException") = some true
  tyC : typeIn K (.ref C) = some (.type "type")
  hdC : hasDictIn K C = true
  te : exmOne K (.ref C) (.ref C) = some true
  fn : ∃ (oc : Value) (od : Option Addr) (doc pm : Value) (an : Option Addr) (cdv ct : Value) (osl : Array (Option Value)) (p1 p2 q1 q2 q3 q4 : Pos),
    K.lookup fI = some ⟨oc, od, .func (fnOf "__init__" "BadTown.__init__" (iA p1 p2) (iB q1 q2 q3 q4) iS .none .none doc pm an cdv ct), osl⟩ ∧ codeIn K cdv "BadTown.__init__" = true
theorem one_size (v : Value) : [v].length ≤ sizeLine := by
  rw [sizeLine_eq]
  exact (by decide : 1 ≤ 16777216)
theorem kept_but {K : Frag} {h h' : Heap} {x : Addr} (X : K.In h) (hx : K.lookup x = none) (k : ∀ b o, b ≠ x → h.get? b = some o → h'.get? b = some o) : K.In h' := fun a o e =>
  k a o (fun z => by rw [z, hx] at e; cases e) (X a o e)
theorem ldC {M : Model} {s : Shared} {name : Str} {scope : Scope} {L a : Addr} {cd : Value} {m : Str → Option Value} {x : Str} {pos : Pos} {v : Value} {Q : Value → Shared → Prop} {A : Around} {E : Value → Shared → Prop} (hn : s.heap.Ns L m) (hv : m x = some v) (h : Q v s)
    (hk : scope.kind = .function := by rfl) (hl : (envOfC name scope L a cd).kindOf x = some .local := by rfl) (hd : (x == ("__debug__" : Str)) = false := by decide) :
    wpAny M A (eval (.Name x pos) (envOfC name scope L a cd)) Q E s := wpAny_Name (wpAny_loadName_local hk hl hn hv h) hd
/-- what __init__ leaves of a fresh exception at x -/
structure InitEnd (h h' : Heap) (x C dx t1 : Addr) (v : Value) : Prop where
  keep : ∀ b o, b ≠ x → h.get? b = some o → h'.get? b = some o
  obj : h'.get? x = some { cls := .ref C, dict := some dx, data := .fields #[.ref t1, .none, .none, .none, .bool false, .none] }
  dbig : h.objs.size ≤ dx
  dne : dx ≠ x
  ns : h'.Ns1 dx (fun y => if y = "what" then some v else none)
/-- a made Low -/
structure OwnMade (h h' : Heap) (e C d : Addr) (v : Value) : Prop where
  keep : ∀ b o, h.get? b = some o → h'.get? b = some o
  new : h.objs.size ≤ e
  obj : ∃ oe vs, h'.get? e = some oe ∧ oe.cls = .ref C ∧ oe.dict = some d ∧ oe.data = .fields vs ∧ vs[1]? = some .none
  dbig : h.objs.size ≤ d
  dne : d ≠ e
  ns : h'.Ns1 d (fun y => if y = "what" then some v else none)
section
variable {prog : Program} {w : World} {A : Around} {E : Value → Shared → Prop} {R : Result → Shared → Prop} {s : Shared} {K : Frag} {mg : Str → Option Value} {C fI : Addr}
theorem low_init (T : LowTxt K mg C fI) {x t0 : Addr} {v : Value} (X : K.In s.heap) (hlim : s.heap.NoLimit) (hx : s.heap.get? x = some (excO C t0)) (hnx : K.lookup x = none) (hroom : A.depth < recursionLimit)
    (hq : ∀ h' tk dx, InitEnd s.heap h' x C dx t0 v → R (.ok (.ret .none)) { s with heap := h', toks := tk }) :
    codeAny (model prog w) A (.call (.ref fI) ⟨[.ref x, v], []⟩) R s := by
  obtain ⟨oc, od, doc, pm, an, cdv, ct, osl, p1, p2, q1, q2, q3, q4, ho, hcd⟩ := T.fn
  obtain ⟨nm, q, N, bs, bm, sn, sub, ab, col, dd, k0, k1, k2, k3, k5, hC, hbm⟩ := T.cls
  have hcl : clsIn K C = some { name := nm, bases := bs, mro := .ref C :: bm, ns := N, qualname := q, hasDict := true, slotNames := sn, subclasses := sub, abstract := ab, collection := col, hasDel := false } := by unfold clsIn; rw [hC] <;> rfl
  refine Att.call_fn (binds := [("self", .ref x), ("what", v)]) X hlim ho hcd hroom (BindsTo.of_eq (by first | rfl | with_unfolding_all rfl)) (by first | rfl | decide | with_unfolding_all rfl) (fun s₁ IC => ?_) rfl rfl rfl
  obtain ⟨h₁, tk₁, rfl⟩ := IC.toInCall.same
  have k : ∀ b o, s.heap.get? b = some o → h₁.get? b = some o := IC.toInCall.keep
  have hn := IC.toInCall.ns
  have hxL : s.heap.objs.size ≠ x := Nat.ne_of_gt (Heap.lt_size hx)
  have X₁ : K.In h₁ := X.keeps k
  have hx₁ := k _ _ hx
  -- self.by = by
  show wpAny _ _ (execs _ _) _ _ _
  refine wpAny_execs_cons (plainObj_wpAny_Assign_Attribute ?_)
  refine ldC (v := v) hn (by first | rfl | with_unfolding_all rfl | kernel_rfl) (ldC (v := .ref x) hn (by first | rfl | with_unfolding_all rfl | kernel_rfl) ?_)
  refine set_plain X₁ (ox := excO C t0) (od := none) ⟨hx₁, rfl, rfl, trivial⟩ T.sa ?_
  refine exc_osa X₁ hx₁ hcl (show refsVE (.ref C :: bm) = true from hbm) rfl T.noN (fun h₃ tk₃ dx k₃ dn dne hx₃ hn₃ => ?_)
  show wpAny _ _ (execs _ _) _ _ _
  have z : s.heap.objs.size < h₁.objs.size := hn.lt
  exact wpAny_execs_nil (hq h₃ tk₃ dx ⟨fun b o hb e => k₃ b o hb (k b o e), hx₃, Nat.le_of_lt (Nat.lt_of_lt_of_le z dn), dne, hn₃⟩)
theorem low_made (T : LowTxt K mg C fI) {v : Value} (X : K.In s.heap) (hlim : s.heap.NoLimit) (hroom : A.depth + 1 < recursionLimit)
    (hq : ∀ h' tk e d, OwnMade s.heap h' e C d v → R (.ok (.ret (.ref e))) { s with heap := h', toks := tk }) :
    codeAny (model prog w) A (.call (.ref C) ⟨[v], []⟩) R s := by
  obtain ⟨nm, q, N, bs, bm, sn, sub, ab, col, dd, k0, k1, k2, k3, k5, hC, hbm⟩ := T.cls
  obtain ⟨hp, g, dr, tk, os⟩ := s
  have k : ∀ b o, hp.get? b = some o → ((hp.push (kdv_tup [v])).push (excO C hp.objs.size)).get? b = some o := fun b o e => Heap.get?_push_of_some _ (Heap.get?_push_of_some _ e)
  have hget : ((hp.push (kdv_tup [v])).push (excO C hp.objs.size)).get? (hp.objs.size + 1) = some (excO C hp.objs.size) := by heap_get
  have hnx : K.lookup (hp.objs.size + 1) = none := by
    cases e : K.lookup (hp.objs.size + 1) with
    | none => rfl
    | some o =>
      have z : hp.get? (hp.objs.size + 1) = some o := X _ _ e
      exact absurd (Nat.lt_of_succ_lt (Heap.lt_size z)) (Nat.lt_irrefl _)
  refine call_own F.excBase_ValueError (fun X => refsVE_contains X bm hbm) (X _ _ hC) (looks_findIn X T.iC) (fun self => bind_fn X self T.tC) (one_size v) ?_
  refine low_init (s := ⟨(hp.push (kdv_tup [v])).push (excO C hp.objs.size), g, dr, tk, os⟩) T (X.keeps k) (hlim.keeps k) hget hnx ?_ fun h' tk' dx ⟨k', hx, dn, dne, hns⟩ => ?_
  · show A.depth + 1 < recursionLimit
    exact hroom
  · have old : ∀ b o, hp.get? b = some o → h'.get? b = some o := fun b o e => k' b o (Nat.ne_of_lt (Nat.lt_succ_of_lt (Heap.lt_size e))) (k b o e)
    have z : hp.objs.size + 1 + 1 ≤ dx := by
      first
        | (simpa only [Heap.size_push] using dn)
        | exact dn
        | (have q := dn; rw [Heap.size_push, Heap.size_push] at q; exact q)
    exact ⟨rfl, hq h' tk' (hp.objs.size + 1) dx ⟨old, Nat.le_succ _, ⟨_, _, hx, rfl, rfl, rfl, rfl⟩, Nat.le_trans (Nat.le_trans (Nat.le_succ _) (Nat.le_succ _)) z, dne, hns⟩⟩
end
end LowT
end PySem
namespace L2
open PySem PySem.Spec PyProof.Rows
theorem relO_lowT {v : V} {v' : Value} (r : RelV v v') (f : Str) : RelO (List.lookup f [(("what" : Str), v)]) (if f = "what" then some v' else none) := by
  by_cases hw : f = "what"
  · subst hw
    rw [if_pos rfl]
    have q : List.lookup ("what" : Str) [(("what" : Str), v)] = some v := by simp [List.lookup]
    rw [q]
    exact r
  · rw [if_neg hw]
    have qw : (f == ("what" : Str)) = false := by simpa using hw
    have q2 : List.lookup f [(("what" : Str), v)] = none := by simp [List.lookup, qw]
    rw [q2]
    trivial
section
variable {X : Cx} {C fI : Addr}
/-- Low(e) -/
def tMkLowT (C : Addr) (ta : TA) : St → Hp → XK → Prop := fun σ H Q => ta σ H fun vs H1 => ∃ v, vs = [v] ∧ ∀ d, H1 d = none → Q (.ref C) (some d) (upd H1 d (.xd [(("what" : Str), v)]))
theorem pmk_lowT {a : Expr} {ta : TA} {p pos : Pos} {k : Nat} (T : PySem.LowT.LowTxt X.K X.mg C fI) (hr : Room k X.A) (ha : PA X [a] ta) (hg : Gl X "BadTown" := by rfl)
    (he : starEach (a :: []) X.env = (false, eval a X.env) :: starEach [] X.env := by rfl) (hpl : (backTo pos (starEach [] X.env)).any (·.1) = false := by rfl) :
    PMk X (.Call (.Name "BadTown" p) [a] [] pos) (tMkLowT C ta) := by
  intro pins s σ H Q I h
  refine wpAny_Call_Name_kw (ld_glob I hg T.gC ?_)
  refine PySem.W.callWith_K (h₀ := X.base) I.ok.mod.kin T.kC (thn (ha.run pos pins s σ H _ I h) fun us s1 hh => ?_) he hpl
  obtain ⟨vs, H1, I1, r1, v, ev, q1⟩ := hh
  subst ev
  refine ⟨I1.kIn, ?_⟩
  cases r1 with
  | cons rv rn =>
    rename_i v' us'
    cases rn
    show wpAny _ _ (call (.ref C) [v']) _ _ _
    have hlim := I1.nolimit
    obtain ⟨hp, g, dr, tk, os⟩ := s1
    refine wpAny_call (PySem.LowT.low_made T I1.kIn hlim (by have := hr.dp; omega) fun h' tk' e d M => ?_)
    show MkP X pins σ Q (.ref e) ⟨h', g, dr, tk', os⟩
    obtain ⟨oe, fv, hoe, hc, hd, hdat, h1⟩ := M.obj
    have hns := M.ns
    obtain ⟨G', g1, g2⟩ := restrict h' fun b => decide (b ≠ e)
    have gk : ∀ b, b ≠ e → G'.get? b = h'.get? b := fun b hb => g1 b (decide_eq_true hb)
    have ge : G'.get? e = none := g2 e (by simp)
    have old : ∀ b o, hp.get? b = some o → G'.get? b = some o := fun b o q => (gk b (Nat.ne_of_lt (Nat.lt_of_lt_of_le (Heap.lt_size q) M.new))).trans (M.keep b o q)
    have ob : ObjOk X.prog X.w (upd H1 d (.xd [(("what" : Str), v)])) G' d (.xd [(("what" : Str), v)]) :=
      ⟨_, hns.at (fun o q => (gk d M.dne).trans q), fun f => relO_lowT rv f⟩
    have J : Inv X pins σ (upd H1 d (.xd [(("what" : Str), v)])) ⟨G', g, dr, tk', os⟩ := I1.laid (t' := tk') old M.dbig ob
    refine ⟨e, oe, fv, ⟨G', g, dr, tk', os⟩, _, .ref C, some d, rfl, J, fun b o q => ?_, ge, hoe, ⟨hc, hd⟩, hdat, h1, ?_, rfl, I1.bare, raises_own T.exC T.tyC, q1 d (I1.hok.fresh M.dbig)⟩
    · by_cases hb : b = e
      · have q' : G'.get? b = some o := q
        rw [hb, ge] at q'; cases q'
      · exact (gk b hb).symm.trans q
    · rw [upd_ne (Ne.symm M.dne)]
      exact I1.hok.fresh M.new
/-- raise Low(e) -/
def tRaiseLowT (C : Addr) (W : WX) (ta : TA) : TS := fun _ σ H => tMkLowT C ta σ H fun cls d H' => W cls d σ H'
theorem ps_raiseLowT {a : Expr} {ta : TA} {W : WX} {p pos pos2 : Pos} {k : Nat} (hc : X.calm = true) (T : PySem.LowT.LowTxt X.K X.mg C fI) (hr : Room k X.A) (tk : Takes X W) (ha : PA X [a] ta) (hg : Gl X "BadTown" := by rfl)
    (he : starEach (a :: []) X.env = (false, eval a X.env) :: starEach [] X.env := by rfl) (hpl : (backTo pos (starEach [] X.env)).any (·.1) = false := by rfl) :
    PS X (.Raise (some (.Call (.Name "BadTown" p) [a] [] pos)) none pos2) (tRaiseLowT C W ta) := ps_raise hc tk (pmk_lowT T hr ha hg he hpl)
/-- low.by, low the exception that the suite holds (at a; its class cls, its dict d) -/
def tByLowT (C : Addr) (a : Addr) (cls : Value) (d : Option Addr) (te : TE) : TE := fun σ H Q => te σ H fun x H1 => x = .ref a ∧ cls = .ref C ∧ ∃ (dd : Addr) (v : V), d = some dd ∧ H1 dd = some (.xd [(("what" : Str), v)]) ∧ Q v H1
theorem pe_byLowT {a : Addr} {oe : Obj} {cls : Value} {d : Option Addr} {pn : List (Addr × Obj)} {e : Expr} {te : TE} {pos : Pos} (T : PySem.LowT.LowTxt X.K X.mg C fI) (hz : Zc cls d oe) (hf : ∃ vs, oe.data = .fields vs) (he : PE (X.suite a ((a, oe) :: pn)) e te)
    (hb : attributeBase e "what" X.env (eval e X.env) = eval e X.env := by rfl) :
    PE (X.suite a ((a, oe) :: pn)) (.Attribute e "what" pos) (tByLowT C a cls d te) := by
  refine ⟨fun pins s σ H Q I h => ?_⟩
  refine attr_of hb (thn (he.run pins s σ H _ I h) fun u s1 hh => ?_)
  obtain ⟨x, H1, I1, rx, ex, ec, dd, v, ed, ea, q⟩ := hh
  subst ex
  obtain rfl : u = Value.ref a := rx
  subst ec
  subst ed
  obtain ⟨ha, _⟩ := I1.pin (a, oe) (List.mem_append_left _ List.mem_cons_self)
  obtain ⟨vs, hd⟩ := hf
  have hx : ObjOk X.prog X.w H1 s1.heap dd (.xd [(("what" : Str), v)]) := I1.hok dd _ ea
  obtain ⟨mA, hns, hr⟩ := hx
  obtain ⟨od, ho, hl⟩ := lookIn_ns hns
  have l : List.lookup ("what" : Str) [(("what" : Str), v)] = some v := by simp [List.lookup]
  obtain ⟨u, hu, ru⟩ := RelO.some_of (v := v) (o := mA "what") (by rw [← l]; exact hr "what")
  have J : PySem.W.InstAt s1.heap a oe C (some od) := ⟨ha, hz.1, by unfold PySem.W.notCls; rw [hd] <;> rfl, by rw [hz.2]; exact ho⟩
  exact HandSPX.exc_get I1.kIn J T.ga T.gg T.exC (PySem.W.findObj_own T.hdC T.noN rfl (by rw [hl, hu])) (handed_of ru) ⟨v, H1, I1.tok _, ru, q⟩
end
end L2


/-! Operators of own classes, by values: ==, <, .. by __eq__, __lt__, ..; |, &, - by __or__, ..; in by __contains__; len by __len__. -/
namespace Ow
open PySem PySem.Spec PyProof.Rows L2
section
variable {X : Cx} {CX : CXT} {C g : Addr} {n : Nat} {sp : Sp} {E : XK}
theorem ins_at {pins : List (Addr × Obj)} {σ : L2.St} {H : Hp} {s : Shared} {a C dx : Addr} {fs : List (Str × V)} (I : Inv X pins σ H s) (e : H a = some (.ins C dx fs)) : ∃ ox od, PySem.W.InstAt s.heap a ox C od := by
  obtain ⟨mA, O, _⟩ := ins_get I.hok e
  obtain ⟨od, J, _⟩ := O.look
  exact ⟨_, _, J⟩
/-- x op y by the own def of x's class at C; y's class not below C -/
def rCmp (K : PySem.W.Frag) (C : Addr) (sp : Sp) (E : XK) : R2 := fun x y H Q => ∃ a dx fs t, x = .ref a ∧ H a = some (.ins C dx fs) ∧ TyX K H y t ∧ PySem.W.notFirst K C t = true ∧ sp [x, y] H Q E
theorem op_cmp {op : CmpOp} (hop : ∀ a b, compareOp op a b = richCompare op a b) (hs : PySem.W.findIn X.K (.ref C) (cmpInfo op).2.1 = some (some (.ref g))) (hf : PySem.W.isFn X.K (.ref g) = true) (F : FnR X.prog X.w X.K X.mg X.base CX n g sp)
    (hr : Room n X.A) (hx : Passes CX X E) : OpR X (compareOp op) (rCmp X.K C sp E) := by
  intro pins s σ H x y v u Q I rx ry h
  obtain ⟨a, dx, fs, t, rfl, ha, ty, hn, q⟩ := h
  cases (show v = Value.ref a from rx)
  obtain ⟨ox, od, J⟩ := ins_at I ha
  obtain ⟨P, k, hp, _⟩ := kit_of I ry ty
  obtain ⟨m, hF⟩ := I.fr
  rw [hop]
  refine PySem.W.cmp_K (op := op) (tb := t) hr.units0 hF I.ok.mod.kin J (k.ty _ _ I.kIn hp) hn hs hf ?_
  refine wpAny_mono (wpAny_call (run_fnR (us := [.ref a, u]) (vs := [.ref a, y]) F hr hx I (.cons rfl (.cons ry .nil)) q)) (fun w s' z => ?_) fun _ _ x => x
  obtain ⟨z', H', I', rz, qz⟩ := z
  exact SlX.cmpback rz ⟨z', H', I', rz, qz⟩
/-- x op y, both of the class at C -/
def rBin (C : Addr) (sp : Sp) (E : XK) : R2 := fun x y H Q => ∃ a dx fs b dy gs, x = .ref a ∧ y = .ref b ∧ H a = some (.ins C dx fs) ∧ H b = some (.ins C dy gs) ∧ sp [x, y] H Q E
theorem op_bin {op : Operator} (hc : PySem.W.selfFirst X.K C = true) (hs : PySem.W.findIn X.K (.ref C) (PySem.dunder op.info.2) = some (some (.ref g))) (hf : PySem.W.isFn X.K (.ref g) = true) (F : FnR X.prog X.w X.K X.mg X.base CX n g sp)
    (hr : Room n X.A) (hx : Passes CX X E) : OpR X (binaryOp op) (rBin C sp E) := by
  intro pins s σ H x y v u Q I rx ry h
  obtain ⟨a, dx, fs, b, dy, gs, rfl, rfl, ha, hb, q⟩ := h
  cases (show v = Value.ref a from rx)
  cases (show u = Value.ref b from ry)
  obtain ⟨ox, od, J⟩ := ins_at I ha
  obtain ⟨oy, oe, J'⟩ := ins_at I hb
  obtain ⟨m, hF⟩ := I.fr
  refine PySem.W.binop_K (op := op) hF I.ok.mod.kin J J'.type hc hs hf ?_
  refine wpAny_mono (wpAny_call (run_fnR (us := [.ref a, .ref b]) (vs := [.ref a, .ref b]) F hr hx I (.cons rfl (.cons rfl .nil)) q)) (fun w s' z => ?_) fun _ _ x => x
  obtain ⟨z', H', I', rz, qz⟩ := z
  exact SlX.cmpback rz ⟨z', H', I', rz, qz⟩
/-- y in x, by __contains__ (its answer a bool) -/
def rIn (C : Addr) (sp : Sp) (E : XK) (neg : Bool) : R2 := fun y x H Q => ∃ a dx fs, x = .ref a ∧ H a = some (.ins C dx fs) ∧ sp [x, y] H (fun z H' => ∃ c, z = .bl c ∧ Q (.bl (if neg then !c else c)) H') E
theorem op_in (hs : PySem.W.findIn X.K (.ref C) "__contains__" = some (some (.ref g))) (hf : PySem.W.isFn X.K (.ref g) = true) (F : FnR X.prog X.w X.K X.mg X.base CX n g sp)
    (hr : Room n X.A) (hx : Passes CX X E) : OpR X (compareOp .In) (rIn C sp E false) := by
  intro pins s σ H y x u v Q I ry rx h
  obtain ⟨a, dx, fs, rfl, ha, q⟩ := h
  cases (show v = Value.ref a from rx)
  obtain ⟨ox, od, J⟩ := ins_at I ha
  obtain ⟨m, hF⟩ := I.fr
  refine PySem.W.in_K hF I.ok.mod.kin J hs hf ?_
  refine wpAny_mono (wpAny_call (run_fnR (us := [.ref a, u]) (vs := [.ref a, y]) F hr hx I (.cons rfl (.cons ry .nil)) q)) (fun w s' z => ?_) fun _ _ x => x
  obtain ⟨z', H', I', rz, c, rfl, qz⟩ := z
  cases (show w = Value.bool c from rz)
  exact wpAny_truthy_bool ⟨.bl c, H', I', rfl, qz⟩
theorem op_notIn (hs : PySem.W.findIn X.K (.ref C) "__contains__" = some (some (.ref g))) (hf : PySem.W.isFn X.K (.ref g) = true) (F : FnR X.prog X.w X.K X.mg X.base CX n g sp)
    (hr : Room n X.A) (hx : Passes CX X E) : OpR X (compareOp .NotIn) (rIn C sp E true) := by
  intro pins s σ H y x u v Q I ry rx h
  obtain ⟨a, dx, fs, rfl, ha, q⟩ := h
  cases (show v = Value.ref a from rx)
  obtain ⟨ox, od, J⟩ := ins_at I ha
  obtain ⟨m, hF⟩ := I.fr
  refine PySem.W.notIn_K hF I.ok.mod.kin J hs hf ?_
  refine wpAny_mono (wpAny_call (run_fnR (us := [.ref a, u]) (vs := [.ref a, y]) F hr hx I (.cons rfl (.cons ry .nil)) q)) (fun w s' z => ?_) fun _ _ x => x
  obtain ⟨z', H', I', rz, c, rfl, qz⟩ := z
  cases (show w = Value.bool c from rz)
  exact wpAny_truthy_bool ⟨.bl (!c), H', I', rfl, qz⟩
/-- len(x), by __len__ -/
def rLen (C : Addr) (sp : Sp) (E : XK) : List V → Hp → VK → Prop := fun xs H Q => ∃ a dx fs, xs = [V.ref a] ∧ H a = some (.ins C dx fs) ∧ sp [.ref a] H (fun z H' => ∃ i : Int, z = .int i ∧ 0 ≤ i ∧ i < 2 ^ 63 ∧ Q (.int i) H') E
theorem call_len (hs : PySem.W.findIn X.K (.ref C) "__len__" = some (some (.ref g))) (hf : PySem.W.isFn X.K (.ref g) = true) (F : FnR X.prog X.w X.K X.mg X.base CX n g sp)
    (hr : Room (n + 1) X.A) (hx : Passes CX X E) : CallR X (.builtin "len") (rLen C sp E) := by
  intro pins s σ H xs us Q I r h
  obtain ⟨a, dx, fs, rfl, ha, q⟩ := h
  obtain ⟨u, rfl, ru⟩ := r.one
  cases (show u = Value.ref a from ru)
  obtain ⟨ox, od, J⟩ := ins_at I ha
  obtain ⟨m, hF⟩ := I.fr
  refine PySem.W.len_K hF I.ok.mod.kin J hs hf (wpAny_mono (wpAny_call (SlX.run_at (us := [.ref a]) (ws := [.ref a]) F hr.in1 I.env0.in1 hx I (.cons rfl .nil) q)) (fun w s' z => ?_) fun _ _ x => x)
  obtain ⟨z', H', I', rz, i, rfl, h0, h1, qz⟩ := z
  obtain ⟨t, e⟩ := (show ∃ t, w = Value.int i t from rz)
  cases e
  exact ⟨⟨h0, h1⟩, .int i, H', I'.tok _, ⟨_, rfl⟩, qz⟩
end
end Ow

/-! x op y by the own def of x's class, y of a built-in type; a call that may raise in a try whose suite asks only its own name. -/
namespace Po
open PySem PySem.Spec PyProof.Rows L2
theorem passL {X : Cx} {W : WX} (n : Nat) (hn : X.N.length = n) (tk : Takes X W) : Passes (L2.CX X.prog X.w) X (fun cls d H => ∀ σ : L2.St, σ.length = n → W cls d σ H) :=
  fun _ σ _ _ e s' I c => tk e s' (XE.of_call I (fun _ _ _ h => h σ (I.len.trans hn)) c)
/-- what is asked of the type T on the right -/
structure RT (K : PySem.W.Frag) (op : Operator) (C : Addr) (T : String) : Prop where
  ex : ∃ fo ro : Option Value, PySem.W.findIn K (.type T) (PySem.dunder op.info.2) = some fo ∧ PySem.W.findIn K (.type T) (dunderR op.info.2) = some ro
  sub : PySem.W.subIn K (.type T) (.ref C) = some false
/-- and of the class on the left -/
structure LT (K : PySem.W.Frag) (op : Operator) (C : Addr) : Prop where
  rc : ∃ rc : Option Value, PySem.W.findIn K (.ref C) (dunderR op.info.2) = some rc ∧ (rc = none ∨ ∃ g : Addr, rc = some (.ref g))
  sf : PySem.W.selfFirst K C = true
section
open PySem.W
variable {prog : Program} {w : World} {A : Around} {E : Value → Shared → Prop} {s : Shared} {K : Frag} {x C L f : Addr} {h₀ : Heap} {m : Str → Option Value} {ox : Obj} {od : Option Obj} {T : String}
theorem bin_at {op : Operator} {b : Value} {Q : Value → Shared → Prop} (F : Fr h₀ L s.heap m) (kin : K.In h₀) (I : InstAt s.heap x ox C od) (hb : Looks (model prog w) s.heap (typeOf b) (.type T)) (lt : LT K op C)
    (own : findIn K (.ref C) (PySem.dunder op.info.2) = some (some (.ref f))) (fn : isFn K (.ref f) = true) (rt : RT K op C T)
    (go : wpAny (model prog w) A (call (.ref f) [.ref x, b]) (PySem.W.CmpBack Q) E s) : wpAny (model prog w) A (binaryOp op (.ref x) b) Q E s := by
  have kn := kin.keeps F.keep
  obtain ⟨⟨fo, ro, t1, t2⟩, apart⟩ := rt
  obtain ⟨⟨rc, back, bk⟩, first⟩ := lt
  obtain ⟨cd, rest, ecd, emro⟩ := ksp_first first
  rcases hop : op.info with ⟨sg, nm⟩
  rw [hop] at own back t1 t2
  dsimp only at own back t1 t2
  have tried := ksp_try kn I own fn go
  obtain ⟨hp, gn, dr, tks, oss⟩ := s
  have k1 : Looks (model prog w) hp (typeOf (Value.ref x)) (Value.ref C) := I.type
  have k2 : Looks (model prog w) hp (typeOf b) (Value.type T) := hb
  have k3 : Looks (model prog w) hp (fillsNumberSlot (Value.ref C) nm) true := fills_K kn ecd emro own
  have k4 := ksp_fillsT (M := model prog w) kn t1 t2
  have k5 : Looks (model prog w) hp (isSubtype (Value.type T) (Value.ref C)) false := looks_subIn kn apart
  have k6 : Looks (model prog w) hp (numberSlotInPython (Value.ref C) nm) true := ksp_inPy kn own back bk
  have k7 : Looks (model prog w) hp (numberSlotInPython (Value.type T) nm) false := Looks.of_pure rfl
  have k8 : Looks (model prog w) hp (typeLookup (Value.type T) (dunderR nm)) ro := looks_findIn kn t2
  revert k4
  generalize ((fo.isSome && !isSeqSlot fo) || (ro.isSome && !isSeqSlot ro)) = rgt
  intro k4
  have apart2 : (Value.ref C == Value.type T) = false := by
    cases q : (Value.ref C == Value.type T) with
    | false => rfl
    | true => cases beq_iff_eq.mp q
  simp only [binaryOp, hop]
  apply wpAny_holding
  apply wpAny_bind
  unfold binaryOp1
  refine wpAny_bind (k1.at ?_)
  refine wpAny_bind (k2.at ?_)
  refine wpAny_bind (k3.at ?_)
  simp only [apart2, Bool.false_eq_true, if_false]
  cases rgt <;>
    (ksp_lk
     refine wpAny_mono tried (fun r s' z => ?_) fun _ _ e => e
     obtain ⟨v, rfl, hq⟩ := z
     ksp_lk
     exact hq)
end
section
variable {X : Cx} {CX : CXT} {C g : Addr} {n : Nat} {sp : Sp} {E : XK}
/-- x op y by the own def of x's class at C; y of a built-in type -/
def rBinT (K : PySem.W.Frag) (op : Operator) (C : Addr) (sp : Sp) (E : XK) : R2 := fun x y H Q => ∃ a dx fs T, x = .ref a ∧ H a = some (.ins C dx fs) ∧ TyX K H y (.type T) ∧ RT K op C T ∧ sp [x, y] H Q E
theorem op_binI {op : Operator} (lt : LT X.K op C) (hs : PySem.W.findIn X.K (.ref C) (PySem.dunder op.info.2) = some (some (.ref g))) (hf : PySem.W.isFn X.K (.ref g) = true) (F : FnR X.prog X.w X.K X.mg X.base CX n g sp)
    (hr : Room n X.A) (hx : Passes CX X E) : OpR X (binaryOp op) (rBinT X.K op C sp E) := by
  intro pins s σ H x y v u Q I rx ry h
  obtain ⟨a, dx, fs, T, rfl, ha, ty, rt, q⟩ := h
  cases (show v = Value.ref a from rx)
  obtain ⟨ox, od, J⟩ := Ow.ins_at I ha
  obtain ⟨P, k, hp, _⟩ := kit_of I ry ty
  obtain ⟨m, hF⟩ := I.fr
  refine bin_at hF I.ok.mod.kin J (k.ty _ _ I.kIn hp) lt hs hf rt ?_
  refine wpAny_mono (wpAny_call (run_fnR (us := [.ref a, u]) (vs := [.ref a, y]) F hr hx I (.cons rfl (.cons ry .nil)) q)) (fun w s' z => ?_) fun _ _ x => x
  obtain ⟨z', H', I', rz, qz⟩ := z
  exact SlX.cmpback rz ⟨z', H', I', rz, qz⟩
end
end Po

/-! A method of an own class that may raise, called with values (the guide's way). -/
namespace MS
open PySem PySem.Spec PyProof.Rows L2
def tMethS (C : Addr) (m : Str) (sp : Sp) (E : L2.St → XK) (ta : TE) (t : TA) : TE := fun σ H Q => ta σ H fun x H1 => ∃ a dx fs, x = .ref a ∧ H1 a = some (.ins C dx fs) ∧ fs.lookup m = none ∧ t σ H1 fun vs H2 => sp (x :: vs) H2 Q (E σ)
theorem pe_methS {X : Cx} {CX : CXT} {k : Nat} {f C : Addr} {fd : FuncData} {ps : List Str} {sp : Sp} {E : L2.St → XK} {m : Str} {pos apos : Pos} {e o : Expr} {es : List Expr} {ta : TE} {t : TA} {pl : Sem Bool} (he : PE X o ta) (c : Cls X.K C) (hm : Meth X.K C m f)
    (F : FnOk X.prog X.w X.K X.mg X.base CX k f fd ps sp) (hr : Room k X.A) (hb : Binds X.K fd ps []) (hx : ∀ σ, PassesAt CX X σ (E σ)) (ha : PA X (e :: es) t)
    (hst : starEach (e :: es) X.env = (false, eval e X.env) :: starEach es X.env := by rfl) (hpl : (backTo pos (starEach es X.env)).any (·.1) = false := by rfl)
    (ht : eval (.Call (.Attribute o m apos) (e :: es) [] pos) X.env = (do
      let ov ← eval o X.env
      standAt apos.atName
      let (f, first) ← holding [ov] (getMethod ov m pl)
      callWith pos f first (backTo pos (starEach (e :: es) X.env)) (backToKw pos (keywordEach [] X.env))) := by rfl) :
    PE X (.Call (.Attribute o m apos) (e :: es) [] pos) (tMethS C m sp E ta t) := by
  refine ⟨fun pins s σ H Q I h => ?_⟩
  refine PySem.W.methodCall_KW (pl := pl) (thn (he.run pins s σ H _ I h) fun u s1 ⟨x, H1, I1, rx, a, dx, fs, ex, ea, l, q⟩ => ?_) ht
  subst ex
  obtain rfl : u = Value.ref a := rx
  refine getmeth_ok I1 ea c hm l ?_
  refine PySem.W.callWith_K (first := [.ref a]) (h₀ := X.base) I.ok.mod.kin hm.kp (thn (ha.run pos pins s1 σ H1 _ I1 q) fun us s2 ⟨vs, H2, I2, r, q2⟩ => ⟨I2.kIn, ?_⟩) hst hpl
  exact run_fnS (us := .ref a :: us) (vs := .ref a :: vs) F hr hb (hx σ) I2 (.cons rfl r) q2
end MS

/-! Comprehensions whose items draw from the bag, told one by one. -/
namespace Lm
open PySem L2 Wm Dv
theorem kt_but {K : PySem.W.Frag} {H H' : Hp} {b : Addr} {n : Nat} (bag : Bag H b n) (e : But b H H') : Kt K H H' := fun a xs q => by
  obtain ⟨c, x, k, m, z, ns, hb, _⟩ := bag
  have ne : ∀ {u : HO}, H a = some u → (∀ y, u ≠ .lst y) → H' a = some u := fun {u} h n => e.keep _ _ (fun z => by subst z; rw [hb] at h; exact n _ (Option.some.inj h).symm) h
  rcases q with (q | ⟨ob, q⟩) | q
  · exact .inl (.inl (ne q fun y z => by cases z))
  · exact .inl (.inr ⟨ob, ne q fun y z => by cases z⟩)
  · exact .inr q
theorem bag_off {H : Hp} {b p : Addr} {n : Nat} (bag : Bag H b n) (h : H p = none) : p ≠ b := fun e => by
  obtain ⟨_, _, _, _, _, _, hb, _⟩ := bag
  rw [e, hb] at h
  cases h
theorem lc_bag {K : PySem.W.Frag} {J : It} {n : Nat} {G : Hp → Prop} {xs : List V} (w : Walk J n G (YAt xs)) {g : TG} {te : TE} {vs : List Nat} {σ : L2.St} {H1 : Hp} {D : Addr} {Qd : Hp → Prop} {b : Addr} {m c : Nat} (R : Nat → V → Hp → Prop)
    (mono : ∀ i y H H', R i y H → Kt K H H' → R i y H') (hD : H1 D = none) (bag : Bag H1 b m) (hn : n ≤ 1000) (hG : ∀ H', But b H1 H' → G H')
    (hs : ∀ i x H', i < n → xs[i]? = some x → But b H1 H' → Bag H' b (m + c * i) → ∀ (Q : V → Hp → Prop) (Z : Hp → Prop), (∀ y H4, But b H' H4 → Bag H4 b (m + c * (i + 1)) → R i y H4 → Q y H4) → g x (wipe σ vs) H' fun σ2 H2 => wipe σ2 vs = wipe σ vs ∧ tYes σ2 H2 fun b H3 => if b = true then te σ2 H3 Q else Z H3)
    (hd : ∀ H ys, But b H1 H → Bag H b (m + c * n) → H D = some (.lst ys) → ys.length = n → (∀ (i : Nat) y, ys[i]? = some y → R i y H) → Qd H) :
    ∃ W : Nat → Nat → Hp → Prop, (∃ m, W 0 m (upd H1 D (.lst []))) ∧ ∀ i m H, W i m H →
      (J.stop i H ∧ Qd H) ∨ (J.go i H ∧ ∃ Nx : Hp → Prop, (∀ H', Nx H' → ∃ m', m' < m ∧ W (i + 1) m' H') ∧ ∀ x H', J.yld i H x H' → g x (wipe σ vs) H' fun σ2 H2 => wipe σ2 vs = wipe σ vs ∧ tYes σ2 H2 fun b H3 =>
        if b = true then te σ2 H3 fun y H4 => ∃ acc, H4 D = some (.lst acc) ∧ acc.length < sizeLine ∧ Nx (upd H4 D (.lst (acc ++ [y]))) else Nx H3) := by
  have db := bag_off bag hD
  refine lc_it (tt := tYes) w (fun i H => But b H1 H ∧ Bag H b (m + c * i) ∧ ∃ ys : List V, ys.length = i ∧ H D = some (.lst ys) ∧ ∀ j y, ys[j]? = some y → R j y H)
    ⟨But.of (same_new hD), (bag.keep (same_new hD)).mono (by omega), [], rfl, upd_same, fun (j : Nat) (y : V) e => by simp at e⟩ (fun i H _ h => hG H h.1) (fun i x H H' hi hP hY => ?_) (fun H hP => ?_)
  · obtain ⟨bt, bg, ys, el, hy, hR⟩ := hP
    obtain ⟨rfl, hx⟩ := hY
    refine hs i x H' hi hx bt bg _ _ (fun y H4 b4 g4 r4 => ?_)
    have hy4 := b4.keep _ _ db hy
    have k5 : Kt K H4 (upd H4 D (.lst (ys ++ [y]))) := Kt.lst hy4
    refine ⟨ys, hy4, by rw [el]; exact small1000 (by omega), (bt.trans b4).put hD, Bag.put bag hD (bt.trans b4) g4, ys ++ [y], by rw [List.length_append, el]; rfl, upd_same, fun j z hz => ?_⟩
    by_cases lj : j < ys.length
    · rw [List.getElem?_append_left lj] at hz
      exact mono _ _ _ _ (hR j z hz) ((kt_but bg b4).trans k5)
    · rw [List.getElem?_append_right (by omega)] at hz
      have e0 : j - ys.length = 0 := by
        by_cases q : j - ys.length = 0
        · exact q
        · rw [List.getElem?_eq_none (by rw [List.length_singleton]; omega)] at hz
          cases hz
      rw [e0] at hz
      have ez : y = z := by simpa using hz
      have ej : j = i := by omega
      subst ez ej
      exact mono _ _ _ _ r4 k5
  · obtain ⟨bt, bg, ys, el, hy, hR⟩ := hP
    exact hd H ys bt bg hy el hR
end Lm

/-! Comprehensions whose items are told one by one: over any walk, with facts that live on all but the list that is made. -/
namespace Lm
open PySem L2 Wm Dv
/-- what stood stands, but for D -/
def Bar (D : Addr) (H H' : Hp) : Prop := ∀ a o, a ≠ D → H a = some o → H' a = some o
theorem Bar.kt {K : PySem.W.Frag} {D : Addr} {H H' : Hp} {ys : List V} (hy : H D = some (.lst ys)) (e : Bar D H H') : Kt K H H' := fun a xs q => by
  have ne : ∀ {u : HO}, H a = some u → (∀ y, u ≠ .lst y) → H' a = some u := fun {u} h n => e _ _ (fun z => by subst z; rw [hy] at h; exact n _ (Option.some.inj h).symm) h
  rcases q with (q | ⟨ob, q⟩) | q
  · exact .inl (.inl (ne q fun y z => by cases z))
  · exact .inl (.inr ⟨ob, ne q fun y z => by cases z⟩)
  · exact .inr q
theorem lc_any {J : It} {n : Nat} {G : Hp → Prop} {Y : Nat → Hp → V → Hp → Prop} (w : Walk J n G Y) {g : TG} {te : TE} {vs : List Nat} {σ : L2.St} {H1 : Hp} {D : Addr} {Qd : Hp → Prop} (R : Nat → V → Hp → Prop)
    (mono : ∀ i y H H' ys, R i y H → H D = some (.lst ys) → Bar D H H' → R i y H') (hY : ∀ i H x H', Y i H x H' → Same H H') (hD : H1 D = none) (hn : n ≤ 1000) (hG : ∀ H', Same H1 H' → G H')
    (hs : ∀ i x H H', i < n → Same H1 H → (∃ ys, H D = some (.lst ys)) → Y i H x H' → ∀ (Q : V → Hp → Prop) (Z : Hp → Prop), (∀ y H4, Same H' H4 → R i y H4 → Q y H4) → g x (wipe σ vs) H' fun σ2 H2 => wipe σ2 vs = wipe σ vs ∧ tYes σ2 H2 fun b H3 => if b = true then te σ2 H3 Q else Z H3)
    (hd : ∀ H ys, Same H1 H → H D = some (.lst ys) → ys.length = n → (∀ (i : Nat) y, ys[i]? = some y → R i y H) → Qd H) :
    ∃ W : Nat → Nat → Hp → Prop, (∃ m, W 0 m (upd H1 D (.lst []))) ∧ ∀ i m H, W i m H →
      (J.stop i H ∧ Qd H) ∨ (J.go i H ∧ ∃ Nx : Hp → Prop, (∀ H', Nx H' → ∃ m', m' < m ∧ W (i + 1) m' H') ∧ ∀ x H', J.yld i H x H' → g x (wipe σ vs) H' fun σ2 H2 => wipe σ2 vs = wipe σ vs ∧ tYes σ2 H2 fun b H3 =>
        if b = true then te σ2 H3 fun y H4 => ∃ acc, H4 D = some (.lst acc) ∧ acc.length < sizeLine ∧ Nx (upd H4 D (.lst (acc ++ [y]))) else Nx H3) := by
  refine lc_it (tt := tYes) w (fun i H => Same H1 H ∧ ∃ ys : List V, ys.length = i ∧ H D = some (.lst ys) ∧ ∀ j y, ys[j]? = some y → R j y H) ⟨same_new hD, [], rfl, upd_same, fun (j : Nat) (y : V) e => by simp at e⟩ (fun i H _ h => hG H h.1) (fun i x H H' hi hP y => ?_) (fun H hP => ?_)
  · obtain ⟨sm, ys, el, hy, hR⟩ := hP
    have sy := hY _ _ _ _ y
    refine hs i x H H' hi sm ⟨ys, hy⟩ y _ _ (fun y H4 s4 r4 => ?_)
    have s5 := sy.trans s4
    have b5 : Bar D H4 (upd H4 D (.lst (ys ++ [y]))) := fun a o n e => by
      rw [upd_ne n]
      exact e
    refine ⟨ys, s5 _ _ hy, by rw [el]; exact small1000 (by omega), same_mut (sm.trans s5) hD, ys ++ [y], by rw [List.length_append, el]; rfl, upd_same, fun j z hz => ?_⟩
    by_cases lj : j < ys.length
    · rw [List.getElem?_append_left lj] at hz
      exact mono _ _ _ _ _ (mono _ _ _ _ _ (hR j z hz) hy fun a o _ e => s5 _ _ e) (s5 _ _ hy) b5
    · rw [List.getElem?_append_right (by omega)] at hz
      have e0 : j - ys.length = 0 := by
        by_cases q : j - ys.length = 0
        · exact q
        · rw [List.getElem?_eq_none (by rw [List.length_singleton]; omega)] at hz
          cases hz
      rw [e0] at hz
      have ez : y = z := by simpa using hz
      have ej : j = i := by omega
      subst ez ej
      exact mono _ _ _ _ _ r4 (s5 _ _ hy) b5
  · obtain ⟨sm, ys, el, hy, hR⟩ := hP
    exact hd H ys sm hy el hR
/-- the same, the items apart from one another -/
theorem lc_apart {J : It} {n : Nat} {G : Hp → Prop} {Y : Nat → Hp → V → Hp → Prop} (w : Walk J n G Y) {g : TG} {te : TE} {vs : List Nat} {σ : L2.St} {H1 : Hp} {D : Addr} {Qd : Hp → Prop} (R : Nat → V → Hp → Prop) (N : V → V → Prop)
    (mono : ∀ i y H H' ys, R i y H → H D = some (.lst ys) → Bar D H H' → R i y H') (hY : ∀ i H x H', Y i H x H' → Same H H') (hD : H1 D = none) (hn : n ≤ 1000) (hG : ∀ H', Same H1 H' → G H')
    (hs : ∀ i x H H', i < n → Same H1 H → (∃ ys, H D = some (.lst ys)) → Y i H x H' → ∀ ys : List V, (∀ (j : Nat) z, ys[j]? = some z → R j z H) → ∀ (Q : V → Hp → Prop) (Z : Hp → Prop), (∀ y H4, Same H' H4 → R i y H4 → (∀ z ∈ ys, N z y) → Q y H4) → g x (wipe σ vs) H' fun σ2 H2 => wipe σ2 vs = wipe σ vs ∧ tYes σ2 H2 fun b H3 => if b = true then te σ2 H3 Q else Z H3)
    (hd : ∀ H ys, Same H1 H → H D = some (.lst ys) → ys.length = n → (∀ (i : Nat) y, ys[i]? = some y → R i y H) → ys.Pairwise N → Qd H) :
    ∃ W : Nat → Nat → Hp → Prop, (∃ m, W 0 m (upd H1 D (.lst []))) ∧ ∀ i m H, W i m H →
      (J.stop i H ∧ Qd H) ∨ (J.go i H ∧ ∃ Nx : Hp → Prop, (∀ H', Nx H' → ∃ m', m' < m ∧ W (i + 1) m' H') ∧ ∀ x H', J.yld i H x H' → g x (wipe σ vs) H' fun σ2 H2 => wipe σ2 vs = wipe σ vs ∧ tYes σ2 H2 fun b H3 =>
        if b = true then te σ2 H3 fun y H4 => ∃ acc, H4 D = some (.lst acc) ∧ acc.length < sizeLine ∧ Nx (upd H4 D (.lst (acc ++ [y]))) else Nx H3) := by
  refine lc_it (tt := tYes) w (fun i H => Same H1 H ∧ ∃ ys : List V, ys.length = i ∧ H D = some (.lst ys) ∧ (∀ j y, ys[j]? = some y → R j y H) ∧ ys.Pairwise N) ⟨same_new hD, [], rfl, upd_same, (fun (j : Nat) (y : V) e => by simp at e), .nil⟩ (fun i H _ h => hG H h.1) (fun i x H H' hi hP y => ?_) (fun H hP => ?_)
  · obtain ⟨sm, ys, el, hy, hR, hN⟩ := hP
    have sy := hY _ _ _ _ y
    refine hs i x H H' hi sm ⟨ys, hy⟩ y ys hR _ _ (fun y H4 s4 r4 n4 => ?_)
    have s5 := sy.trans s4
    have b5 : Bar D H4 (upd H4 D (.lst (ys ++ [y]))) := fun a o n e => by
      rw [upd_ne n]
      exact e
    refine ⟨ys, s5 _ _ hy, by rw [el]; exact small1000 (by omega), same_mut (sm.trans s5) hD, ys ++ [y], by rw [List.length_append, el]; rfl, upd_same, fun j z hz => ?_, List.pairwise_append.mpr ⟨hN, List.pairwise_singleton _ _, fun a ma c mc => by rw [List.mem_singleton.mp mc]; exact n4 a ma⟩⟩
    by_cases lj : j < ys.length
    · rw [List.getElem?_append_left lj] at hz
      exact mono _ _ _ _ _ (mono _ _ _ _ _ (hR j z hz) hy fun a o _ e => s5 _ _ e) (s5 _ _ hy) b5
    · rw [List.getElem?_append_right (by omega)] at hz
      have e0 : j - ys.length = 0 := by
        by_cases q : j - ys.length = 0
        · exact q
        · rw [List.getElem?_eq_none (by rw [List.length_singleton]; omega)] at hz
          cases hz
      rw [e0] at hz
      have ez : y = z := by simpa using hz
      have ej : j = i := by omega
      subst ez ej
      exact mono _ _ _ _ _ r4 (s5 _ _ hy) b5
  · obtain ⟨sm, ys, el, hy, hR, hN⟩ := hP
    exact hd H ys sm hy el hR hN
theorem same_at {xs : List V} {i : Nat} {H H' : Hp} {x : V} (h : YAt xs i H x H') : Same H H' := by
  obtain ⟨rfl, _⟩ := h
  exact Same.refl _
theorem same_pair {f g : Nat → Option V} {i : Nat} {H H' : Hp} {x : V} (h : YPair f g i H x H') : Same H H' := by
  obtain ⟨T, a, b, rfl, hT, rfl, _⟩ := h
  exact same_new hT
end Lm
namespace Kx
open PySem L2
def rLst (K : PySem.W.Frag) : List V → Hp → VK → Prop := fun xs H Q => ∃ p ys, xs = [.ref p] ∧ (SqL K H p ys ∨ SqT K H p ys) ∧ ∀ l, H l = none → Q (.ref l) (upd H l (.lst ys))
end Kx

/-! try: .. except A as n: .. except B as m: .. (any number of clauses, each with its name). -/
namespace Ta
open PySem PySem.Spec PyProof.Rows L2
/-- one clause: the class that it names, the slot of its name, what its suite does -/
structure Hd where
  c : Value
  i : Nat
  ts : Addr → Value → Option Addr → TS
/-- behind a suite its name is gone -/
def Off (D : Ends) (i : Nat) : Ends where
  nx σ H := D.nx (σ.set i none) H
  rt := D.rt
  bk σ H := D.bk (σ.set i none) H
  ct σ H := D.ct (σ.set i none) H
/-- what the clauses ask of an exception that comes out of the body -/
def wish (K : PySem.W.Frag) (W : WX) (D : Ends) : List Hd → WX
  | [] => W
  | h :: r => fun cls d σ H => ∃ y, PySem.W.exmOne K cls h.c = some y ∧
      (y = true → ∀ a, H a = none → h.ts a cls d (Off D h.i) (σ.set h.i (some (.ref a))) H) ∧ (y = false → wish K W D r cls d σ H)
inductive Hds (X : Cx) : List ExceptHandler → List Hd → Prop
  | nil : Hds X [] []
  | cons {h : Hd} {x n : Str} {b₀ : Stmt} {rows : List Stmt} {p q : Pos} {hs : List ExceptHandler} {l : List Hd}
      (hi : X.N[h.i]? = some n) (hl : X.env.kindOf n = some .local) (hc : Names X x h.c)
      (hr : ∀ (a : Addr) (oe : Obj) (cls : Value) (d : Option Addr) (pn : List (Addr × Obj)), Zc cls d oe → (∃ vs, oe.data = .fields vs) →
        PSs (X.suite a ((a, oe) :: pn)) (b₀ :: rows) (h.ts a cls d))
      (t : Hds X hs l) : Hds X (.ExceptHandler (some (.Name x p)) (some n) (b₀ :: rows) q :: hs) (h :: l)
section
variable {X : Cx} {body : List Stmt} {hs : List ExceptHandler} {l : List Hd} {pos : Pos} {tb : WX → TS} {W : WX}
/-- how the body's own end is the whole one's -/
theorem calm_end {pins : List (Addr × Obj)} {D : Ends} {xe : Value → Shared → Prop} (ok : X.Ok) {f : Flow} {s : Shared} (h : SP (X.tr (X.pn ++ pins) xe) [] D f s) : SP X pins D f s := by
  cases f with
  | ret u =>
    obtain ⟨v, σ, H, J, r, q⟩ := h
    exact ⟨v, σ, H, J.ofTry ok, r, q⟩
  | next => obtain ⟨σ, H, J, q⟩ := h; exact ⟨σ, H, J.ofTry ok, q⟩
  | brk => obtain ⟨σ, H, J, q⟩ := h; exact ⟨σ, H, J.ofTry ok, q⟩
  | cont => obtain ⟨σ, H, J, q⟩ := h; exact ⟨σ, H, J.ofTry ok, q⟩
/-- an exception has landed at a: the clauses are asked one behind the other -/
theorem asked {pins : List (Addr × Obj)} {D : Ends} {a : Addr} {B h3 : Heap} {sI s' : Shared} {σ : L2.St} {H : Hp} {cls : Value} {d : Option Addr} (stk : X.stack = X.env :: X.outer) (fr : X.env.frame = some X.env.locals) (nd : X.N.Nodup) (tk : Takes X W)
    (J : Inv X pins σ H sI) (nb : ∀ b o, sI.heap.get? b = some o → b ∉ frs X.stack → B.get? b = some o) (up : sI.heap.UpToSlots s'.heap) (up3 : s'.heap.UpToSlots h3) (na : H a = none) (os : s'.os = sI.os) (ag : AllBare s'.gens)
    (fl : HandSPX.FlyingZ B (X.env :: X.outer) a (Zc cls d) h3) : ∀ {hs : List ExceptHandler} {l : List Hd}, Hds X hs l → wish X.K W D l cls d σ H →
    wpAny (model X.prog X.w) X.A (handleBy (.ref a) X.env hs) (SP X pins D) X.xe { s' with heap := h3 } := by
  have free : ∀ {g : Heap} {o : Obj} {vs : Array Value}, HandSPX.FlyingZ B (X.env :: X.outer) a (Zc cls d) g → g.get? a = some o → o.data = .fields vs → a ≠ X.env.locals ∧ a ∉ X.fs := by
    intro g o vs fg eo ed
    have out : a ∉ frs (X.env :: X.outer) := by
      intro m
      obtain ⟨_, o2, e2, no⟩ := fg.2.2.1.mem m
      cases eo.symm.trans e2
      exact no _ ed
    constructor
    · intro z
      exact out (List.mem_filterMap.mpr ⟨X.env, by simp, by rw [fr, z]⟩)
    · intro m
      obtain ⟨e, me, q⟩ := List.mem_filterMap.mp m
      exact out (List.mem_filterMap.mpr ⟨e, by simp [me], q⟩)
  intro hs l hk
  induction hk with
  | nil =>
    intro hW
    obtain ⟨_, _, _, oe, vs, _, _, _, eo, _, ed, e1, _⟩ := id fl
    refine wpAny_handleBy_nil ?_
    have out : wpAny (model X.prog X.w) X.A (setFlight (.ref a) X.env.frame) (fun _ t => wpAny (model X.prog X.w) X.A (throw (.ref a) : Sem Flow) (SP X pins D) X.xe t) X.xe { s' with heap := h3 } := by
      rw [fr]
      refine HandSPX.setFlight_upZ fl fun g hg ug => ?_
      have sky : Sky B X.stack a (Zc cls d) X.env.locals g := by
        rw [stk]
        exact .inr (.inr hg)
      exact wpAny_throw (tk _ _ ⟨a, B, sI, pins, σ, H, cls, d, rfl, J, nb, (up.trans up3).trans ug, sky, na, os, ag, hW⟩)
    unfold PySem.passOn
    refine wpAny_bind (wpAny_field eo ed e1 ?_)
    rw [if_neg (by simp)]
    first
      | exact wpAny_bind out
      | exact wpAny_bind (wpAny_pure (wpAny_bind out))
  | @cons h x n b₀ rows p q hs l hi hl hc hr t ih =>
    rintro ⟨y, ey, yes, no⟩
    obtain ⟨oe, vs, eo, ez, ed⟩ := fl.there
    obtain ⟨n1, n2⟩ := free fl eo ed
    have J3 := J.landed nb fl.1 (s' := { s' with heap := h3 }) (up.trans up3) os ag
    have S3 := J3.suite eo ed na n1 n2
    have kind : PySem.W.Looks (model X.prog X.w) h3 (typeOf (.ref a)) cls := by
      intro A Q E z k q
      refine wpAny_typeOf_ref (k _ _ eo) ?_
      rw [ez.1]
      exact q
    have one := PySem.W.exm_one (M := model X.prog X.w) J3.kIn kind ey
    refine wpAny_handleBy_cons (codeAny_handlers_test ?_) (by intro z; cases z)
    have name : ∀ {Q E : Value → Shared → Prop}, Q h.c { s' with heap := h3 } → wpAny (model X.prog X.w) (X.A.mark (some (.ref a))) (eval (.Name x p) X.env) Q E { s' with heap := h3 } := by
      intro Q E qq
      rcases hc with ⟨g1, g2, g3 | ⟨g3, g4, g5⟩⟩
      · exact ld_glob (X := X.suite a ((a, oe) :: (X.pn ++ pins))) S3 g1 g3 qq g2
      · exact ld_blt (X := X.suite a ((a, oe) :: (X.pn ++ pins))) S3 g1 g3 g4 qq g5 g2
    refine name (one.here ?_)
    cases y with
    | false => exact ih (no rfl)
    | true =>
      refine codeAny_handlers_suite_as ?_
      refine HandSPX.lands_againZ fl fun g fg ug => ?_
      obtain ⟨oe2, vs2, eo2, ez2, ed2⟩ := fg.there
      obtain ⟨m1, m2⟩ := free fg eo2 ed2
      have J4 := J.landed nb fg.1 (s' := { s' with heap := g }) ((up.trans up3).trans ug) os ag
      refine store_ok (X := X.suite a ((a, oe2) :: (X.pn ++ pins))) (v := .ref a) (J4.suite eo2 ed2 na m1 m2) nd hi (.inl hl) rfl (fun s5 S5 => ?_) (.inr hl)
      have body := (hr a oe2 cls d (X.pn ++ pins) ez2 ⟨_, ed2⟩).run [] s5 _ H _ S5 (yes rfl a na)
      refine wpAny_mono body (fun f s6 end6 => ?_) fun _ _ z => z.elim
      have ok := J.ok
      cases f with
      | ret u =>
        obtain ⟨v6, σ6, H6, S6, r6, q6⟩ := end6
        exact gone_ok (S6.unsuite ok) nd hi hl fun s7 J7 => ⟨_, _, _, J7, r6, q6⟩
      | next =>
        obtain ⟨σ6, H6, S6, q6⟩ := end6
        exact gone_ok (S6.unsuite ok) nd hi hl fun s7 J7 => ⟨_, _, J7, q6⟩
      | brk =>
        obtain ⟨σ6, H6, S6, q6⟩ := end6
        exact gone_ok (S6.unsuite ok) nd hi hl fun s7 J7 => ⟨_, _, J7, q6⟩
      | cont =>
        obtain ⟨σ6, H6, S6, q6⟩ := end6
        exact gone_ok (S6.unsuite ok) nd hi hl fun s7 J7 => ⟨_, _, J7, q6⟩
theorem ps_try_ass {h₀ : ExceptHandler} {h1 : Hd} (stk : X.stack = X.env :: X.outer) (fr : X.env.frame = some X.env.locals) (nd : X.N.Nodup) (tk : Takes X W)
    (hb : ∀ (U : WX) (pn : List (Addr × Obj)) (xe : Value → Shared → Prop), Takes (X.tr pn xe) U → PassesOwn (model X.prog X.w) X.A X.env xe → PSs (X.tr pn xe) body (tb U))
    (hh : Hds X (h₀ :: hs) (h1 :: l)) : PS X (.Try body (h₀ :: hs) [] [] pos) (fun D σ H => tb (wish X.K W D (h1 :: l)) D σ H) := by
  constructor
  intro pins s σ H D I go
  have ok := I.ok
  refine wpAny_Try_except ?_
  have run := (hb (wish X.K W D (h1 :: l)) (X.pn ++ pins) (fun e t1 => wpAny (model X.prog X.w) X.A (noteFrame e X.env) (fun _ t2 =>
    wpAny (model X.prog X.w) X.A (setFlight e none) (fun _ t3 => wpAny (model X.prog X.w) X.A (handleBy e X.env (h₀ :: hs)) (SP X pins D) X.xe t3) X.xe t2) X.xe t1) ?_ PassesOwn.looking).run [] s σ H D (I.toTry _) go
  · refine wpAny_mono run (fun f s1 e1 => ?_) fun _ _ z => z
    have e2 := calm_end ok e1
    cases f with
    | next => exact wpAny_execs_nil e2
    | ret u => exact e2
    | brk => exact e2
    | cont => exact e2
  · intro u s' xx
    obtain ⟨a, B, sI, pins2, σ', H', cls, d, rfl, J', nb, up, sky, na, os, ag, hw⟩ := xx
    have sky2 : Sky B (X.env :: X.outer) a (Zc cls d) X.env.locals s'.heap := by
      rw [← stk]
      exact sky
    show wpAny (model X.prog X.w) X.A (noteFrame (.ref a) X.env) _ _ _
    exact Sky.land Zc.steady (by rw [ok.frames, stk]) fr sky2 fun h3 fl up3 => asked stk fr nd tk (J'.ofTry ok) nb up up3 na os ag fl hh hw
end
end Ta

/-! isinstance of a caught error with a dict of its own; == over data without dicts; text * int. -/
namespace Xe
open PySem PySem.Spec PyProof.Rows L2
/-- isinstance(e, c), e the error of the class at C that the suite holds, with its own dict -/
def rIsD (K : PySem.W.Frag) (C a : Addr) (cls : Value) (d : Option Addr) : List V → Hp → VK → Prop := fun xs H Q => ∃ (c : V) (cv : Value) (b : Bool) (dd : Addr) (fs : List (Str × V)), xs = [.ref a, c] ∧ cls = .ref C ∧ d = some dd ∧ H dd = some (.xd fs) ∧ (∀ u, RelV c u → u = cv) ∧
  PySem.W.kitOne K (.ref C) cv = some b ∧ Q (.bl b) H
theorem call_isD {X : Cx} {a C : Addr} {oe : Obj} {cls : Value} {d : Option Addr} {pn : List (Addr × Obj)} (EC : ExcC X.K C) (hcl : (PySem.W.clsIn X.K C).isSome = true) (hz : Zc cls d oe) (hf : ∃ vs, oe.data = .fields vs) : CallR (X.suite a ((a, oe) :: pn)) (.builtin "isinstance") (rIsD X.K C a cls d) := by
  intro pins s σ H xs us Q I r h
  obtain ⟨c, cv, b, dd, fs, rfl, ec, ed, hH, hcv, e, q⟩ := h
  subst ec ed
  cases r with
  | cons rx rr =>
    cases rr with
    | cons rt rr =>
      cases rr
      cases rx
      have ec := hcv _ rt
      subst ec
      obtain ⟨hget, _⟩ := I.pin (a, oe) (List.mem_append.mpr (.inl List.mem_cons_self))
      obtain ⟨vs, hd⟩ := hf
      have hx : ObjOk X.prog X.w H s.heap dd (.xd fs) := I.hok dd _ hH
      obtain ⟨mA, hns, hr⟩ := hx
      obtain ⟨od, ho, hl⟩ := lookIn_ns hns
      have J : PySem.W.InstAt s.heap a oe C (some od) := ⟨hget, hz.1, by unfold PySem.W.notCls; rw [hd] <;> rfl, by rw [hz.2]; exact ho⟩
      exact PySem.W.kia_one (PySem.W.kitx_exc hcl EC.hg EC.hk EC.hs EC.ha EC.hn EC.ht EC.hm) I.kIn J e (fun z => nomatch z) fun tk => ⟨.bl b, H, I.kept (t' := tk) fun _ _ z => z, rfl, q⟩
section
variable {X : Cx}
/-- None != None, (True, t) != (True, t): both answers the same -/
def rNe2 (K : PySem.W.Frag) : R2 := fun x y H Q => (x = .non ∧ y = .non ∧ Q (.bl false) H) ∨ ∃ p q t, x = .ref p ∧ y = .ref q ∧ SqT K H p [.bl true, .str t] ∧ SqT K H q [.bl true, .str t] ∧ Q (.bl false) H
theorem op_ne2 (hu : X.A.units + 64 < cLine) : OpR X (compareOp .NotEq) (rNe2 X.K) := by
  intro pins s σ H x y v u Q I rx ry h
  rcases h with ⟨rfl, rfl, q⟩ | ⟨p, q, t, rfl, rfl, hp, hq, h⟩
  · cases rx
    cases ry
    exact (PySem.SeqAt.RcNeAt.none_none (A := X.A) (s := s)) X.prog X.w X.xe _ ⟨.bl false, H, I, rfl, q⟩
  · cases rx
    cases ry
    obtain ⟨its, r1, p1, _⟩ := I.tuple hp
    obtain ⟨its2, r2, p2, _⟩ := I.tuple hq
    cases r1 with
    | cons a1 b1 =>
    cases b1 with
    | cons a2 b2 =>
    cases b2
    cases r2 with
    | cons c1 d1 =>
    cases d1 with
    | cons c2 d2 =>
    cases d2
    cases a1
    cases c1
    obtain ⟨k1, rfl⟩ := a2
    obtain ⟨k2, rfl⟩ := c2
    have e := PySem.SeqAt.RcNeAt.tuples (A := X.A) (s := s) (e := fun _ => true) p1 p2 (by omega) (fun j h1 h2 => by
      have hj : j = 0 ∨ j = 1 := by
        have : j < 2 := h1
        omega
      rcases hj with rfl | rfl
      · have := PySem.SeqAt.EqAt.bool_bool (A := X.A.in1) (s := s) true true
        simpa using this
      · have := PySem.SeqAt.EqAt.str_str (A := X.A.in1) (s := s) t k1 t k2
        simpa using this)
    exact e X.prog X.w X.xe _ ⟨.bl false, H, I, rfl, h⟩
/-- == of data without dicts -/
def rEqP (K : PySem.W.Frag) : R2 := fun x y H Q => ∃ d e, Dp K H x d ∧ Dp K H y e ∧ d.plain = true ∧ e.plain = true ∧ d.depth ≤ 60 ∧ Q (.bl (PyData.eqv d e)) H
theorem op_eqP (hu : X.A.units + 64 < cLine) : OpR X (compareOp .Eq) (rEqP X.K) := by
  intro pins s σ H x y v u Q I rx ry h
  obtain ⟨d, e, hd, he, sd, se, hz, q⟩ := h
  obtain ⟨as, r1⟩ := Dp.reads I d x v hd rx
  obtain ⟨bs, r2⟩ := Dp.reads I e y u he ry
  exact PySem.SeqAt.rcAt_plain r1 r2 sd se (by have : min d.depth e.depth ≤ d.depth := Nat.min_le_left _ _; omega) X.prog X.w X.xe _ ⟨.bl _, H, I, rfl, q⟩
/-- a sign times a number -/
def rMul1 : R2 := fun x y H Q => ∃ (c n : Nat), x = .str ⟨#[c]⟩ ∧ y = .int (n : Nat) ∧ 1 ≤ n ∧ n ≤ 1000 ∧ Q (.str ⟨(List.replicate n c).toArray⟩) H
theorem rep_fold (c : Nat) : ∀ (n : Nat) (acc : Array Nat), ((List.replicate n #[c]).foldl (· ++ ·) acc).toList = acc.toList ++ List.replicate n c
  | 0, acc => by simp
  | n + 1, acc => by
    rw [List.replicate_succ, List.foldl_cons, rep_fold c n, Array.toList_append, List.replicate_succ, List.append_assoc]
    rfl
theorem mul_one (c n : Nat) (h : 1 ≤ n) : Txt.mul ⟨#[c]⟩ ((n : Nat) : Int) = ⟨(List.replicate n c).toArray⟩ := by
  unfold Txt.mul
  rw [if_neg (by omega)]
  refine TL.ext_tl ?_
  show ((if _ then (⟨#[c]⟩ : Str) else _) : Str).cps.toList = List.replicate n c
  by_cases z : n = 1
  · subst z
    rfl
  · rw [if_neg (by
      intro q
      rcases Bool.or_eq_true_iff.mp q with q | q
      · have := eq_of_beq q
        omega
      · cases q)]
    rw [Int.toNat_natCast]
    show ((List.replicate n #[c]).foldl (· ++ ·) #[]).toList = _
    rw [rep_fold]
    rfl
theorem op_mul1 : OpR X (binaryOp .Mult) rMul1 := by
  intro pins s σ H x y v u Q I rx ry h
  obtain ⟨c, n, rfl, rfl, h1, h2, q⟩ := h
  obtain ⟨t, rfl⟩ := rx
  obtain ⟨t', rfl⟩ := ry
  refine PySem.SB.mul (x := ⟨#[c]⟩) (n := ((n : Nat) : Int)) ⟨?_, fun _ _ => ?_, fun _ _ => ?_⟩ fun t2 k => ?_
  · rw [decide_eq_false (by omega), decide_eq_false (by omega)]
    rfl
  · show ¬ ((1 : Nat) : Int) > (2 ^ 63 - 1) / ((n : Nat) : Int)
    have : (1 : Int) ≤ (2 ^ 63 - 1) / ((n : Nat) : Int) := Int.le_ediv_of_mul_le (by omega) (by omega)
    omega
  · show PySem.Builtin.Str.tooLong (1 * ((n : Nat) : Int).toNat) = false
    rw [Int.toNat_natCast, Nat.one_mul]
    have h3 : (1000 : Nat) ≤ sizeLine := by decide
    exact decide_eq_false (by omega)
  · rw [mul_one c n h1]
    exact ⟨.str _, H, I.tok _, ⟨_, rfl⟩, q⟩
end
end Xe

/-! repr of data, and defs that are called where no repr is under way. -/
namespace Rp
open PySem PySem.Spec PyProof.Rows L2
section
variable {X : Cx}
def rRepr (K : PySem.W.Frag) : List V → Hp → VK → Prop := fun xs H Q => ∃ x d, xs = [x] ∧ Dp K H x d ∧ d.showable = true ∧ d.hasDict = false ∧ d.depth ≤ 60 ∧ d.shown.length ≤ sizeLine ∧ Q (.str d.shown) H
theorem call_reprD (hg : X.A.guards = some []) (hu : X.A.units + 64 < cLine) : CallR X (.builtin "repr") (rRepr X.K) := by
  intro pins s σ H xs us Q I r h
  obtain ⟨x, d, rfl, hd, hs, hn, hz, hl, q⟩ := h
  cases r with
  | cons rx rn =>
    cases rn
    obtain ⟨as, rd⟩ := Dp.reads I d x _ hd rx
    cases rd with
    | none => exact PySem.P.repr_of_none ⟨.str _, H, I.tok _, ⟨_, rfl⟩, q⟩
    | bool b => exact PySem.P.repr_of_bool ⟨.str _, H, I.tok _, ⟨_, rfl⟩, q⟩
    | int i t => exact PySem.P.repr_of_int (of_decide_eq_true hs) ⟨.str _, H, I.tok _, ⟨_, rfl⟩, q⟩
    | str z t => exact PySem.P.repr_of_str (hsz := hl) ⟨.str _, H, I.tok _, ⟨_, rfl⟩, q⟩
    | list h1 h2 h3 h4 =>
      exact PySem.repr_of_reads' (.list h1 h2 h3 h4) hs (fun e => by rw [hn] at e; cases e) hg (by omega) (fun _ _ e => e) (fun g u tk k => ⟨.str _, H, I.kept (t' := tk) k, ⟨_, rfl⟩, q⟩) hl
    | tuple h1 h2 h3 h4 =>
      exact PySem.repr_of_reads' (.tuple h1 h2 h3 h4) hs (fun e => by rw [hn] at e; cases e) hg (by omega) (fun _ _ e => e) (fun g u tk k => ⟨.str _, H, I.kept (t' := tk) k, ⟨_, rfl⟩, q⟩) hl
    | dict => cases hd
end
/-- as FnOk, where no repr is under way -/
structure GOk (P : Program) (w : World) (K : PySem.W.Frag) (mg : Str → Option Value) (base : Heap) (CX : CXT) (k : Nat) (f : Addr) (fd : FuncData) (ps : List Str) (sp : Sp) : Prop where
  len : ∀ vs H Q E, sp vs H Q E → vs.length = ps.length
  run : ∀ (A : Around) (outer : List Env) (s : Shared) (H : Hp) (args : Args) (us : List Value) (vs : List V) (Q : VK) (E : XK), Room k A → A.guards = some [] → Env0 P w K mg base A outer s H → BindsTo s fd args (ps.zip us) → Vals vs us → sp vs H Q E →
    codeAny (model P w) A (.call (.ref f) args) (CR CX outer P w H s Q E) s
section
variable {CX : CXT} {P : Program} {w : World} {K : PySem.W.Frag} {mg : Str → Option Value} {base : Heap} {k : Nat} {f : Addr} {fd : FuncData} {ps : List Str} {sp : Sp}
theorem GOk.of (F : FnOk P w K mg base CX k f fd ps sp) : GOk P w K mg base CX k f fd ps sp := ⟨F.len, fun A outer s H args us vs Q E hr _ => F.run A outer s H args us vs Q E hr⟩
theorem GOk.mono {j : Nat} (F : GOk P w K mg base CX j f fd ps sp) (h : j ≤ k) : GOk P w K mg base CX k f fd ps sp := ⟨F.len, fun A outer s H args us vs Q E hr => F.run A outer s H args us vs Q E (hr.mono h)⟩
theorem gfn_of {name qual : Str} {params : Arguments} {body : List Stmt} {scope : Scope} {dV kV doc pm cdv ct oc : Value} {an od : Option Addr} {osl : Array (Option Value)} {N : List Str}
    (lk : K.lookup f = some ⟨oc, od, .func (PySem.W.fnOf name qual params body scope dV kV doc pm an cdv ct), osl⟩) (hcd : PySem.W.codeIn K cdv qual = true) (S : FnScope N ps scope)
    (len : ∀ vs H Q E, sp vs H Q E → vs.length = ps.length)
    (hbody : ∀ (A : Around) (outer : List Env) (s : Shared) (H : Hp) (vs : List V) (Q : VK) (E : XK), A.guards = some [] → Room k (A.deeper (envOfC qual scope s.heap.objs.size f cdv)) → sp vs H Q E →
      ∃ t, PSs (cxOf CX P w K mg base N qual scope f cdv A outer s H E) body t ∧ t { nx := fun _ H' => Q .non H', rt := Q } (start N vs) H) :
    GOk P w K mg base CX (k + 1) f (PySem.W.fnOf name qual params body scope dV kV doc pm an cdv ct) ps sp := by
  refine ⟨len, fun A outer s H args us vs Q E hr hg e0 hb r hsp => ?_⟩
  have nl := len _ _ _ _ hsp
  have old : ∀ b o, base.get? b = some o → s.heap.get? b = some o := fun b o e => (e0.bs b o e).1
  have KX : K.In s.heap := e0.mod.kin.keeps old
  have lim : s.heap.NoLimit := e0.mod.nolimit.keeps old
  have kinds : ∀ y ∈ ps.zip us, scope.names.lookup y.1 = some .local ∨ (scope.names.lookup y.1 = some .cell ∧ ((cellsFrom (s.heap.objs.size + 1) scope.names []).lookup y.1).isSome = true) := fun ⟨n, v⟩ hy =>
    (S.par n (List.of_mem_zip hy).1).imp id fun q => ⟨q, PySem.W.cellsFrom_some _ _ _ (.inl q)⟩
  refine codeAny_call_function hr.depth (KX _ _ lk) rfl S.co S.gen rfl (PySem.W.codeRec_of KX hcd) (hb _ _ _ _ ?_)
  refine wpAny_newFunctionEnv_cells S.kind kinds fun env ee s1 x => ?_
  subst ee
  refine ⟨lim.keeps x.toInCall.keep, codeAny_func ?_⟩
  obtain ⟨t, ht, hq⟩ := hbody A outer s H vs Q E hg (hr.deeper _) hsp
  have I0 : Inv (cxOf CX P w K mg base N qual scope f cdv A outer s H E) [] (start N vs) H s1 := inv_start S hr.hd e0 nl r x
  refine wpAny_mono (ht.run [] s1 (start N vs) H _ I0 hq) (fun fl s' hs => ?_) fun e s' hs => hs
  cases fl with
  | ret u =>
    obtain ⟨v, σ', H', J, rv, q⟩ := hs
    exact ⟨v, H', J.os, J.bare, J.base, J.hok, rv, q⟩
  | next =>
    obtain ⟨σ', H', J, q⟩ := hs
    exact ⟨V.non, H', J.os, J.bare, J.base, J.hok, rfl, q⟩
  | brk =>
    obtain ⟨_, _, _, q⟩ := hs
    exact q.elim
  | cont =>
    obtain ⟨_, _, _, q⟩ := hs
    exact q.elim
theorem gok {x qual : Str} {st : Stmt} {N : List Str} (F : Fun K x qual st f fd) (S : FnScope N ps (defScope st)) (len : ∀ vs H Q E, sp vs H Q E → vs.length = ps.length)
    (hbody : ∀ (cdv : Value) (A : Around) (outer : List Env) (s : Shared) (H : Hp) (vs : List V) (Q : VK) (E : XK), A.guards = some [] → Room k (A.deeper (envOfC qual (defScope st) s.heap.objs.size f cdv)) → sp vs H Q E →
      ∃ t, PSs (cxOf CX0 P w K mg base N qual (defScope st) f cdv A outer s H E).nox (defBody st) t ∧ t { nx := fun _ H' => Q .non H', rt := Q } (start N vs) H) : GOk P w K mg base CX0 (k + 1) f fd ps sp := by
  obtain ⟨oc, od, kV, doc, pm, an, cdv, ct, osl, rfl, lk, hcd⟩ := F.ex
  refine gfn_of lk hcd S len fun A outer s H vs Q E hg hr hsp => ?_
  obtain ⟨t, h, q⟩ := hbody cdv A outer s H vs Q E hg hr hsp
  exact ⟨t, h.nox, q⟩
end
section
variable {X : Cx} {CX : CXT} {k : Nat} {f : Addr} {fd : FuncData} {ps : List Str} {sp : Sp} {E : XK} {ds : List Value} {dvs : List V} {x : Str} {e : Expr} {es : List Expr} {t : TA} {p pos : Pos}
theorem pe_gcall (F : GOk X.prog X.w X.K X.mg X.base CX k f fd ps sp) (gd : X.A.guards = some []) (hr : Room k X.A) (hg : Gl X x) (hm : X.mg x = some (.ref f)) (hk : PySem.W.keepIn X.K (.ref f) = true) (hb : Binds X.K fd ps ds) (hd : Vals dvs ds) (hx : Passes CX X E)
    (ha : PA X (e :: es) t) (hdb : (x == ("__debug__" : Str)) = false := by decide) (he : starEach (e :: es) X.env = (false, eval e X.env) :: starEach es X.env := by rfl) (hpl : (backTo pos (starEach es X.env)).any (·.1) = false := by rfl) :
    PE X (.Call (.Name x p) (e :: es) [] pos) (tCall sp dvs E t) := by
  refine ⟨fun pins s σ H Q I h => ?_⟩
  refine wpAny_Call_Name_kw (ld_glob I hg hm ?_ hdb)
  refine PySem.W.callWith_K (h₀ := X.base) I.ok.mod.kin hk (thn (ha.run pos pins s σ H _ I h) fun us s1 ⟨vs, H1, I1, r, q⟩ => ⟨I1.kIn, ?_⟩) he hpl
  have r2 : Vals (vs ++ dvs) (us ++ ds) := r.append hd
  have nl : (us ++ ds).length = ps.length := r2.length.symm.trans (F.len _ _ _ _ q)
  refine wpAny_call (codeAny_mono (F.run X.A X.stack s1 H1 ⟨us, []⟩ (us ++ ds) (vs ++ dvs) Q E hr gd I1.env0 (hb s1 us I1.kIn nl) r2 q) fun res s' hq => ?_)
  cases res with
  | error z => exact hx pins σ H1 s1 z s' I1 hq
  | ok fl =>
    cases fl with
    | ret u => exact I1.after hq
    | next => exact hq.elim
    | brk => exact hq.elim
    | cont => exact hq.elim
end
end Rp

/-! The law's own call, of a def that is called where no repr is under way. -/
namespace Rp
open PySem PySem.Spec PyProof.Rows L2
theorem law_gcall {P : Program} {w : World} {K : PySem.W.Frag} {mg mb : Str → Option Value} {CX : CXT} {k : Nat} {fa a : Addr} {fd : FuncData} {x : Str} {sp : Sp} {s1 : Shared} {vs : List Value} {ns : List Int}
    (KX : K.In s1.heap) (hns : s1.heap.Ns mainGlobals mg) (hb : s1.heap.Ns builtinsNs mb) (hbb : ∀ y : Str, y ≠ "__name__" → mb y = bootBuiltins y) (lim : s1.heap.NoLimit) (gens : s1.gens = #[])
    (ha : s1.heap.get? a = some { cls := .type "list", data := .seq vs.toArray }) (hi : IntsAre vs ns) (hl : ns.length ≤ sizeLine) (hr : Room k callerA)
    (F : ∀ base : Heap, K.In base → base.Ns mainGlobals mg → GOk P w K mg base CX k fa fd [x] sp) (hbind : ∀ (s : Shared) (u : Value), BindsTo s fd ⟨[u], []⟩ [(x, u)])
    (hsp : ∀ H : Hp, Only H → SqL K H a (ns.map V.int) → sp [.ref a] H (fun v _ => v = .bl true) fun _ _ _ => False)
    (hCX : ∀ H e t, CX [] H s1 (fun _ _ _ => False) e t → False) :
    codeAny (model P w) callerA (.call (.ref fa) ⟨[.ref a], []⟩) (fun r t => r = .ok (.ret (.bool true)) ∧ OldK s1.heap t.heap ∧ t.os = s1.os ∧ AllBare t.gens) s1 := by
  have rv := vals_ints hi
  have nv := hi.length
  have go : ∀ H : Hp, Only H → SqL K H a (ns.map V.int) → HOk P w H s1.heap → (∀ b, H b ≠ none → b = a) → (H a ≠ none → K.lookup a = none) →
      codeAny (model P w) callerA (.call (.ref fa) ⟨[.ref a], []⟩) (fun r t => r = .ok (.ret (.bool true)) ∧ OldK s1.heap t.heap ∧ t.os = s1.os ∧ AllBare t.gens) s1 := by
    intro H hO hS hok only_a noK
    have hid : ∀ {b : Addr} {o : Obj}, s1.heap.get? b = some o → H b = none → (hidT s1.heap H).get? b = some o := fun e n => hidT_get e n
    have dictFree : ∀ {b : Addr} {o : Obj} {es : Array DictEntry} {ep : Nat}, s1.heap.get? b = some o → o.data = .dict es ep → H b = none := fun {b o es ep} e d => by
      cases q : H b with
      | none => rfl
      | some u =>
        have eb : b = a := only_a b (by rw [q]; simp)
        subst eb
        rw [ha] at e
        cases e
        have d2 : Data.seq vs.toArray _ = Data.dict es ep := d
        cases d2
    have nsOf : ∀ {b : Addr} {m : Str → Option Value}, s1.heap.Ns b m → (hidT s1.heap H).Ns b m := fun {b m} ⟨o, es, ep, e, d, r⟩ => ⟨o, es, ep, hid e (dictFree e d), d, r⟩
    have inB : K.In (hidT s1.heap H) := fun b o e => hid (KX b o e) (by
      cases q : H b with
      | none => rfl
      | some u =>
        have eb : b = a := only_a b (by rw [q]; simp)
        subst eb
        rw [noK (by rw [q]; simp)] at e
        cases e)
    have md : Mod K mg (hidT s1.heap H) := ⟨inB, nsOf hns, ⟨mb, nsOf hb, hbb⟩, let ⟨mc, c1, c2⟩ := lim; ⟨mc, nsOf c1, c2⟩⟩
    have e0 : Env0 P w K mg (hidT s1.heap H) callerA [] s1 H := ⟨rfl, md, fun b o e => of_hidT e, Nat.le_of_eq (hidT_size _ _), trivial, fun b hb => absurd (show b ∈ ([] : List Addr) from hb) (by simp), hok, .of_eq gens⟩
    refine codeAny_mono ((F _ inB (nsOf hns)).run callerA [] s1 H ⟨[.ref a], []⟩ [.ref a] [.ref a] _ _ hr rfl e0 (hbind s1 (.ref a)) (.cons rfl .nil) (hsp H hO hS)) fun r t h => ?_
    cases r with
    | error e => exact (hCX H e t h).elim
    | ok fl =>
      cases fl with
      | next => exact h.elim
      | brk => exact h.elim
      | cont => exact h.elim
      | ret u =>
        obtain ⟨v, H', os, bare, un, hok', r', q⟩ := h
        have q' : v = .bl true := q
        subst q'
        obtain rfl : u = Value.bool true := r'
        refine ⟨rfl, OldK.of_keep fun b o e => ?_, os, bare⟩
        cases q : H b with
        | none => exact un.keep b o e q (by intro z; exact absurd (show b ∈ ([] : List Addr) from z) (by simp)) (by simp)
        | some u =>
          rcases hO b with z | ⟨ob, xs, z⟩
          · rw [q] at z
            cases z
          · have z2 := un.frzs b ob _ z
            obtain ⟨e1, _⟩ := hok b _ z
            obtain ⟨e2, _⟩ := hok' b _ z2
            rw [e] at e1
            cases e1
            exact e2
  cases hk : K.lookup a with
  | some o =>
    have e := KX a o hk
    rw [ha] at e
    cases e
    refine go (fun _ => none) (fun _ => .inl rfl) (.inr ⟨_, vs.toArray, _, hk, rfl, rfl, rfl, by rw [List.size_toArray, nv]; exact hl, by simpa using rv⟩) (fun b u z => by have z' : (none : Option HO) = some u := z; cases z') (fun b z => absurd rfl z) fun z => absurd rfl z
  | none =>
    refine go (fun b => if b = a then some (.frz { cls := .type "list", data := .seq vs.toArray } (.lst (ns.map V.int))) else none) (fun b => ?_) (.inl (.inr ⟨{ cls := .type "list", data := .seq vs.toArray }, if_pos rfl⟩)) (fun b u z => ?_) (fun b z => ?_) fun _ => hk
    · by_cases c : b = a
      · exact .inr ⟨_, _, if_pos c⟩
      · exact .inl (if_neg c)
    · by_cases c : b = a
      · have z' := (if_pos c).symm.trans z
        cases z'
        subst c
        exact ⟨ha, by rw [List.length_map]; exact hl, vs, _, rv, ha⟩
      · have z' := (if_neg c).symm.trans z
        cases z'
    · by_cases c : b = a
      · exact c
      · exact absurd (if_neg c) z
theorem walk_gof {l : PySem.W.OpenLaw} {n k : Nat} {q : Program} {loose : List Str} {XP : (Str → Option Value) → Heap → Prop} {YP : World → Heap → Prop} {d : DefRec} {K : Params → PySem.W.Frag} {CX : World → CXT} {sp : World → Sp} {x : Str}
    (hn : l.most = some n) (hn2 : n ≤ sizeLine) (hdf : d.params.defaults = []) (hr : Room k callerA)
    (hY : ∀ (w : World) (h : Heap), YP w h → (K w.params).In h)
    (F : ∀ (w : World) (mg : Str → Option Value) (fa : Addr) (h : Heap), (K w.params).In h → h.Ns mainGlobals mg → mg d.name = some (.ref fa) →
      ∃ fd : FuncData, (∀ (s : Shared) (u : Value), BindsTo s fd ⟨[u], []⟩ [(x, u)]) ∧
        ∀ base : Heap, (K w.params).In base → base.Ns mainGlobals mg → GOk l.prog w (K w.params) mg base (CX w) k fa fd [x] (sp w))
    (hsp : ∀ (w : World) (H : Hp) (a : Addr) (ns : List Int), ns.length ≤ n → Only H → SqL (K w.params) H a (ns.map V.int) → sp w [.ref a] H (fun v _ => v = .bl true) fun _ _ _ => False)
    (hCX : ∀ (w : World) (H : Hp) (s : Shared) (e : Value) (t : Shared), CX w [] H s (fun _ _ _ => False) e t → False) :
    PySem.W.WalkO q loose XP YP l.row.toRowW d [] (fun f vs => PySem.call f vs) := by
  refine Att.attach_call hn hdf fun w s0 s1 mg mb fa o pm cd doc a vs ns G Y ho hd hcd hmg hobj hints hlen hg => ?_
  have KX := hY w _ Y
  obtain ⟨fd, hb, hF⟩ := F w mg fa _ KX G.T.g hmg
  exact law_gcall KX G.T.g G.T.b G.T.builtins G.T.nolimit hg hobj hints (Nat.le_trans hlen hn2) hr hF hb (fun H hO hS => hsp w H a ns hlen hO hS) fun H e t => hCX w H s1 e t
end Rp

/-! (a, t, True) != (a, t, True), whatever the texts. -/
namespace Ne3
open PySem PySem.Spec PyProof.Rows L2
def rNe3 (K : PySem.W.Frag) : R2 := fun x y H Q => ∃ p q a t, x = .ref p ∧ y = .ref q ∧ SqT K H p [.str a, .str t, .bl true] ∧ SqT K H q [.str a, .str t, .bl true] ∧ Q (.bl false) H
theorem op_ne3 {X : Cx} (hu : X.A.units + 64 < cLine) : OpR X (compareOp .NotEq) (rNe3 X.K) := by
  intro pins s σ H x y v u Q I rx ry h
  obtain ⟨p, q, a, t, rfl, rfl, hp, hq, h⟩ := h
  cases rx
  cases ry
  obtain ⟨its, r1, p1, _⟩ := I.tuple hp
  obtain ⟨its2, r2, p2, _⟩ := I.tuple hq
  rcases r1 with _ | ⟨a1, r1⟩
  rcases r1 with _ | ⟨a2, r1⟩
  rcases r1 with _ | ⟨a3, r1⟩
  cases r1
  rcases r2 with _ | ⟨b1, r2⟩
  rcases r2 with _ | ⟨b2, r2⟩
  rcases r2 with _ | ⟨b3, r2⟩
  cases r2
  obtain ⟨k1, rfl⟩ := a1
  obtain ⟨k2, rfl⟩ := a2
  obtain ⟨m1, rfl⟩ := b1
  obtain ⟨m2, rfl⟩ := b2
  cases a3
  cases b3
  have e := PySem.SeqAt.RcNeAt.tuples (A := X.A) (s := s) (e := fun _ => true) p1 p2 (by omega) (fun j h1 h2 => by
    have c : j = 0 ∨ j = 1 ∨ j = 2 := by
      have : j < 3 := h1
      omega
    rcases c with rfl | rfl | rfl
    · have := PySem.SeqAt.EqAt.str_str (A := X.A.in1) (s := s) a k1 a m1
      simpa using this
    · have := PySem.SeqAt.EqAt.str_str (A := X.A.in1) (s := s) t k2 t m2
      simpa using this
    · have := PySem.SeqAt.EqAt.bool_bool (A := X.A.in1) (s := s) true true
      simpa using this)
  exact e X.prog X.w X.xe _ ⟨.bl false, H, I, rfl, h⟩
end Ne3

/-! A method with keywords alone; a def that may raise, where it does not. -/
namespace Mk1
open PySem PySem.Spec PyProof.Rows L2
theorem passF {X : Cx} : Passes (L2.CX X.prog X.w) X (fun _ _ _ => False) := by
  intro pins σ H s e s' I h
  obtain ⟨_, _, _, _, _, _, _, _, _, _, _, _, z⟩ := h
  exact z.elim
section
variable {X : Cx} {CX : CXT} {k : Nat} {f C : Addr} {fd : FuncData} {ps ks : List Str} {sp : Sp} {E : XK} {m : Str} {pos apos : Pos} {o : Expr} {kws : List Keyword} {ta : TE} {tk : TA} {g : List Value → List Value → List Value} {gV : List V → List V → List V} {pl : Sem Bool}
def tMethN (C : Addr) (m : Str) (n : Nat) (sp : Sp) (gV : List V → List V → List V) (E : XK) (ta : TE) (tk : TA) : TE := fun σ H Q => ta σ H fun x H1 => ∃ a dx fs, x = .ref a ∧ H1 a = some (.ins C dx fs) ∧ fs.lookup m = none ∧
  tk σ H1 fun zs H2 => zs.length = n ∧ sp (gV [x] zs) H2 Q E
theorem pe_methN (ho : PE X o ta) (c : Cls X.K C) (hm : Meth X.K C m f) (F : FnOk X.prog X.w X.K X.mg X.base CX k f fd ps sp) (hr : Room k X.A) (hb : KBn X.K fd ps 1 ks g gV) (hx : Passes CX X E) (hk : PK X kws tk)
    (h1 : (backToKw pos (keywordEach kws X.env)).all (·.1.isSome) = true := by rfl) (h2 : (backToKw pos (keywordEach kws X.env)).filterMap (·.1) = ks := by rfl)
    (h3 : ((backTo pos (starEach [] X.env)).any (·.1) || (backToKw pos (keywordEach kws X.env)).any (·.1.isNone)) = false := by rfl)
    (h4 : eval (.Call (.Attribute o m apos) [] kws pos) X.env = (do
      let v ← eval o X.env
      standAt apos.atName
      let (a, b) ← holding [v] (getMethod v m pl)
      callWith pos a b (backTo pos (starEach [] X.env)) (backToKw pos (keywordEach kws X.env))) := by rfl) :
    PE X (.Call (.Attribute o m apos) [] kws pos) (tMethN C m ks.length sp gV E ta tk) := by
  constructor
  intro pins s σ H Q I h
  refine PySem.W.methodCall_KW (pl := pl) (thn (ho.run pins s σ H _ I h) fun u s1 w => ?_) h4
  obtain ⟨x, H1, I1, rx, a, dx, fs, ex, ea, l, q⟩ := w
  subst ex
  cases (show u = Value.ref a from rx)
  refine getmeth_ok I1 ea c hm l ?_
  refine PySem.W.callWith_KW0 (first := [.ref a]) (h₀ := X.base) I.ok.mod.kin hm.kp h1 (thn (hk.run pos pins s1 σ H1 _ I1 q) fun ws s2 w2 => ?_) h3
  obtain ⟨zs, H2, I2, rz, l2, q2⟩ := w2
  refine ⟨I2.kIn, ?_⟩
  rw [h2]
  exact run_fnN (us := [.ref a]) (vs := [.ref a]) F hr hb hx I2 (.cons rfl .nil) rz rfl l2 q2
end
end Mk1

/-! x != y of two instances of an own class with an own __eq__ and no __ne__. -/
namespace On
open PySem PySem.Spec PyProof.Rows L2
structure NeOk (K : PySem.W.Frag) (C f : Addr) : Prop where
  ex : ∃ (nm q : Str) (N : Addr) (bs : List Value) (hd : Bool) (sn : List Str) (sub : List Value) (ab : Bool) (col : Option Bool) (dd : Option Addr) (k0 k1 k2 k3 k5 : Option Value),
    K.lookup C = some (excClassObj nm q C N bs [.type "object"] hd sn sub ab col dd k0 k1 k2 k3 k5 "object.__new__") ∧ PySem.W.nsOkIn K N = true ∧ PySem.W.nsIn K N "__eq__" = some (some (.ref f)) ∧ PySem.W.nsIn K N "__ne__" = some none
  fn : PySem.W.isFn K (.ref f) = true
theorem ns_some {K : PySem.W.Frag} {h : Heap} {N : Addr} {mg : Str → Option Value} {n : Str} {v : Value} (X : K.In h) (G : h.Ns N mg) (e : PySem.W.nsIn K N n = some (some v)) : mg n = some v := by
  obtain ⟨o, es, ep, ho, hd, _, hf⟩ := G
  unfold PySem.W.nsIn at e
  split at e
  · rename_i c d es' n' sl q
    have z := X _ _ q
    rw [ho] at z
    cases z
    cases hd
    split at e
    · rename_i y hy
      rw [← hf]
      unfold nsFind findBy
      rw [← Array.find?_toList, hy]
      exact Option.some.inj e
    · rename_i hy
      split at e <;> cases e
  · cases e
section
variable {X : Cx} {CX : CXT} {C g : Addr} {n : Nat} {sp : Sp} {E : XK}
def rNe (C : Addr) (sp : Sp) (E : XK) : R2 := fun x y H Q => ∃ a dx fs b dy gs, x = .ref a ∧ y = .ref b ∧ H a = some (.ins C dx fs) ∧ H b = some (.ins C dy gs) ∧ sp [x, y] H (fun z H' => ∃ c, z = .bl c ∧ Q (.bl (!c)) H') E
theorem op_ne (W : NeOk X.K C g) (F : FnR X.prog X.w X.K X.mg X.base CX n g sp) (hr : Room (n + 1) X.A) (hu : X.A.units + 64 < cLine) (hx : Passes CX X E) : OpR X (compareOp .NotEq) (rNe C sp E) := by
  intro pins s σ H x y v u Q I rx ry h
  obtain ⟨a, dx, fs, b, dy, gs, rfl, rfl, ha, hb, q⟩ := h
  cases (show v = Value.ref a from rx)
  cases (show u = Value.ref b from ry)
  obtain ⟨ox, od, J⟩ := Ow.ins_at I ha
  obtain ⟨oy, oe, J'⟩ := Ow.ins_at I hb
  obtain ⟨nm, qn, N, bs, hd, sn, sub, ab, col, dd, k0, k1, k2, k3, k5, lC, ok, e1, e2⟩ := W.ex
  have KX := I.kIn
  have G : s.heap.Ns N (s.heap.nsMap N) := .of_isNs (PySem.W.isNs_of_in KX ok)
  have m1 := ns_some KX G e1
  have m2 := PySem.W.ns_none_of KX G e2
  obtain ⟨of, hf, hc⟩ : ∃ of, X.K.lookup g = some of ∧ of.cls = .type "function" := by
    have z := W.fn
    unfold PySem.W.isFn PySem.W.typeIn at z
    have z := beq_iff_eq.mp z
    obtain ⟨of, h1, h2⟩ := Option.map_eq_some_iff.mp z
    exact ⟨of, h1, h2⟩
  have Y : s.heap.OwnEqNoNe a C g "object" [.type "object"] := ⟨ox, of, nm, qn, N, bs, hd, sn, sub, ab, col, dd, k0, k1, k2, k3, k5, "object.__new__", s.heap.nsMap N, _, J.at_, J.cls, KX _ _ lC, G, m1, KX _ _ hf, hc, PySem.F.mro_object, rfl, m2⟩
  obtain ⟨hh, gn, dr, tk, os⟩ := s
  refine compareOp_ne_ownEq PySem.F.cmp_object Y J'.at_ J'.cls (by omega) (wpAny_mono (wpAny_call (SlX.run_at (us := [.ref a, .ref b]) (ws := [.ref a, .ref b]) F hr.in1 I.env0.in1 hx I (.cons rfl (.cons rfl .nil)) q)) (fun w s' z => ?_) fun _ _ z => z)
  obtain ⟨z', H', I', rz, c, rfl, qz⟩ := z
  cases (show w = Value.bool c from rz)
  exact ⟨c, rfl, .bl (!c), H', I', rfl, qz⟩
end
end On

/-! (a, t) != (a, t), whatever the texts. -/
namespace Ne2
open PySem PySem.Spec PyProof.Rows L2
def rNe2 (K : PySem.W.Frag) : R2 := fun x y H Q => ∃ p q a t, x = .ref p ∧ y = .ref q ∧ SqT K H p [.str a, .str t] ∧ SqT K H q [.str a, .str t] ∧ Q (.bl false) H
theorem op_ne2 {X : Cx} (hu : X.A.units + 64 < cLine) : OpR X (compareOp .NotEq) (rNe2 X.K) := by
  intro pins s σ H x y v u Q I rx ry h
  obtain ⟨p, q, a, t, rfl, rfl, hp, hq, h⟩ := h
  cases rx
  cases ry
  obtain ⟨its, r1, p1, _⟩ := I.tuple hp
  obtain ⟨its2, r2, p2, _⟩ := I.tuple hq
  rcases r1 with _ | ⟨a1, r1⟩
  rcases r1 with _ | ⟨a2, r1⟩
  cases r1
  rcases r2 with _ | ⟨b1, r2⟩
  rcases r2 with _ | ⟨b2, r2⟩
  cases r2
  obtain ⟨k1, rfl⟩ := a1
  obtain ⟨k2, rfl⟩ := a2
  obtain ⟨m1, rfl⟩ := b1
  obtain ⟨m2, rfl⟩ := b2
  have e := PySem.SeqAt.RcNeAt.tuples (A := X.A) (s := s) (e := fun _ => true) p1 p2 (by omega) (fun j h1 h2 => by
    have c : j = 0 ∨ j = 1 := by
      have : j < 2 := h1
      omega
    rcases c with rfl | rfl
    · have := PySem.SeqAt.EqAt.str_str (A := X.A.in1) (s := s) a k1 a m1
      simpa using this
    · have := PySem.SeqAt.EqAt.str_str (A := X.A.in1) (s := s) t k2 t m2
      simpa using this)
  exact e X.prog X.w X.xe _ ⟨.bl false, H, I, rfl, h⟩
end Ne2

/-! Things as data: what may be asked whether it is a number. -/
namespace Wm
open PySem L2 TL
structure Tx (t : Str) : Prop where
  len : t.length ≤ 100
  asc : ∀ c ∈ tl t, c < 128
inductive Tg : PyData → Prop
  | int {i : Int} : i.natAbs < 1000000 → Tg (.int i)
  | bl (b : Bool) : Tg (.bool b)
  | non : Tg .none
  | str {t : Str} : Tx t → Tg (.str t)
  | lst {ts : List Str} : (∀ t ∈ ts, Tx t) → ts.length ≤ 100 → Tg (.list (ts.map .str))
  | tup {ts : List Str} : (∀ t ∈ ts, Tx t) → ts.length ≤ 100 → Tg (.tuple (ts.map .str))
structure Ob (K : PySem.W.Frag) (H : Hp) (x : V) (d : PyData) : Prop where
  dp : Dp K H x d
  tg : Tg d
theorem dp_strs {K : PySem.W.Frag} {H H' : Hp} : ∀ {xs : List V} {ts : List Str}, DpAll K H xs (ts.map PyData.str) → xs = ts.map V.str ∧ DpAll K H' (ts.map V.str) (ts.map PyData.str)
  | _, [], h => by cases h; exact ⟨rfl, .nil⟩
  | _, t :: ts, h => by
    cases h with
    | cons a b =>
      cases a
      obtain ⟨e, g⟩ := dp_strs (H' := H') (ts := ts) b
      subst e
      exact ⟨rfl, .cons (.str t) g⟩
theorem dp_strs' {K : PySem.W.Frag} {H : Hp} : ∀ ts : List Str, DpAll K H (ts.map V.str) (ts.map PyData.str)
  | [] => .nil
  | t :: ts => .cons (.str t) (dp_strs' ts)
theorem Ob.move {K : PySem.W.Frag} {H H' : Hp} {x : V} {d : PyData} (h : Ob K H x d) (f : ∀ p o, x = .ref p → H p = some o → (∀ ts : List Str, o = .lst (ts.map V.str) → H' p = some o) ∧ (∀ ts : List Str, o = .tup (ts.map V.str) → H' p = some o) ∧ (∀ ob u, o = .frz ob u → H' p = some o)) : Ob K H' x d := by
  obtain ⟨h, t⟩ := h
  cases t with
  | int q => cases h; exact ⟨.int _, .int q⟩
  | bl b => cases h; exact ⟨.bl _, .bl b⟩
  | non => cases h; exact ⟨.non, .non⟩
  | str q => cases h; exact ⟨.str _, .str q⟩
  | lst q l =>
    cases h with
    | lst s a =>
      obtain ⟨e, g⟩ := dp_strs (H' := H') a
      subst e
      refine ⟨.lst ?_ g, .lst q l⟩
      rcases s with (s | ⟨o, s⟩) | s
      · exact .inl (.inl ((f _ _ rfl s).1 _ rfl))
      · exact .inl (.inr ⟨o, (f _ _ rfl s).2.2 _ _ rfl⟩)
      · exact .inr s
  | tup q l =>
    cases h with
    | tup s a =>
      obtain ⟨e, g⟩ := dp_strs (H' := H') a
      subst e
      refine ⟨.tup ?_ g, .tup q l⟩
      rcases s with (s | ⟨o, s⟩) | s
      · exact .inl (.inl ((f _ _ rfl s).2.1 _ rfl))
      · exact .inl (.inr ⟨o, (f _ _ rfl s).2.2 _ _ rfl⟩)
      · exact .inr s
theorem Ob.keep {K : PySem.W.Frag} {H H' : Hp} {x : V} {d : PyData} (e : Same H H') (h : Ob K H x d) : Ob K H' x d :=
  h.move fun p o _ q => ⟨fun _ _ => e _ _ q, fun _ _ => e _ _ q, fun _ _ _ => e _ _ q⟩
theorem Ob.but {K : PySem.W.Frag} {H H' : Hp} {x : V} {d : PyData} {b : Addr} {n : Nat} (bag : Bag H b n) (e : But b H H') (h : Ob K H x d) : Ob K H' x d := by
  obtain ⟨c, i, k, m, z, ns, hb, _⟩ := bag
  refine h.move fun p o _ q => ?_
  by_cases pb : p = b
  · subst pb
    rw [hb] at q
    have q := Option.some.inj q
    subst q
    refine ⟨fun ts f => ?_, fun ts f => (by cases f), fun ob u f => (by cases f)⟩
    cases ts with
    | nil => simp at f
    | cons t ts => simp at f
  · exact ⟨fun _ _ => e _ _ pb q, fun _ _ => e _ _ pb q, fun _ _ _ => e _ _ pb q⟩
theorem tx_lay {t : Str} (h : Tx t) : PyData.leavesShort 13 (.str t) = true ∧ PyData.weight (.str t) ≤ 100 := by
  refine ⟨?_, h.len⟩
  show (t.cps.toList.all fun c => decide (c < 16 ^ 8)) = true
  rw [List.all_eq_true]
  intro c m
  have := h.asc c m
  exact decide_eq_true (by omega)
theorem strs_lay : ∀ {ts : List Str}, (∀ t ∈ ts, Tx t) → PyData.leavesShortAll 13 (ts.map .str) = true ∧ PyData.weightAll (ts.map .str) ≤ 101 * ts.length ∧ PyData.showableAll (ts.map .str) = true ∧ PyData.hasDictAll (ts.map .str) = false ∧ PyData.depthAll (ts.map .str) = 0 ∧ PyData.plainAll (ts.map .str) = true
  | [], _ => by simp [PyData.leavesShortAll, PyData.weightAll, PyData.showableAll, PyData.hasDictAll, PyData.depthAll, PyData.plainAll]
  | t :: ts, h => by
    have h1 := tx_lay (h t (by simp))
    have h2 := strs_lay (ts := ts) fun y m => h y (List.mem_cons_of_mem _ m)
    obtain ⟨a1, a2⟩ := h1
    obtain ⟨b1, b2, b3, b4, b5, b6⟩ := h2
    simp only [List.map_cons, PyData.leavesShortAll, PyData.weightAll, PyData.showableAll, PyData.hasDictAll, PyData.depthAll, PyData.plainAll, a1, b1, b3, b4, b5, b6, PyData.showable, PyData.hasDict, PyData.depth, PyData.plain, Bool.and_self, Bool.or_self, true_and, List.length_cons, and_true, Nat.max_self]
    omega
structure Shows (d : PyData) : Prop where
  sh : d.showable = true
  nd : d.hasDict = false
  dep : d.depth ≤ 60
  fit : d.shown.length ≤ sizeLine
theorem tg_shows {d : PyData} (t : Tg d) : Shows d := by
  cases t with
  | @int i h =>
    have hl : i.natAbs.log2 < 20 ∨ i = 0 := by
      by_cases z : i = 0
      · exact .inr z
      · exact .inl ((Nat.log2_lt (by omega)).mpr (by omega))
    refine ⟨decide_eq_true ?_, rfl, Nat.zero_le _, Nat.le_trans (PyData.shown_int_le (by omega)) (by decide)⟩
    rcases hl with z | z
    · omega
    · subst z; decide
  | bl b => exact ⟨rfl, rfl, Nat.zero_le _, by cases b <;> decide +kernel⟩
  | non => exact ⟨rfl, rfl, Nat.zero_le _, by decide +kernel⟩
  | str h =>
    have q := tx_lay h
    exact ⟨rfl, rfl, Nat.zero_le _, PyData.shown_fits (B := 13) (by decide) (by decide) q.1 (Nat.le_trans q.2 (by decide))⟩
  | lst h l =>
    obtain ⟨b1, b2, b3, b4, b5, b6⟩ := strs_lay h
    exact ⟨b3, b4, by simp only [PyData.depth, b5]; decide, PyData.shown_fits (B := 13) (by decide) (by decide) b1 (Nat.le_trans b2 (by omega))⟩
  | tup h l =>
    obtain ⟨b1, b2, b3, b4, b5, b6⟩ := strs_lay h
    exact ⟨b3, b4, by simp only [PyData.depth, b5]; decide, PyData.shown_fits (B := 13) (by decide) (by decide) b1 (Nat.le_trans b2 (by omega))⟩
/-- a number's text -/
def IsN (x : V) : Prop := ∃ ds, Num ds ∧ x = .str (numS ds)
/-- what isinstance asks of a thing: a text, or no text -/
theorem tys_of {K : PySem.W.Frag} {H : Hp} {x : V} {d : PyData} (h : Ob K H x d) : ∃ (n : String) (b : Bool), TyX K H x (.type n) ∧ PySem.W.kitOne K (.type n) (.type "str") = some b ∧ (b = true → ∃ t, x = .str t ∧ d = .str t ∧ Tx t) ∧ (b = false → ¬ IsN x) := by
  obtain ⟨h, t⟩ := h
  cases t with
  | int _ => cases h; exact ⟨"int", false, .base (.int _), kit_ty (by decide +kernel), (fun z => by cases z), fun _ ⟨ds, _, e⟩ => by cases e⟩
  | bl b => cases h; exact ⟨"bool", false, .base (.bl _), kit_ty (by decide +kernel), (fun z => by cases z), fun _ ⟨ds, _, e⟩ => by cases e⟩
  | non => cases h; exact ⟨"NoneType", false, .base .non, kit_ty (by decide +kernel), (fun z => by cases z), fun _ ⟨ds, _, e⟩ => by cases e⟩
  | str q => cases h; exact ⟨"str", true, .base (.str _), kit_ty (by decide +kernel), fun _ => ⟨_, rfl, rfl, q⟩, fun z => by cases z⟩
  | lst _ _ =>
    cases h with
    | lst q a =>
      rcases q with (q | ⟨o, q⟩) | q
      · exact ⟨"list", false, .base (.lst q), kit_ty (by decide +kernel), (fun z => by cases z), fun _ ⟨ds, _, e⟩ => by cases e⟩
      · exact ⟨"list", false, .base (.frz q), kit_ty (by decide +kernel), (fun z => by cases z), fun _ ⟨ds, _, e⟩ => by cases e⟩
      · obtain ⟨o, xs, n, e, c, _⟩ := q
        exact ⟨"list", false, .kList e c, kit_ty (by decide +kernel), (fun z => by cases z), fun _ ⟨ds, _, e⟩ => by cases e⟩
  | tup _ _ =>
    cases h with
    | tup q a =>
      rcases q with (q | ⟨o, q⟩) | q
      · exact ⟨"tuple", false, .base (.tup q), kit_ty (by decide +kernel), (fun z => by cases z), fun _ ⟨ds, _, e⟩ => by cases e⟩
      · exact ⟨"tuple", false, .fTuple q, kit_ty (by decide +kernel), (fun z => by cases z), fun _ ⟨ds, _, e⟩ => by cases e⟩
      · obtain ⟨o, xs, n, e, c, _⟩ := q
        exact ⟨"tuple", false, .kTuple e c, kit_ty (by decide +kernel), (fun z => by cases z), fun _ ⟨ds, _, e⟩ => by cases e⟩
theorem ob_num {K : PySem.W.Frag} {H : Hp} {ds : List Nat} (N : Num ds) : Ob K H (.str (numS ds)) (.str (numS ds)) :=
  ⟨.str _, .str ⟨by rw [numS_len]; have := N.len; omega, fun c m => by
    have m : c ∈ codes ds := m
    obtain ⟨d, md, rfl⟩ := List.mem_map.mp m
    have := (N.dig d md).2
    omega⟩⟩
theorem isN_str {t : Str} : IsN (.str t) ↔ IsNum t := ⟨fun ⟨ds, N, e⟩ => ⟨ds, N, V.str.inj e⟩, fun ⟨ds, N, e⟩ => ⟨ds, N, by rw [e]⟩⟩
theorem fresh_but {b p : Addr} {H H' : Hp} {n : Nat} (bag : Bag H b n) (e : But b H H') (f : H' p = none) : H p = none := by
  cases q : H p with
  | none => rfl
  | some o =>
    by_cases pb : p = b
    · obtain ⟨c, x, k, m, z, ns, h, _⟩ := bag
      obtain ⟨x', k', m', z', g⟩ := e.cel c ⟨x, k, m, z, h⟩
      rw [pb, g] at f
      cases f
    · rw [e.keep p o pb q] at f
      cases f
end Wm

namespace K08
open PySem L2
def top (i : Nat) : Stmt := PySem.Challenge.pw_wheelchorus_k08_towns_changed.main.body.getD i (.Pass ⟨0, 0, 0, 0⟩)
abbrev s_is_whole : Stmt := top 6
abbrev s_is_whole_within : Stmt := top 7
abbrev s_is_sequence : Stmt := top 8
abbrev s_is_number : Stmt := top 13
abbrev s_is_sort : Stmt := top 19
abbrev s_has_double : Stmt := top 20
abbrev s_are_loops : Stmt := top 22
abbrev s_check_boxes : Stmt := top 23
abbrev s_check_town : Stmt := top 21
abbrev s_init : Stmt := inClass (top 18) 2
abbrev s_site_of : Stmt := inClass (top 18) 7
abbrev s_sort_of : Stmt := inClass (top 18) 4
abbrev s_loop_of : Stmt := inClass (top 18) 5
abbrev s_place_of : Stmt := inClass (top 18) 6
abbrev s_wire : Stmt := inClass (top 18) 8
abbrev s_eq : Stmt := inClass (top 18) 3
abbrev s_with_box : Stmt := inClass (top 18) 11
abbrev s_with_sort : Stmt := inClass (top 18) 9
abbrev s_with_number : Stmt := inClass (top 18) 10
abbrev s_with_rules : Stmt := inClass (top 18) 12
abbrev s_bag : Stmt := top 25
abbrev s_draw : Stmt := top 26
abbrev s_number : Stmt := top 27
abbrev s_numbers : Stmt := top 28
abbrev s_loops : Stmt := top 29
abbrev s_rules : Stmt := top 30
abbrev s_told : Stmt := top 31
abbrev s_whole : Stmt := top 32
abbrev s_names : Stmt := top 33
abbrev s_number_of : Stmt := top 34
abbrev s_change : Stmt := top 35
abbrev s_wis_number : Stmt := top 36
abbrev s_with : Stmt := top 37
abbrev s_rules_due : Stmt := top 38
abbrev s_due : Stmt := top 39
abbrev s_done : Stmt := top 40
abbrev s_boxes_told : Stmt := top 41
abbrev s_is : Stmt := top 42
abbrev s_law : Stmt := top 43
abbrev nm_is_whole : List Str := ["thing"]
theorem sc_is_whole : FnScope nm_is_whole ["thing"] (defScope s_is_whole) :=
  ⟨rfl, rfl, rfl, by decide +kernel, rfl, by decide +kernel, by decide +kernel⟩
abbrev nm_is_whole_within : List Str := ["thing", "low", "high"]
theorem sc_is_whole_within : FnScope nm_is_whole_within ["thing", "low", "high"] (defScope s_is_whole_within) :=
  ⟨rfl, rfl, rfl, by decide +kernel, rfl, by decide +kernel, by decide +kernel⟩
abbrev nm_is_sequence : List Str := ["thing"]
theorem sc_is_sequence : FnScope nm_is_sequence ["thing"] (defScope s_is_sequence) :=
  ⟨rfl, rfl, rfl, by decide +kernel, rfl, by decide +kernel, by decide +kernel⟩
abbrev nm_is_number : List Str := ["thing", "letter"]
theorem sc_is_number : FnScope nm_is_number ["thing"] (defScope s_is_number) :=
  ⟨rfl, rfl, rfl, by decide +kernel, rfl, by decide +kernel, by decide +kernel⟩
abbrev nm_is_sort : List Str := ["thing"]
theorem sc_is_sort : FnScope nm_is_sort ["thing"] (defScope s_is_sort) :=
  ⟨rfl, rfl, rfl, by decide +kernel, rfl, by decide +kernel, by decide +kernel⟩
abbrev nm_has_double : List Str := ["boxes", "number", "_"]
theorem sc_has_double : FnScope nm_has_double ["boxes"] (defScope s_has_double) :=
  ⟨rfl, rfl, rfl, by decide +kernel, rfl, by decide +kernel, by decide +kernel⟩
abbrev nm_are_loops : List Str := ["thing", "loop"]
theorem sc_are_loops : FnScope nm_are_loops ["thing"] (defScope s_are_loops) :=
  ⟨rfl, rfl, rfl, by decide +kernel, rfl, by decide +kernel, by decide +kernel⟩
abbrev nm_check_boxes : List Str := ["boxes", "box", "number", "_", "sort"]
theorem sc_check_boxes : FnScope nm_check_boxes ["boxes"] (defScope s_check_boxes) :=
  ⟨rfl, rfl, rfl, by decide +kernel, rfl, by decide +kernel, by decide +kernel⟩
abbrev nm_check_town : List Str := ["loops", "rounds", "hear", "loop", "box"]
theorem sc_check_town : FnScope nm_check_town ["loops", "rounds", "hear"] (defScope s_check_town) :=
  ⟨rfl, rfl, rfl, by decide +kernel, rfl, by decide +kernel, by decide +kernel⟩
abbrev nm_init : List Str := ["self", "loops", "rounds", "hear", "loop", "box", "number", "_"]
theorem sc_init : FnScope nm_init ["self", "loops", "rounds", "hear"] (defScope s_init) :=
  ⟨rfl, rfl, rfl, by decide +kernel, rfl, by decide +kernel, by decide +kernel⟩
abbrev nm_site_of : List Str := ["self", "number", "index", "loop", "place", "box"]
theorem sc_site_of : FnScope nm_site_of ["self", "number"] (defScope s_site_of) :=
  ⟨rfl, rfl, rfl, by decide +kernel, rfl, by decide +kernel, by decide +kernel⟩
abbrev nm_sort_of : List Str := ["self", "number", "loop", "place"]
theorem sc_sort_of : FnScope nm_sort_of ["self", "number"] (defScope s_sort_of) :=
  ⟨rfl, rfl, rfl, by decide +kernel, rfl, by decide +kernel, by decide +kernel⟩
abbrev nm_loop_of : List Str := ["self", "number"]
theorem sc_loop_of : FnScope nm_loop_of ["self", "number"] (defScope s_loop_of) :=
  ⟨rfl, rfl, rfl, by decide +kernel, rfl, by decide +kernel, by decide +kernel⟩
abbrev nm_place_of : List Str := ["self", "number"]
theorem sc_place_of : FnScope nm_place_of ["self", "number"] (defScope s_place_of) :=
  ⟨rfl, rfl, rfl, by decide +kernel, rfl, by decide +kernel, by decide +kernel⟩
abbrev nm_wire : List Str := ["self", "loop", "boxes", "box"]
theorem sc_wire : FnScope nm_wire ["self", "loop"] (defScope s_wire) :=
  ⟨rfl, rfl, rfl, by decide +kernel, rfl, by decide +kernel, by decide +kernel⟩
abbrev nm_eq : List Str := ["self", "other"]
theorem sc_eq : FnScope nm_eq ["self", "other"] (defScope s_eq) :=
  ⟨rfl, rfl, rfl, by decide +kernel, rfl, by decide +kernel, by decide +kernel⟩
abbrev nm_with_box : List Str := ["self", "number", "box", "index", "place", "loops", "loop"]
theorem sc_with_box : FnScope nm_with_box ["self", "number", "box"] (defScope s_with_box) :=
  ⟨rfl, rfl, rfl, by decide +kernel, rfl, by decide +kernel, by decide +kernel⟩
abbrev nm_with_sort : List Str := ["self", "number", "sort"]
theorem sc_with_sort : FnScope nm_with_sort ["self", "number", "sort"] (defScope s_with_sort) :=
  ⟨rfl, rfl, rfl, by decide +kernel, rfl, by decide +kernel, by decide +kernel⟩
abbrev nm_with_number : List Str := ["self", "old", "new"]
theorem sc_with_number : FnScope nm_with_number ["self", "old", "new"] (defScope s_with_number) :=
  ⟨rfl, rfl, rfl, by decide +kernel, rfl, by decide +kernel, by decide +kernel⟩
abbrev nm_with_rules : List Str := ["self", "rounds", "hear", "new_rounds", "new_hear"]
theorem sc_with_rules : FnScope nm_with_rules ["self", "rounds", "hear"] (defScope s_with_rules) :=
  ⟨rfl, rfl, rfl, by decide +kernel, rfl, by decide +kernel, by decide +kernel⟩
abbrev nm_bag : List Str := ["_law_script", "_law_cells", "_law_cell"]
theorem sc_bag : FnScope nm_bag ["_law_script"] (defScope s_bag) :=
  ⟨rfl, rfl, rfl, by decide +kernel, rfl, by decide +kernel, by decide +kernel⟩
abbrev nm_draw : List Str := ["_law_bag_here", "_law_limit", "_law_digit"]
theorem sc_draw : FnScope nm_draw ["_law_bag_here", "_law_limit"] (defScope s_draw) :=
  ⟨rfl, rfl, rfl, by decide +kernel, rfl, by decide +kernel, by decide +kernel⟩
abbrev nm_number : List Str := ["_law_bag_here", "_law_many", "_law_way", "_law_top", "_law_word", "_law_left", "_law_k", "_law_digit"]
theorem sc_number : FnScope nm_number ["_law_bag_here"] (defScope s_number) :=
  ⟨rfl, rfl, rfl, by decide +kernel, rfl, by decide +kernel, by decide +kernel⟩
abbrev nm_numbers : List Str := ["_law_bag_here", "_law_many", "_law_found", "_law_spare", "_law_k", "_law_number_here", "_law_free", "_law_one"]
theorem sc_numbers : FnScope nm_numbers ["_law_bag_here", "_law_many"] (defScope s_numbers) :=
  ⟨rfl, rfl, rfl, by decide +kernel, rfl, by decide +kernel, by decide +kernel⟩
abbrev nm_loops : List Str := ["_law_bag_here", "_law_sizes", "_law_k", "_law_numbers_here", "_law_loops_here", "_law_size"]
theorem sc_loops : FnScope nm_loops ["_law_bag_here"] (defScope s_loops) :=
  ⟨rfl, rfl, rfl, by decide +kernel, rfl, by decide +kernel, by decide +kernel⟩
abbrev nm_rules : List Str := ["_law_bag_here", "_law_count"]
theorem sc_rules : FnScope nm_rules ["_law_bag_here"] (defScope s_rules) :=
  ⟨rfl, rfl, rfl, by decide +kernel, rfl, by decide +kernel, by decide +kernel⟩
abbrev nm_told : List Str := ["_law_loops_here", "_law_loop"]
theorem sc_told : FnScope nm_told ["_law_loops_here"] (defScope s_told) :=
  ⟨rfl, rfl, rfl, by decide +kernel, rfl, by decide +kernel, by decide +kernel⟩
abbrev nm_whole : List Str := ["_law_thing"]
theorem sc_whole : FnScope nm_whole ["_law_thing"] (defScope s_whole) :=
  ⟨rfl, rfl, rfl, by decide +kernel, rfl, by decide +kernel, by decide +kernel⟩
abbrev nm_names : List Str := ["_law_loops_here", "_law_names_here", "_law_loop", "_law_box"]
theorem sc_names : FnScope nm_names ["_law_loops_here"] (defScope s_names) :=
  ⟨rfl, rfl, rfl, by decide +kernel, rfl, by decide +kernel, by decide +kernel⟩
abbrev nm_number_of : List Str := ["_law_bag_here", "_law_loops_here", "_law_names_here"]
theorem sc_number_of : FnScope nm_number_of ["_law_bag_here", "_law_loops_here"] (defScope s_number_of) :=
  ⟨rfl, rfl, rfl, by decide +kernel, rfl, by decide +kernel, by decide +kernel⟩
abbrev nm_change : List Str := ["_law_bag_here", "_law_loops_here", "_law_way", "_law_one", "_law_count", "_law_need"]
theorem sc_change : FnScope nm_change ["_law_bag_here", "_law_loops_here"] (defScope s_change) :=
  ⟨rfl, rfl, rfl, by decide +kernel, rfl, by decide +kernel, by decide +kernel⟩
abbrev nm_wis_number : List Str := ["_law_thing", "_law_sign"]
theorem sc_wis_number : FnScope nm_wis_number ["_law_thing"] (defScope s_wis_number) :=
  ⟨rfl, rfl, rfl, by decide +kernel, rfl, by decide +kernel, by decide +kernel⟩
abbrev nm_with : List Str := ["_law_loops_here", "_law_number_here", "_law_box", "_law_told_here", "_law_loop", "_law_one"]
theorem sc_with : FnScope nm_with ["_law_loops_here", "_law_number_here", "_law_box"] (defScope s_with) :=
  ⟨rfl, rfl, rfl, by decide +kernel, rfl, by decide +kernel, by decide +kernel⟩
abbrev nm_rules_due : List Str := ["_law_change_here", "_law_rules_here", "_law_count", "_law_need"]
theorem sc_rules_due : FnScope nm_rules_due ["_law_change_here", "_law_rules_here"] (defScope s_rules_due) :=
  ⟨rfl, rfl, rfl, by decide +kernel, rfl, by decide +kernel, by decide +kernel⟩
abbrev nm_due : List Str := ["_law_change_here", "_law_loops_here", "_law_rules_here", "_law_names_here", "_law_rows", "_law_loop", "_law_one", "_law_sorts", "_law_row"]
theorem sc_due : FnScope nm_due ["_law_change_here", "_law_loops_here", "_law_rules_here"] (defScope s_due) :=
  ⟨rfl, rfl, rfl, by decide +kernel, rfl, by decide +kernel, by decide +kernel⟩
abbrev nm_done : List Str := ["_law_town", "_law_change_here", "_law_told_here", "e"]
theorem sc_done : FnScope nm_done ["_law_town", "_law_change_here"] (defScope s_done) :=
  ⟨rfl, rfl, rfl, by decide +kernel, rfl, by decide +kernel, by decide +kernel⟩
abbrev nm_boxes_told : List Str := ["_law_town", "_law_loops_here", "_law_joined", "_law_at", "_law_place", "_law_number_here", "_law_sort"]
theorem sc_boxes_told : FnScope nm_boxes_told ["_law_town", "_law_loops_here"] (defScope s_boxes_told) :=
  ⟨rfl, rfl, rfl, by decide +kernel, rfl, by decide +kernel, by decide +kernel⟩
abbrev nm_is : List Str := ["_law_town", "_law_loops_here", "_law_rules_here"]
theorem sc_is : FnScope nm_is ["_law_town", "_law_loops_here", "_law_rules_here"] (defScope s_is) :=
  ⟨rfl, rfl, rfl, by decide +kernel, rfl, by decide +kernel, by decide +kernel⟩
abbrev nm_law : List Str := ["_law_script", "_law_bag_here", "_law_loops_here", "_law_rules_here", "_law_town", "_law_k", "_law_change_here", "_law_due_here", "_law_told_here", "_law_old"]
theorem sc_law : FnScope nm_law ["_law_script"] (defScope s_law) :=
  ⟨rfl, rfl, rfl, by decide +kernel, rfl, by decide +kernel, by decide +kernel⟩
structure Txt (K : PySem.W.Frag) (mg : Str → Option Value) where
  C : Addr
  isi : SlX.SIsi K C
  kS : PySem.W.kitOne K (.ref C) (.ref C) = some true
  kT : PySem.W.kitOne K (.type "tuple") (.ref C) = some false
  CL : Addr
  fL : Addr
  lowL : PySem.LowL.LowTxt K mg CL fL
  CB : Addr
  fB : Addr
  lowB : PySem.LowB.LowTxt K mg CB fB
  CT : Addr
  fT : Addr
  lowT : PySem.LowT.LowTxt K mg CT fT
  sfC : PySem.W.notFirst K C (.ref C) = true
  sfT : PySem.W.notFirst K C (.type "tuple") = true
  gC : mg "Town" = some (.ref C)
  clC : Cls K C
  mc : Value
  rd : ClX.CRead K C mc
  uP : Value
  uS : Value
  vP : ClX.CVal K C mc "PLAIN" (.str "plain") uP
  vS : ClX.CVal K C mc "SHY" (.str "shy") uS
  nL : NoAttr K C "loops"
  nR : NoAttr K C "rounds"
  nH : NoAttr K C "hear"
  nN : NoAttr K C "numbers"
  a_is_whole : Addr
  d_is_whole : FuncData
  F_is_whole : Fun K "is_whole" "is_whole" s_is_whole a_is_whole d_is_whole
  b_is_whole : Binds K d_is_whole ["thing"] []
  g_is_whole : mg "is_whole" = some (.ref a_is_whole)
  a_is_whole_within : Addr
  d_is_whole_within : FuncData
  F_is_whole_within : Fun K "is_whole_within" "is_whole_within" s_is_whole_within a_is_whole_within d_is_whole_within
  b_is_whole_within : Binds K d_is_whole_within ["thing", "low", "high"] []
  g_is_whole_within : mg "is_whole_within" = some (.ref a_is_whole_within)
  a_is_sequence : Addr
  d_is_sequence : FuncData
  F_is_sequence : Fun K "is_sequence" "is_sequence" s_is_sequence a_is_sequence d_is_sequence
  b_is_sequence : Binds K d_is_sequence ["thing"] []
  g_is_sequence : mg "is_sequence" = some (.ref a_is_sequence)
  a_is_number : Addr
  d_is_number : FuncData
  F_is_number : Fun K "is_number" "is_number" s_is_number a_is_number d_is_number
  b_is_number : Binds K d_is_number ["thing"] []
  g_is_number : mg "is_number" = some (.ref a_is_number)
  a_is_sort : Addr
  d_is_sort : FuncData
  F_is_sort : Fun K "is_sort" "is_sort" s_is_sort a_is_sort d_is_sort
  b_is_sort : Binds K d_is_sort ["thing"] []
  g_is_sort : mg "is_sort" = some (.ref a_is_sort)
  a_has_double : Addr
  d_has_double : FuncData
  F_has_double : Fun K "has_double" "has_double" s_has_double a_has_double d_has_double
  b_has_double : Binds K d_has_double ["boxes"] []
  g_has_double : mg "has_double" = some (.ref a_has_double)
  a_are_loops : Addr
  d_are_loops : FuncData
  F_are_loops : Fun K "are_loops" "are_loops" s_are_loops a_are_loops d_are_loops
  b_are_loops : Binds K d_are_loops ["thing"] []
  g_are_loops : mg "are_loops" = some (.ref a_are_loops)
  a_check_boxes : Addr
  d_check_boxes : FuncData
  F_check_boxes : Fun K "check_boxes" "check_boxes" s_check_boxes a_check_boxes d_check_boxes
  b_check_boxes : Binds K d_check_boxes ["boxes"] []
  g_check_boxes : mg "check_boxes" = some (.ref a_check_boxes)
  a_check_town : Addr
  d_check_town : FuncData
  F_check_town : Fun K "check_town" "check_town" s_check_town a_check_town d_check_town
  b_check_town : Binds K d_check_town ["loops", "rounds", "hear"] []
  g_check_town : mg "check_town" = some (.ref a_check_town)
  a_init : Addr
  d_init : FuncData
  F_init : FunD K "__init__" "Town.__init__" (defArgs s_init) (defBody s_init) (defScope s_init) [] [("hear", V.int 1)] a_init d_init
  mk_init : Mk K C a_init
  a_site_of : Addr
  d_site_of : FuncData
  F_site_of : Fun K "site_of" "Town.site_of" s_site_of a_site_of d_site_of
  b_site_of : Binds K d_site_of ["self", "number"] []
  m_site_of : Meth K C "site_of" a_site_of
  a_sort_of : Addr
  d_sort_of : FuncData
  F_sort_of : Fun K "sort_of" "Town.sort_of" s_sort_of a_sort_of d_sort_of
  b_sort_of : Binds K d_sort_of ["self", "number"] []
  m_sort_of : Meth K C "sort_of" a_sort_of
  a_loop_of : Addr
  d_loop_of : FuncData
  F_loop_of : Fun K "loop_of" "Town.loop_of" s_loop_of a_loop_of d_loop_of
  b_loop_of : Binds K d_loop_of ["self", "number"] []
  m_loop_of : Meth K C "loop_of" a_loop_of
  a_place_of : Addr
  d_place_of : FuncData
  F_place_of : Fun K "place_of" "Town.place_of" s_place_of a_place_of d_place_of
  b_place_of : Binds K d_place_of ["self", "number"] []
  m_place_of : Meth K C "place_of" a_place_of
  a_wire : Addr
  d_wire : FuncData
  F_wire : FunD K "wire" "Town.wire" (defArgs s_wire) (defBody s_wire) (defScope s_wire) [V.non] [] a_wire d_wire
  b_wire : Binds K d_wire ["self", "loop"] []
  m_wire : Meth K C "wire" a_wire
  a_eq : Addr
  d_eq : FuncData
  F_eq : Fun K "__eq__" "Town.__eq__" s_eq a_eq d_eq
  b_eq : Binds K d_eq ["self", "other"] []
  m_eq : Meth K C "__eq__" a_eq
  a_with_box : Addr
  d_with_box : FuncData
  F_with_box : Fun K "with_box" "Town.with_box" s_with_box a_with_box d_with_box
  b_with_box : Binds K d_with_box ["self", "number", "box"] []
  m_with_box : Meth K C "with_box" a_with_box
  a_with_sort : Addr
  d_with_sort : FuncData
  F_with_sort : Fun K "with_sort" "Town.with_sort" s_with_sort a_with_sort d_with_sort
  b_with_sort : Binds K d_with_sort ["self", "number", "sort"] []
  m_with_sort : Meth K C "with_sort" a_with_sort
  a_with_number : Addr
  d_with_number : FuncData
  F_with_number : Fun K "with_number" "Town.with_number" s_with_number a_with_number d_with_number
  b_with_number : Binds K d_with_number ["self", "old", "new"] []
  m_with_number : Meth K C "with_number" a_with_number
  a_with_rules : Addr
  d_with_rules : FuncData
  F_with_rules : FunD K "with_rules" "Town.with_rules" (defArgs s_with_rules) (defBody s_with_rules) (defScope s_with_rules) [] [("rounds", V.non), ("hear", V.non)] a_with_rules d_with_rules
  m_with_rules : Meth K C "with_rules" a_with_rules
  a_bag : Addr
  d_bag : FuncData
  F_bag : Fun K "_law_bag" "_law_bag" s_bag a_bag d_bag
  b_bag : Binds K d_bag ["_law_script"] []
  g_bag : mg "_law_bag" = some (.ref a_bag)
  a_draw : Addr
  d_draw : FuncData
  F_draw : Fun K "_law_draw" "_law_draw" s_draw a_draw d_draw
  b_draw : Binds K d_draw ["_law_bag_here", "_law_limit"] []
  g_draw : mg "_law_draw" = some (.ref a_draw)
  a_number : Addr
  d_number : FuncData
  F_number : Fun K "_law_number" "_law_number" s_number a_number d_number
  b_number : Binds K d_number ["_law_bag_here"] []
  g_number : mg "_law_number" = some (.ref a_number)
  a_numbers : Addr
  d_numbers : FuncData
  F_numbers : Fun K "_law_numbers" "_law_numbers" s_numbers a_numbers d_numbers
  b_numbers : Binds K d_numbers ["_law_bag_here", "_law_many"] []
  g_numbers : mg "_law_numbers" = some (.ref a_numbers)
  a_loops : Addr
  d_loops : FuncData
  F_loops : Fun K "_law_loops" "_law_loops" s_loops a_loops d_loops
  b_loops : Binds K d_loops ["_law_bag_here"] []
  g_loops : mg "_law_loops" = some (.ref a_loops)
  a_rules : Addr
  d_rules : FuncData
  F_rules : Fun K "_law_rules" "_law_rules" s_rules a_rules d_rules
  b_rules : Binds K d_rules ["_law_bag_here"] []
  g_rules : mg "_law_rules" = some (.ref a_rules)
  a_told : Addr
  d_told : FuncData
  F_told : Fun K "_law_told" "_law_told" s_told a_told d_told
  b_told : Binds K d_told ["_law_loops_here"] []
  g_told : mg "_law_told" = some (.ref a_told)
  a_whole : Addr
  d_whole : FuncData
  F_whole : Fun K "_law_whole" "_law_whole" s_whole a_whole d_whole
  b_whole : Binds K d_whole ["_law_thing"] []
  g_whole : mg "_law_whole" = some (.ref a_whole)
  a_names : Addr
  d_names : FuncData
  F_names : Fun K "_law_names" "_law_names" s_names a_names d_names
  b_names : Binds K d_names ["_law_loops_here"] []
  g_names : mg "_law_names" = some (.ref a_names)
  a_number_of : Addr
  d_number_of : FuncData
  F_number_of : Fun K "_law_number_of" "_law_number_of" s_number_of a_number_of d_number_of
  b_number_of : Binds K d_number_of ["_law_bag_here", "_law_loops_here"] []
  g_number_of : mg "_law_number_of" = some (.ref a_number_of)
  a_change : Addr
  d_change : FuncData
  F_change : Fun K "_law_change" "_law_change" s_change a_change d_change
  b_change : Binds K d_change ["_law_bag_here", "_law_loops_here"] []
  g_change : mg "_law_change" = some (.ref a_change)
  a_wis_number : Addr
  d_wis_number : FuncData
  F_wis_number : Fun K "_law_is_number" "_law_is_number" s_wis_number a_wis_number d_wis_number
  b_wis_number : Binds K d_wis_number ["_law_thing"] []
  g_wis_number : mg "_law_is_number" = some (.ref a_wis_number)
  a_with : Addr
  d_with : FuncData
  F_with : Fun K "_law_with" "_law_with" s_with a_with d_with
  b_with : Binds K d_with ["_law_loops_here", "_law_number_here", "_law_box"] []
  g_with : mg "_law_with" = some (.ref a_with)
  a_rules_due : Addr
  d_rules_due : FuncData
  F_rules_due : Fun K "_law_rules_due" "_law_rules_due" s_rules_due a_rules_due d_rules_due
  b_rules_due : Binds K d_rules_due ["_law_change_here", "_law_rules_here"] []
  g_rules_due : mg "_law_rules_due" = some (.ref a_rules_due)
  a_due : Addr
  d_due : FuncData
  F_due : Fun K "_law_due" "_law_due" s_due a_due d_due
  b_due : Binds K d_due ["_law_change_here", "_law_loops_here", "_law_rules_here"] []
  g_due : mg "_law_due" = some (.ref a_due)
  a_done : Addr
  d_done : FuncData
  F_done : Fun K "_law_done" "_law_done" s_done a_done d_done
  b_done : Binds K d_done ["_law_town", "_law_change_here"] []
  g_done : mg "_law_done" = some (.ref a_done)
  a_boxes_told : Addr
  d_boxes_told : FuncData
  F_boxes_told : Fun K "_law_boxes_told" "_law_boxes_told" s_boxes_told a_boxes_told d_boxes_told
  b_boxes_told : Binds K d_boxes_told ["_law_town", "_law_loops_here"] []
  g_boxes_told : mg "_law_boxes_told" = some (.ref a_boxes_told)
  a_is : Addr
  d_is : FuncData
  F_is : Fun K "_law_is" "_law_is" s_is a_is d_is
  b_is : Binds K d_is ["_law_town", "_law_loops_here", "_law_rules_here"] []
  g_is : mg "_law_is" = some (.ref a_is)
  a_law : Addr
  d_law : FuncData
  F_law : Fun K "law" "law" s_law a_law d_law
  b_law : Binds K d_law ["_law_script"] []
  g_law : mg "law" = some (.ref a_law)
  t_DIGITS : Tok
  c_DIGITS : mg "DIGITS" = some (.str "123456789" t_DIGITS)
  t_MOST_DIGITS : Tok
  c_MOST_DIGITS : mg "MOST_DIGITS" = some (.int 4 t_MOST_DIGITS)
  t_GREATEST_SUM : Tok
  c_GREATEST_SUM : mg "GREATEST_SUM" = some (.int 24 t_GREATEST_SUM)
  t_MOST_LOOPS : Tok
  c_MOST_LOOPS : mg "MOST_LOOPS" = some (.int 3 t_MOST_LOOPS)
  t_MOST_BOXES : Tok
  c_MOST_BOXES : mg "MOST_BOXES" = some (.int 10 t_MOST_BOXES)
  t_MOST_ROUNDS : Tok
  c_MOST_ROUNDS : mg "MOST_ROUNDS" = some (.int 8 t_MOST_ROUNDS)
  z_all : mg "all" = none
  z_bool : mg "bool" = none
  z_enumerate : mg "enumerate" = none
  z_int : mg "int" = none
  z_isinstance : mg "isinstance" = none
  z_len : mg "len" = none
  z_list : mg "list" = none
  z_min : mg "min" = none
  z_range : mg "range" = none
  z_repr : mg "repr" = none
  z_set : mg "set" = none
  z_str : mg "str" = none
  z_sum : mg "sum" = none
  z_tuple : mg "tuple" = none
  aEq : PySem.W.findIn K (.ref C) (cmpInfo .Eq).2.1 = some (some (.ref a_eq))
  iEq : PySem.W.isFn K (.ref a_eq) = true
  dw : List Value
  r_wire : Vals [V.non] dw
  b0_wire : Binds K d_wire ["self", "loop"] dw
  k_wire : KBn K d_wire ["self", "loop"] 1 ["loop"] (fun us ws => us ++ ws) (fun vs zs => vs ++ zs)
  ne : On.NeOk K C a_eq
  xTB : PySem.W.exmOne K (.ref CT) (.ref CB) = some false
  w0 : List Value
  kw0 : KBn K d_with_rules ["self", "rounds", "hear"] 1 [] (fun us ws => us ++ w0) (fun vs zs => vs ++ [V.non, V.non])
  wR : List Value
  kwR : KBn K d_with_rules ["self", "rounds", "hear"] 1 ["rounds"] (fun us ws => us ++ ws ++ wR) (fun vs zs => vs ++ zs ++ [V.non])
  wH : List Value
  kwH : KBn K d_with_rules ["self", "rounds", "hear"] 1 ["hear"] (fun us ws => us ++ wH ++ ws) (fun vs zs => vs ++ [V.non] ++ zs)
  kw2 : KBn K d_with_rules ["self", "rounds", "hear"] 1 ["rounds", "hear"] (fun us ws => us ++ ws) (fun vs zs => vs ++ zs)
  kb2 : KBn K d_init ["self", "loops", "rounds", "hear"] 2 ["rounds", "hear"] (fun us ws => us ++ ws) (fun vs zs => vs ++ zs)
  mv : List Value
  kb : KBn K d_init ["self", "loops", "rounds", "hear"] 2 ["rounds"] (fun us ws => us ++ ws ++ mv) (fun vs zs => vs ++ zs ++ [V.int 1])
end K08

/-! The promises. -/
namespace K08
open PySem L2 Wm Dv
abbrev Box := List Nat × Bool
def sortS (b : Bool) : Str := if b then "shy" else "plain"
def boxD (b : Box) : PyData := .tuple [.str (numS b.1), .str (sortS b.2)]
def loopD (l : List Box) : PyData := .tuple (l.map boxD)
def townD (ls : List (List Box)) : PyData := .tuple (ls.map loopD)
def numD (b : Box) : PyData := .str (numS b.1)
/-- boxes with numbers -/
def Bs (bs : List Box) : Prop := ∀ b ∈ bs, Num b.1
structure Good (ls : List (List Box)) : Prop where
  l1 : 1 ≤ ls.length
  l2 : ls.length ≤ 3
  b1 : ∀ l ∈ ls, 1 ≤ l.length
  b2 : ∀ l ∈ ls, l.length ≤ 10
  num : Bs ls.flatten
  nd : (ls.flatten.map fun b => numS b.1).Nodup
def numV (b : Box) : V := V.str (numS b.1)
def TownAt (K : PySem.W.Frag) (C : Addr) (H : Hp) (p : Addr) (ls : List (List Box)) (r h : Int) : Prop :=
  ∃ dx fs y y2, H p = some (.ins C dx fs) ∧ fs.lookup ("loops" : Str) = some y ∧ fs.lookup ("rounds" : Str) = some (.int r) ∧ fs.lookup ("hear" : Str) = some (.int h) ∧ fs.lookup ("numbers" : Str) = some y2 ∧
    (∀ m : Str, m ≠ "loops" → m ≠ "rounds" → m ≠ "hear" → m ≠ "numbers" → fs.lookup m = none) ∧ Dt K H y (townD ls) ∧ Dt K H y2 (.tuple (ls.flatten.map numD))
/-- a loop as a list or a tuple of boxes; a town of such -/
def LoopIn (K : PySem.W.Frag) (H : Hp) (v : V) (l : List Box) : Prop := ∃ q ys t, v = .ref q ∧ Kd.Is K t H q ys ∧ Dts K H ys (l.map boxD)
def InTown (K : PySem.W.Frag) (H : Hp) (x : V) (ls : List (List Box)) : Prop := ∃ p xs t, x = .ref p ∧ Kd.Is K t H p xs ∧ xs.length = ls.length ∧ ∀ (i : Nat) v, xs[i]? = some v → ∃ l, ls[i]? = some l ∧ LoopIn K H v l
theorem LoopIn.k {K : PySem.W.Frag} {H H' : Hp} {v : V} {l : List Box} (h : LoopIn K H v l) (s : Same H H') : LoopIn K H' v l := by
  obtain ⟨q, ys, t, e, hq, hd⟩ := h
  exact ⟨q, ys, t, e, hq.keep s, hd.k (Kt.same s)⟩
theorem InTown.k {K : PySem.W.Frag} {H H' : Hp} {x : V} {ls : List (List Box)} (h : InTown K H x ls) (s : Same H H') : InTown K H' x ls := by
  obtain ⟨p, xs, t, e, hp, el, ha⟩ := h
  exact ⟨p, xs, t, e, hp.keep s, el, fun i v hv => by
    obtain ⟨l, hl, hL⟩ := ha i v hv
    exact ⟨l, hl, hL.k s⟩⟩
/-- what may be asked whether it is a whole number, and which -/
inductive Thing (K : PySem.W.Frag) (H : Hp) : V → Option Int → Prop
  | int (i : Int) : Thing K H (.int i) (some i)
  | bl (b : Bool) : Thing K H (.bl b) none
  | str (s : Str) : Thing K H (.str s) none
  | non : Thing K H .non none
  | seq {p : Addr} {xs : List V} {t : Bool} : Kd.Is K t H p xs → Thing K H (.ref p) none
theorem Thing.k {K : PySem.W.Frag} {H H' : Hp} {x : V} {o : Option Int} (h : Thing K H x o) (s : Same H H') : Thing K H' x o := by
  cases h with
  | int i => exact .int i
  | bl b => exact .bl b
  | str b => exact .str b
  | non => exact .non
  | seq h => exact .seq (h.keep s)
def within (lo hi : Int) : Option Int → Bool
  | some i => decide (lo ≤ i) && decide (i ≤ hi)
  | none => false
def sp_is_whole (K : PySem.W.Frag) : Sp := fun vs H Q _ => ∃ x o, vs = [x] ∧ Thing K H x o ∧ Q (.bl o.isSome) H
def sp_is_whole_within (K : PySem.W.Frag) : Sp := fun vs H Q _ => ∃ x o, ∃ lo hi : Int, vs = [x, .int lo, .int hi] ∧ Thing K H x o ∧ Q (.bl (within lo hi o)) H
def sp_is_sequence (K : PySem.W.Frag) : Sp := fun vs H Q _ => ∃ p xs t, vs = [.ref p] ∧ Kd.Is K t H p xs ∧ ∀ H', Same H H' → Q (.bl true) H'
def Er (C : Addr) (f : Str) (E : XK) (H : Hp) (x : V) : Prop := ∀ H' d, Same H H' → H' d = some (.xd [(f, x)]) → E (.ref C) (some d) H'
theorem Er.after {C : Addr} {f : Str} {E : XK} {H H1 : Hp} {x : V} (h : Er C f E H x) (s : Same H H1) : Er C f E H1 x := fun H' d s' e => h H' d (s.trans s') e
/-- flat things: what may stand in a box -/
inductive Fl : V → Prop
  | int {i : Int} : i.natAbs < 1000000 → Fl (.int i)
  | bl (b : Bool) : Fl (.bl b)
  | non : Fl .non
  | str {t : Str} : Tx t → Fl (.str t)
theorem Fl.ob {K : PySem.W.Frag} {x : V} (h : Fl x) : ∃ d, ∀ H, Ob K H x d := by
  cases h with
  | int h => exact ⟨.int _, fun H => ⟨.int _, .int h⟩⟩
  | bl b => exact ⟨.bool b, fun H => ⟨.bl _, .bl b⟩⟩
  | non => exact ⟨.none, fun H => ⟨.non, .non⟩⟩
  | str h => exact ⟨.str _, fun H => ⟨.str _, .str h⟩⟩
theorem Fl.flat {x : V} (h : Fl x) : flatV x = true := by cases h <;> rfl
/-- a box that may be odd -/
abbrev OB := V × V
def BoxAt (K : PySem.W.Frag) (H : Hp) (v : V) (b : OB) : Prop := ∃ q, v = .ref q ∧ SqT K H q [b.1, b.2]
def BoxesAt (K : PySem.W.Frag) (H : Hp) (xs : List V) (bs : List OB) : Prop := xs.length = bs.length ∧ ∀ (i : Nat) v, xs[i]? = some v → ∃ b, bs[i]? = some b ∧ BoxAt K H v b
def FlB (bs : List OB) : Prop := ∀ b ∈ bs, Fl b.1 ∧ Fl b.2
def IsSt (v : V) : Prop := v = .str "plain" ∨ v = .str "shy"
/-- the word for wrong boxes -/
def Bad (bs : List OB) (w : Str) : Prop := (w = "number" ∧ ∃ b ∈ bs, ¬ IsN b.1) ∨ (w = "sort" ∧ (∀ b ∈ bs, IsN b.1) ∧ ∃ b ∈ bs, ¬ IsSt b.2) ∨ (w = "double" ∧ (∀ b ∈ bs, IsN b.1) ∧ (∀ b ∈ bs, IsSt b.2) ∧ ¬ (bs.map (·.1)).Nodup)
theorem BoxesAt.k {K : PySem.W.Frag} {H H' : Hp} {xs : List V} {bs : List OB} (h : BoxesAt K H xs bs) (s : Same H H') : BoxesAt K H' xs bs := ⟨h.1, fun i v e => by
  obtain ⟨b, hb, q, rfl, hq⟩ := h.2 i v e
  exact ⟨b, hb, q, rfl, sameT s hq⟩⟩
def OLoop (K : PySem.W.Frag) (H : Hp) (v : V) (l : List OB) : Prop := ∃ q ys t, v = .ref q ∧ Kd.Is K t H q ys ∧ BoxesAt K H ys l
def OTown (K : PySem.W.Frag) (H : Hp) (x : V) (ls : List (List OB)) : Prop := ∃ p xs t, x = .ref p ∧ Kd.Is K t H p xs ∧ xs.length = ls.length ∧ ∀ (i : Nat) v, xs[i]? = some v → ∃ l, ls[i]? = some l ∧ OLoop K H v l
structure Shp (ls : List (List OB)) : Prop where
  l1 : 1 ≤ ls.length
  l2 : ls.length ≤ 3
  b1 : ∀ l ∈ ls, 1 ≤ l.length
  b2 : ∀ l ∈ ls, l.length ≤ 10
  fl : FlB ls.flatten
def sp_is_number (K : PySem.W.Frag) : Sp := fun vs H Q _ => ∃ x d, vs = [x] ∧ Ob K H x d ∧ ∀ H' b, Same H H' → (b = true ↔ IsN x) → Q (.bl b) H'
def sp_is_sort (K : PySem.W.Frag) : Sp := fun vs H Q _ => ∃ x, vs = [x] ∧ Fl x ∧ ∀ H' c, Same H H' → (c = true ↔ IsSt x) → Q (.bl c) H'
def sp0_has_double (K : PySem.W.Frag) : Sp := fun vs H Q _ => ∃ (p : Addr) (xs : List V) (bs : List Box), vs = [.ref p] ∧ SqL K H p xs ∧ Dts K H xs (bs.map boxD) ∧ bs.length ≤ 30 ∧ (bs.map fun b => numS b.1).Nodup ∧ ∀ H', Same H H' → Q (.bl false) H'
def sp_has_double (K : PySem.W.Frag) : Sp := fun vs H Q E => sp0_has_double K vs H Q E ∨
  (∃ (p : Addr) (xs : List V) (bs : List OB), vs = [.ref p] ∧ SqL K H p xs ∧ BoxesAt K H xs bs ∧ bs.length ≤ 30 ∧ (∀ b ∈ bs, ∃ t, b.1 = .str t) ∧ ∀ H' c, Same H H' → (c = true ↔ ¬ (bs.map (·.1)).Nodup) → Q (.bl c) H')
def sp0_are_loops (K : PySem.W.Frag) : Sp := fun vs H Q _ => ∃ (x : V) (ls : List (List Box)), vs = [x] ∧ InTown K H x ls ∧ Good ls ∧ ∀ H', Same H H' → Q (.bl true) H'
def sp_are_loops (K : PySem.W.Frag) : Sp := fun vs H Q E => sp0_are_loops K vs H Q E ∨
  (∃ (x : V) (ls : List (List OB)), vs = [x] ∧ OTown K H x ls ∧ Shp ls ∧ ∀ H', Same H H' → Q (.bl true) H')
def sp0_check_boxes (K : PySem.W.Frag) : Sp := fun vs H Q _ => ∃ (p : Addr) (xs : List V) (bs : List Box), vs = [.ref p] ∧ SqL K H p xs ∧ Dts K H xs (bs.map boxD) ∧ bs.length ≤ 30 ∧ Bs bs ∧ (bs.map fun b => numS b.1).Nodup ∧ ∀ H', Same H H' → Q .non H'
def sp_check_boxes (K : PySem.W.Frag) (CT : Addr) : Sp := fun vs H Q E => sp0_check_boxes K vs H Q E ∨
  (∃ (p : Addr) (xs : List V) (bs : List OB) (w : Str), vs = [.ref p] ∧ SqL K H p xs ∧ BoxesAt K H xs bs ∧ bs.length ≤ 30 ∧ FlB bs ∧ Bad bs w ∧ Er CT "what" E H (.str w))
def sp0_check_town (K : PySem.W.Frag) : Sp := fun vs H Q _ => ∃ (x : V) (ls : List (List Box)) (r h : Int), vs = [x, .int r, .int h] ∧ InTown K H x ls ∧ Good ls ∧ 1 ≤ r ∧ r ≤ 8 ∧ 1 ≤ h ∧ h ≤ 2 ∧ h ≤ r ∧ ∀ H', Same H H' → Q .non H'
/-- a wrong town: its boxes, or its rules -/
def TownBad (K : PySem.W.Frag) (CT : Addr) (vs : List V) (H : Hp) (E : XK) : Prop := (∃ (x y z : V) (ls : List (List OB)) (w : Str), vs = [x, y, z] ∧ OTown K H x ls ∧ Shp ls ∧ Bad ls.flatten w ∧ Er CT "what" E H (.str w)) ∨
  (∃ (x y z : V) (ls : List (List Box)) (r h : Option Int), vs = [x, y, z] ∧ InTown K H x ls ∧ Good ls ∧ Thing K H y r ∧ Thing K H z h ∧
    ((within 1 8 r = false ∧ Er CT "what" E H (.str "rounds")) ∨ (∃ i : Int, r = some i ∧ within 1 8 r = true ∧ (within 1 2 h = false ∨ ∃ j : Int, h = some j ∧ i < j) ∧ Er CT "what" E H (.str "hear"))))
def sp_check_town (K : PySem.W.Frag) (CT : Addr) : Sp := fun vs H Q E => sp0_check_town K vs H Q E ∨ TownBad K CT vs H E
def sp0_init (K : PySem.W.Frag) (C : Addr) : Sp := fun vs H Q _ => ∃ (p dx : Addr) (x : V) (ls : List (List Box)) (r h : Int), vs = [.ref p, x, .int r, .int h] ∧ H p = some (.ins C dx []) ∧ InTown K H x ls ∧ Good ls ∧ 1 ≤ r ∧ r ≤ 8 ∧ 1 ≤ h ∧ h ≤ 2 ∧ h ≤ r ∧
  ∀ H', (∀ q o, q ≠ p → H q = some o → H' q = some o) → TownAt K C H' p ls r h → Q .non H'
def sp_init (K : PySem.W.Frag) (C CT : Addr) : Sp := fun vs H Q E => sp0_init K C vs H Q E ∨ (∃ (p dx : Addr) (ws : List V), vs = .ref p :: ws ∧ ws.length = 3 ∧ H p = some (.ins C dx []) ∧ TownBad K CT ws H E)
def sp_site_of (K : PySem.W.Frag) (C CB : Addr) : Sp := fun vs H Q E => ∃ (p : Addr) (x : V) (d : PyData) (ls : List (List Box)) (r h : Int), vs = [.ref p, x] ∧ TownAt K C H p ls r h ∧ Good ls ∧ (∀ H', Same H H' → Dp K H' x d) ∧ SeqAt.shaped d = true ∧
  (∀ (i j : Nat) l b, ls[i]? = some l → l[j]? = some b → PyData.eqv (.str (numS b.1)) d = true → ∀ H' q, Same H H' → H q = none → H' q = some (.tup [.int (i : Nat), .int (j : Nat)]) → Q (.ref q) H') ∧ ((∀ b ∈ ls.flatten, PyData.eqv (.str (numS b.1)) d = false) → Er CB "number" E H x)
def sp_sort_of (K : PySem.W.Frag) (C CB : Addr) : Sp := fun vs H Q E => ∃ (p : Addr) (x : V) (d : PyData) (ls : List (List Box)) (r h : Int), vs = [.ref p, x] ∧ TownAt K C H p ls r h ∧ Good ls ∧ (∀ H', Same H H' → Dp K H' x d) ∧ SeqAt.shaped d = true ∧
  (∀ (i j : Nat) l b, ls[i]? = some l → l[j]? = some b → PyData.eqv (.str (numS b.1)) d = true → ∀ H', Same H H' → Q (.str (sortS b.2)) H') ∧ ((∀ b ∈ ls.flatten, PyData.eqv (.str (numS b.1)) d = false) → Er CB "number" E H x)
def sp_loop_of (K : PySem.W.Frag) (C CB : Addr) : Sp := fun vs H Q E => ∃ (p : Addr) (x : V) (d : PyData) (ls : List (List Box)) (r h : Int), vs = [.ref p, x] ∧ TownAt K C H p ls r h ∧ Good ls ∧ (∀ H', Same H H' → Dp K H' x d) ∧ SeqAt.shaped d = true ∧
  (∀ (i j : Nat) l b, ls[i]? = some l → l[j]? = some b → PyData.eqv (.str (numS b.1)) d = true → ∀ H', Same H H' → Q (.int (i : Nat)) H') ∧ ((∀ b ∈ ls.flatten, PyData.eqv (.str (numS b.1)) d = false) → Er CB "number" E H x)
def sp_place_of (K : PySem.W.Frag) (C CB : Addr) : Sp := fun vs H Q E => ∃ (p : Addr) (x : V) (d : PyData) (ls : List (List Box)) (r h : Int), vs = [.ref p, x] ∧ TownAt K C H p ls r h ∧ Good ls ∧ (∀ H', Same H H' → Dp K H' x d) ∧ SeqAt.shaped d = true ∧
  (∀ (i j : Nat) l b, ls[i]? = some l → l[j]? = some b → PyData.eqv (.str (numS b.1)) d = true → ∀ H', Same H H' → Q (.int (j : Nat)) H') ∧ ((∀ b ∈ ls.flatten, PyData.eqv (.str (numS b.1)) d = false) → Er CB "number" E H x)
def sp_wire (K : PySem.W.Frag) (C CL : Addr) : Sp := fun vs H Q E => ∃ (p : Addr) (x : V) (o : Option Int) (ls : List (List Box)) (r h : Int), vs = [.ref p, x] ∧ TownAt K C H p ls r h ∧ Good ls ∧ Thing K H x o ∧
  (x = .non → ∀ H' y, Same H H' → Dt K H' y (loopD ls.flatten) → Q y H') ∧ (∀ (i : Nat) l, o = some (i : Int) → ls[i]? = some l → ∀ H' y, Same H H' → Dt K H' y (loopD l) → Q y H') ∧
  (x ≠ .non → (∀ i : Nat, o = some (i : Int) → ls.length ≤ i) → Er CL "loop" E H x)
def sp_eq (K : PySem.W.Frag) (C : Addr) : Sp := fun vs H Q _ => ∃ (p : Addr) (y : V) (ls : List (List Box)) (r h : Int), vs = [.ref p, y] ∧ TownAt K C H p ls r h ∧ Good ls ∧
  ((∃ (p2 : Addr) (ls2 : List (List Box)) (r2 h2 : Int), y = .ref p2 ∧ TownAt K C H p2 ls2 r2 h2 ∧ Good ls2 ∧ Q (.bl (PyData.eqv (townD ls) (townD ls2) && (decide (V.int r = V.int r2) && decide (V.int h = V.int h2)))) H) ∨
    ∃ (q : Addr) (xs : List V), y = .ref q ∧ SqT K H q xs ∧ Q (.bl false) H)
def sp_bag (K : PySem.W.Frag) : Sp := fun vs H Q _ => ∃ (a : Addr) (ns : List Int), vs = [.ref a] ∧ SqL K H a (ns.map V.int) ∧ ns.length ≤ 63 ∧ ∀ H' b, Same H H' → Bag H' b 0 → Q (.ref b) H'
def sp_draw (K : PySem.W.Frag) : Sp := fun vs H Q _ => ∃ (b : Addr) (n : Nat) (lim : Int), vs = [.ref b, .int lim] ∧ 0 < lim ∧ lim < 2 ^ 100 ∧ Bag H b n ∧ n ≤ 1000000 ∧
  ∀ H' d, 0 ≤ d → d < lim → Bag H' b (n + 1) → But b H H' → Q (.int d) H'
def sp_number (K : PySem.W.Frag) : Sp := fun vs H Q _ => ∃ (b : Addr) (n : Nat), vs = [.ref b] ∧ Bag H b n ∧ n ≤ 900000 ∧ ∀ H' (ds : List Nat), Num ds → Bag H' b (n + 6) → But b H H' → Q (.str (numS ds)) H'
def sp_numbers (K : PySem.W.Frag) : Sp := fun vs H Q _ => ∃ (b : Addr) (n many : Nat), vs = [.ref b, .int (many : Nat)] ∧ many ≤ 40 ∧ Bag H b n ∧ n ≤ 800000 ∧
  ∀ H' p (dss : List (List Nat)), dss.length = many → (∀ ds ∈ dss, Num ds) → (dss.map numS).Nodup → H p = none → H' p = some (.lst ((dss.map numS).map V.str)) → Bag H' b (n + 6 * many) → But b H H' → Q (.ref p) H'
def sp_rules (K : PySem.W.Frag) : Sp := fun vs H Q _ => ∃ (b : Addr) (n : Nat), vs = [.ref b] ∧ Bag H b n ∧ n ≤ 900000 ∧
  ∀ H' p (r h : Int), 1 ≤ r → r ≤ 8 → 1 ≤ h → h ≤ 2 → h ≤ r → H p = none → H' p = some (.lst [.int r, .int h]) → Bag H' b (n + 2) → But b H H' → Q (.ref p) H'
def sp_told (K : PySem.W.Frag) : Sp := fun vs H Q _ => ∃ (p : Addr) (xs : List V) (ls : List (List Box)), vs = [.ref p] ∧ SqL K H p xs ∧ xs.length = ls.length ∧ (∀ (i : Nat) v, xs[i]? = some v → ∃ l, ls[i]? = some l ∧ LoopIn K H v l) ∧ ls.length ≤ 100 ∧ ∀ H' y, Same H H' → Dt K H' y (townD ls) → Q y H'
/-- a new list of tuples -/
def NewLoop (K : PySem.W.Frag) (H H' : Hp) (v : V) (l : List Box) : Prop := ∃ q ys, v = .ref q ∧ H q = none ∧ H' q = some (.lst ys) ∧ Dts K H' ys (l.map boxD)
def sp_loops (K : PySem.W.Frag) : Sp := fun vs H Q _ => ∃ (b : Addr) (n : Nat), vs = [.ref b] ∧ Bag H b n ∧ n ≤ 700000 ∧
  ∀ H' p (xs : List V) (ls : List (List Box)), Good ls → H p = none → H' p = some (.lst xs) → xs.length = ls.length → (∀ (i : Nat) v, xs[i]? = some v → ∃ l, ls[i]? = some l ∧ NewLoop K H H' v l) → Bag H' b (n + 400) → But b H H' → Q (.ref p) H'
def LsAt (K : PySem.W.Frag) (H : Hp) (q : Addr) (ls : List (List Box)) : Prop := ∃ xs, H q = some (.lst xs) ∧ xs.length = ls.length ∧ ∀ (i : Nat) v, xs[i]? = some v → ∃ l, ls[i]? = some l ∧ ∃ q2 ys, v = .ref q2 ∧ H q2 = some (.lst ys) ∧ Dts K H ys (l.map boxD)
structure Rul (r h : Int) : Prop where
  r1 : 1 ≤ r
  r8 : r ≤ 8
  h1 : 1 ≤ h
  h2 : h ≤ 2
  hr : h ≤ r
def toOB (b : Box) : OB := (.str (numS b.1), .str (sortS b.2))
/-- the boxes with this one at i, j -/
def setO (ls : List (List Box)) (i j : Nat) (l : List Box) (b : OB) : List (List OB) := (ls.map fun m => m.map toOB).set i ((l.map toOB).set j b)
def sp_with_box (K : PySem.W.Frag) (C CB CT : Addr) : Sp := fun vs H Q E => ∃ (p : Addr) (x : V) (d : PyData) (q : Addr) (ls : List (List Box)) (r h : Int) (n s : V), vs = [.ref p, x, .ref q] ∧ TownAt K C H p ls r h ∧ Good ls ∧ Rul r h ∧ (∀ H', Same H H' → Dp K H' x d) ∧ SeqAt.shaped d = true ∧ SqT K H q [n, s] ∧ Fl n ∧ Fl s ∧
  ((∀ b ∈ ls.flatten, PyData.eqv (.str (numS b.1)) d = false) → Er CB "number" E H x) ∧
  (∀ (i j : Nat) l b, ls[i]? = some l → l[j]? = some b → PyData.eqv (.str (numS b.1)) d = true →
    (∃ b' : Box, n = .str (numS b'.1) ∧ s = .str (sortS b'.2) ∧ Good (ls.set i (l.set j b')) ∧ ∀ H' p2, Same H H' → H p2 = none → TownAt K C H' p2 (ls.set i (l.set j b')) r h → Q (.ref p2) H') ∨
    (∃ w, Bad (setO ls i j l (n, s)).flatten w ∧ Er CT "what" E H (.str w)))
def sp_with_sort (K : PySem.W.Frag) (C CB CT : Addr) : Sp := fun vs H Q E => ∃ (p : Addr) (x : V) (d : PyData) (ls : List (List Box)) (r h : Int) (s : V), vs = [.ref p, x, s] ∧ TownAt K C H p ls r h ∧ Good ls ∧ Rul r h ∧ (∀ H', Same H H' → Dp K H' x d) ∧ SeqAt.shaped d = true ∧ Fl x ∧ Fl s ∧
  ((∀ b ∈ ls.flatten, PyData.eqv (.str (numS b.1)) d = false) → Er CB "number" E H x) ∧
  (∀ (i j : Nat) l b, ls[i]? = some l → l[j]? = some b → PyData.eqv (.str (numS b.1)) d = true →
    (∃ b' : Box, x = .str (numS b'.1) ∧ s = .str (sortS b'.2) ∧ Good (ls.set i (l.set j b')) ∧ ∀ H' p2, Same H H' → H p2 = none → TownAt K C H' p2 (ls.set i (l.set j b')) r h → Q (.ref p2) H') ∨
    (∃ w, Bad (setO ls i j l (x, s)).flatten w ∧ Er CT "what" E H (.str w)))
def sp_with_number (K : PySem.W.Frag) (C CB CT : Addr) : Sp := fun vs H Q E => ∃ (p : Addr) (x : V) (d : PyData) (ls : List (List Box)) (r h : Int) (n : V), vs = [.ref p, x, n] ∧ TownAt K C H p ls r h ∧ Good ls ∧ Rul r h ∧ (∀ H', Same H H' → Dp K H' x d) ∧ SeqAt.shaped d = true ∧ Fl n ∧
  ((∀ b ∈ ls.flatten, PyData.eqv (.str (numS b.1)) d = false) → Er CB "number" E H x) ∧
  (∀ (i j : Nat) l b, ls[i]? = some l → l[j]? = some b → PyData.eqv (.str (numS b.1)) d = true →
    (∃ b' : Box, n = .str (numS b'.1) ∧ b.2 = b'.2 ∧ Good (ls.set i (l.set j b')) ∧ ∀ H' p2, Same H H' → H p2 = none → TownAt K C H' p2 (ls.set i (l.set j b')) r h → Q (.ref p2) H') ∨
    (∃ w, Bad (setO ls i j l (n, .str (sortS b.2))).flatten w ∧ Er CT "what" E H (.str w)))
/-- a rule given, or left as it is -/
def Giv (y : V) (r : Int) (y' : V) : Prop := (y = .non ∧ y' = .int r) ∨ (y ≠ .non ∧ y' = y)
def sp_with_rules (K : PySem.W.Frag) (C CT : Addr) : Sp := fun vs H Q E => ∃ (p : Addr) (ls : List (List Box)) (r h : Int) (y z y' z' : V) (o u : Option Int), vs = [.ref p, y, z] ∧ TownAt K C H p ls r h ∧ Good ls ∧ Rul r h ∧ Giv y r y' ∧ Giv z h z' ∧ Fl y' ∧ Fl z' ∧ Thing K H y' o ∧ Thing K H z' u ∧
  ((∃ i j : Int, y' = .int i ∧ z' = .int j ∧ Rul i j ∧ ∀ H' p2, Same H H' → H p2 = none → TownAt K C H' p2 ls i j → Q (.ref p2) H') ∨
   (within 1 8 o = false ∧ Er CT "what" E H (.str "rounds")) ∨ (∃ i : Int, o = some i ∧ within 1 8 o = true ∧ (within 1 2 u = false ∨ ∃ j : Int, u = some j ∧ i < j) ∧ Er CT "what" E H (.str "hear")))
/-- a list of lists of boxes that are not the bag -/
def LsO (K : PySem.W.Frag) (b : Addr) (H : Hp) (q : Addr) (ls : List (List Box)) : Prop := ∃ xs, q ≠ b ∧ H q = some (.lst xs) ∧ xs.length = ls.length ∧ ∀ (i : Nat) v, xs[i]? = some v → ∃ l, ls[i]? = some l ∧ ∃ q2 ys, v = .ref q2 ∧ q2 ≠ b ∧ H q2 = some (.lst ys) ∧ Dts K H ys (l.map boxD)
/-- new lists -/
def LsN (K : PySem.W.Frag) (H H' : Hp) (q : Addr) (ls : List (List Box)) : Prop := ∃ xs, H q = none ∧ H' q = some (.lst xs) ∧ xs.length = ls.length ∧ ∀ (i : Nat) v, xs[i]? = some v → ∃ l, ls[i]? = some l ∧ NewLoop K H H' v l
def wh : V → Option Int
  | .int i => some i
  | _ => none
/-- a flat thing as data -/
def dV : V → PyData
  | .int i => .int i
  | .bl b => .bool b
  | .str t => .str t
  | _ => .none
def IsChg (c : Str) : Prop := c = "sort" ∨ c = "number" ∨ c = "rules"
def subst (ls : List (List Box)) (t : Str) (c : Box) : List (List Box) := ls.map fun l => l.map fun b => if numS b.1 = t then c else b
/-- what a change comes to -/
inductive Out8
  | none (x : V)
  | bad (w : Str)
  | loops (ls : List (List Box))
  | rules (i j : Int)
inductive RO (x y : V) : Out8 → Prop
  | rounds : within 1 8 (wh x) = false → RO x y (.bad "rounds")
  | hear {i : Int} : wh x = some i → within 1 8 (wh x) = true → (within 1 2 (wh y) = false ∨ ∃ j : Int, wh y = some j ∧ i < j) → RO x y (.bad "hear")
  | ok {i j : Int} : x = .int i → y = .int j → Rul i j → RO x y (.rules i j)
inductive DO (c : Str) (x y : V) (ls : List (List Box)) (r h : Int) : Out8 → Prop
  | rules {x' y' : V} {o : Out8} : c = "rules" → Giv x r x' → Giv y h y' → Fl x' → Fl y' → RO x' y' o → DO c x y ls r h o
  | none : c = "sort" ∨ c = "number" → (∀ b ∈ ls.flatten, PyData.eqv (.str (numS b.1)) (dV x) = false) → DO c x y ls r h (.none x)
  | badsort {i j : Nat} {l : List Box} {b : Box} : c = "sort" → ls[i]? = some l → l[j]? = some b → x = .str (numS b.1) → ¬ IsSt y → DO c x y ls r h (.bad "sort")
  | sort {i j : Nat} {l : List Box} {b : Box} {s : Bool} : c = "sort" → ls[i]? = some l → l[j]? = some b → x = .str (numS b.1) → y = .str (sortS s) → DO c x y ls r h (.loops (ls.set i (l.set j (b.1, s))))
  | badnum {i j : Nat} {l : List Box} {b : Box} : c = "number" → ls[i]? = some l → l[j]? = some b → x = .str (numS b.1) → ¬ IsN y → DO c x y ls r h (.bad "number")
  | double {i j : Nat} {l : List Box} {b : Box} {ds : List Nat} : c = "number" → ls[i]? = some l → l[j]? = some b → x = .str (numS b.1) → Num ds → y = .str (numS ds) → numS ds ≠ numS b.1 → numS ds ∈ ls.flatten.map (fun b => numS b.1) → DO c x y ls r h (.bad "double")
  | number {i j : Nat} {l : List Box} {b : Box} {ds : List Nat} : c = "number" → ls[i]? = some l → l[j]? = some b → x = .str (numS b.1) → Num ds → y = .str (numS ds) → (numS ds = numS b.1 ∨ numS ds ∉ ls.flatten.map (fun b => numS b.1)) → DO c x y ls r h (.loops (ls.set i (l.set j (ds, b.2))))
/-- the law's own answer -/
def ToldO (K : PySem.W.Frag) (H H' : Hp) (u : Addr) : Out8 → Prop
  | .none x => H' u = some (.tup [.str "none", .str (PyData.shown (dV x))])
  | .bad w => H' u = some (.tup [.str "bad", .str w])
  | .loops ls => ∃ p, H' u = some (.tup [.str "loops", .ref p]) ∧ LsN K H H' p ls
  | .rules i j => ∃ t, H' u = some (.tup [.str "rules", .ref t]) ∧ H t = none ∧ H' t = some (.lst [.int i, .int j])
/-- the program's -/
def DoneO (K : PySem.W.Frag) (C : Addr) (H' : Hp) (u : Addr) (ls : List (List Box)) (r h : Int) : Out8 → Prop
  | .none x => H' u = some (.tup [.str "none", .str (PyData.shown (dV x))])
  | .bad w => H' u = some (.tup [.str "bad", .str w])
  | .loops ls2 => ∃ p, H' u = some (.tup [.str "town", .ref p]) ∧ TownAt K C H' p ls2 r h
  | .rules i j => ∃ p, H' u = some (.tup [.str "town", .ref p]) ∧ TownAt K C H' p ls i j
def sp_whole (_ : PySem.W.Frag) : Sp := fun vs H Q _ => ∃ x, vs = [x] ∧ Fl x ∧ Q (.bl (wh x).isSome) H
def sp_names (K : PySem.W.Frag) : Sp := fun vs H Q _ => ∃ (q : Addr) (ls : List (List Box)), vs = [.ref q] ∧ LsAt K H q ls ∧ Good ls ∧ ∀ H' p, Same H H' → H p = none → H' p = some (.lst (ls.flatten.map numV)) → Q (.ref p) H'
def sp_number_of (K : PySem.W.Frag) : Sp := fun vs H Q _ => ∃ (b : Addr) (n : Nat) (q : Addr) (ls : List (List Box)), vs = [.ref b, .ref q] ∧ Bag H b n ∧ n ≤ 800000 ∧ LsO K b H q ls ∧ Good ls ∧ ∀ H' x, Fl x → Bag H' b (n + 8) → But b H H' → Q x H'
def sp_change (K : PySem.W.Frag) : Sp := fun vs H Q _ => ∃ (b : Addr) (n : Nat) (q : Addr) (ls : List (List Box)), vs = [.ref b, .ref q] ∧ Bag H b n ∧ n ≤ 700000 ∧ LsO K b H q ls ∧ Good ls ∧
  ∀ H' p c x y, IsChg c → Fl x → Fl y → H p = none → H' p = some (.lst [.str c, x, y]) → Bag H' b (n + 40) → But b H H' → Q (.ref p) H'
def sp_wis_number (_ : PySem.W.Frag) : Sp := fun vs H Q _ => ∃ x, vs = [x] ∧ Fl x ∧ ∀ H' c, Same H H' → (c = true ↔ IsN x) → Q (.bl c) H'
def sp_with (K : PySem.W.Frag) : Sp := fun vs H Q _ => ∃ (q : Addr) (ls : List (List Box)) (t : Str) (p2 : Addr) (c : Box), vs = [.ref q, .str t, .ref p2] ∧ LsAt K H q ls ∧ Good ls ∧ SqT K H p2 [.str (numS c.1), .str (sortS c.2)] ∧ ∀ H' p, Same H H' → LsN K H H' p (subst ls t c) → Q (.ref p) H'
def sp_rules_due (K : PySem.W.Frag) : Sp := fun vs H Q _ => ∃ (p t : Addr) (c : Str) (x y : V) (r h : Int), vs = [.ref p, .ref t] ∧ H p = some (.lst [.str c, x, y]) ∧ Fl x ∧ Fl y ∧ H t = some (.lst [.int r, .int h]) ∧ Rul r h ∧
  ∀ H' u x' y' o, Same H H' → Giv x r x' → Giv y h y' → Fl x' → Fl y' → RO x' y' o → ToldO K H H' u o → H u = none → Q (.ref u) H'
def sp_due (K : PySem.W.Frag) : Sp := fun vs H Q _ => ∃ (p q t : Addr) (c : Str) (x y : V) (ls : List (List Box)) (r h : Int), vs = [.ref p, .ref q, .ref t] ∧ H p = some (.lst [.str c, x, y]) ∧ IsChg c ∧ Fl x ∧ Fl y ∧ LsAt K H q ls ∧ Good ls ∧ H t = some (.lst [.int r, .int h]) ∧ Rul r h ∧
  ∀ H' u o, Same H H' → DO c x y ls r h o → ToldO K H H' u o → H u = none → Q (.ref u) H'
def sp_done (K : PySem.W.Frag) (C : Addr) : Sp := fun vs H Q _ => ∃ (p g : Addr) (c : Str) (x y : V) (ls : List (List Box)) (r h : Int) (o : Out8), vs = [.ref p, .ref g] ∧ TownAt K C H p ls r h ∧ Good ls ∧ Rul r h ∧ H g = some (.lst [.str c, x, y]) ∧ IsChg c ∧ Fl x ∧ Fl y ∧ DO c x y ls r h o ∧
  ∀ H' u, Same H H' → DoneO K C H' u ls r h o → Q (.ref u) H'
def sp_boxes_told (K : PySem.W.Frag) (C : Addr) : Sp := fun vs H Q _ => ∃ (p q : Addr) (ls : List (List Box)) (r h : Int), vs = [.ref p, .ref q] ∧ TownAt K C H p ls r h ∧ Good ls ∧ LsAt K H q ls ∧ ∀ H', Same H H' → Q (.bl true) H'
def sp_is (K : PySem.W.Frag) (C : Addr) : Sp := fun vs H Q _ => ∃ (p q t : Addr) (ls : List (List Box)) (r h : Int), vs = [.ref p, .ref q, .ref t] ∧ TownAt K C H p ls r h ∧ Good ls ∧ Rul r h ∧ LsAt K H q ls ∧ H t = some (.lst [.int r, .int h]) ∧ ∀ H', Same H H' → Q (.bl true) H'
def sp_law (K : PySem.W.Frag) : Sp := fun vs H Q _ => ∃ (a : Addr) (ns : List Int), vs = [.ref a] ∧ SqL K H a (ns.map V.int) ∧ ns.length ≤ 63 ∧ ∀ H', Q (.bl true) H'
end K08

namespace K08
open PySem L2 Wm TL Dv
section
variable {P : Program} {w : World} {K : PySem.W.Frag} {mg : Str → Option Value} {base : Heap}
theorem tyT {H : Hp} {p : Addr} {xs : List V} (h : SqT K H p xs) : TyX K H (.ref p) (.type "tuple") := by
  rcases h with (h | ⟨o, h⟩) | ⟨o, its, n, e, c, _⟩
  · exact .base (.tup h)
  · exact .fTuple h
  · exact .kTuple e c
theorem box_inv {H : Hp} {x : V} {b : Box} (h : Dt K H x (boxD b)) : ∃ p, x = .ref p ∧ SqT K H p [.str (numS b.1), .str (sortS b.2)] := by
  obtain ⟨p, xs, rfl, hS, hd⟩ := h.inv
  cases hd with
  | cons a r =>
    cases r with
    | cons b2 r =>
      cases r
      rw [a.str_inv, b2.str_inv] at hS
      exact ⟨p, rfl, hS⟩
theorem tyL {H : Hp} {p : Addr} {xs : List V} (h : SqL K H p xs) : TyX K H (.ref p) (.type "list") := by
  rcases h with (h | ⟨o, h⟩) | ⟨o, its, n, e, c, _⟩
  · exact .base (.lst h)
  · exact .base (.frz h)
  · exact .kList e c
theorem ok_is_whole (T : Txt K mg) : FnOk P w K mg base CX0 1 T.a_is_whole T.d_is_whole ["thing"] (sp_is_whole K) := by
  refine T.F_is_whole.ok sc_is_whole (fun vs H Q E h => ?_) (fun cdv A outer s H vs Q E hr h => ?_)
  · obtain ⟨x, o, rfl, _⟩ := h
    rfl
  · obtain ⟨x, o, rfl, hx, k⟩ := h
    refine ⟨_, (pss_one (ps_ret (pe_and (pe_callB call_isi (by rfl) T.z_isinstance (by decide +kernel) (pa_cons (pv 0) (pa_cons (pe_bltn (v := V.ty "int") (by rfl) T.z_int (by decide +kernel) rfl) pa_nil))) (pe_one (pe_not (pe_callB call_isi (by rfl) T.z_isinstance (by decide +kernel) (pa_cons (pv 0) (pa_cons (pe_bltn (v := V.ty "bool") (by rfl) T.z_bool (by decide +kernel) rfl) pa_nil)))))))), ?_⟩
    cases hx with
    | int i =>
      refine ⟨_, rfl, _, _, _, _, true, rfl, .ty "int", .base (.int _), kit_ty (by decide +kernel), true, rfl, iteT ?_⟩
      exact ⟨_, rfl, _, _, _, _, false, rfl, .ty "bool", .base (.int _), kit_ty (by decide +kernel), false, rfl, k⟩
    | bl b =>
      refine ⟨_, rfl, _, _, _, _, true, rfl, .ty "int", .base (.bl _), kit_ty (by decide +kernel), true, rfl, iteT ?_⟩
      exact ⟨_, rfl, _, _, _, _, true, rfl, .ty "bool", .base (.bl _), kit_ty (by decide +kernel), true, rfl, k⟩
    | str s => exact ⟨_, rfl, _, _, _, _, false, rfl, .ty "int", .base (.str _), kit_ty (by decide +kernel), false, rfl, iteF k⟩
    | non => exact ⟨_, rfl, _, _, _, _, false, rfl, .ty "int", .base .non, kit_ty (by decide +kernel), false, rfl, iteF k⟩
    | @seq p xs t h =>
      cases t with
      | true => exact ⟨_, rfl, _, _, _, _, false, rfl, .ty "int", tyT h, kit_ty (by decide +kernel), false, rfl, iteF k⟩
      | false => exact ⟨_, rfl, _, _, _, _, false, rfl, .ty "int", tyL h, kit_ty (by decide +kernel), false, rfl, iteF k⟩
theorem ok_is_whole_within (T : Txt K mg) : FnOk P w K mg base CX0 2 T.a_is_whole_within T.d_is_whole_within ["thing", "low", "high"] (sp_is_whole_within K) := by
  refine T.F_is_whole_within.ok sc_is_whole_within (fun vs H Q E h => ?_) (fun cdv A outer s H vs Q E hr h => ?_)
  · obtain ⟨x, o, lo, hi, rfl, _⟩ := h
    rfl
  · obtain ⟨x, o, lo, hi, rfl, hx, k⟩ := h
    refine ⟨_, (pss_one (ps_ret (pe_and (pe_call (ok_is_whole T) (hr.mono (by decide)) (by rfl) T.g_is_whole T.F_is_whole.kp T.b_is_whole .nil pass0 (pa_cons (pv 0) pa_nil)) (pe_one (pe_chain op_le op_le (pv 1) (pv 0) (pv 2)))))), ?_⟩
    refine ⟨_, rfl, x, o, rfl, hx, ?_⟩
    cases o with
    | none => exact ⟨false, rfl, iteF k⟩
    | some i =>
      cases hx
      refine ⟨true, rfl, iteT ?_⟩
      refine ⟨_, rfl, _, rfl, _, _, rfl, rfl, _, rfl, ?_⟩
      have k : Q (.bl (decide (lo ≤ i) && decide (i ≤ hi))) H := k
      cases e : decide (lo ≤ i) with
      | true =>
        rw [e] at k
        exact iteT ⟨_, rfl, _, _, rfl, rfl, k⟩
      | false =>
        rw [e] at k
        exact iteF k
theorem ok_is_sequence (T : Txt K mg) : FnOk P w K mg base CX0 1 T.a_is_sequence T.d_is_sequence ["thing"] (sp_is_sequence K) := by
  refine T.F_is_sequence.ok sc_is_sequence (fun vs H Q E h => ?_) (fun cdv A outer s H vs Q E hr h => ?_)
  · obtain ⟨p, xs, t, rfl, _⟩ := h
    rfl
  · obtain ⟨p, xs, t, rfl, hS, k⟩ := h
    refine ⟨_, (pss_one (ps_ret (pe_callB call_isiT (by rfl) T.z_isinstance (by decide +kernel) (pa_cons (pv 0) (pa_cons (pe_tup (pa_cons (pe_bltn (v := V.ty "list") (by rfl) T.z_list (by decide +kernel) rfl) (pa_cons (pe_bltn (v := V.ty "tuple") (by rfl) T.z_tuple (by decide +kernel) rfl) pa_nil))) pa_nil))))), ?_⟩
    refine ⟨_, rfl, by show 2 ≤ sizeLine; decide, fun t2 ht => ?_⟩
    have s1 : Same H (upd H t2 (.tup [.ty "list", .ty "tuple"])) := same_new ht
    cases t with
    | true =>
      refine ⟨_, t2, _, _, _, true, rfl, upd_same, .cons (.ty "list") (.cons (.ty "tuple") .nil), tyT (sameT s1 hS), kitAny_cons (b := false) (kit_ty (by decide +kernel)) (fun _ => kitAny_cons (b := true) (kit_ty (by decide +kernel)) (fun z => by cases z) (fun _ => rfl)) (fun z => by cases z), ?_⟩
      exact k _ s1
    | false =>
      refine ⟨_, t2, _, _, _, true, rfl, upd_same, .cons (.ty "list") (.cons (.ty "tuple") .nil), tyL (Hf.keepL s1 hS), kitAny_cons (b := true) (kit_ty (by decide +kernel)) (fun z => by cases z) (fun _ => rfl), ?_⟩
      exact k _ s1
theorem inV_st {x : V} (f : Fl x) : inV x [V.str "plain", V.str "shy"] = true ↔ IsSt x := by
  unfold IsSt
  cases f with
  | int h => exact ⟨fun z => Bool.noConfusion (z : false = true), fun z => by rcases z with z | z <;> cases z⟩
  | bl b => exact ⟨fun z => Bool.noConfusion (z : false = true), fun z => by rcases z with z | z <;> cases z⟩
  | non => exact ⟨fun z => Bool.noConfusion (z : false = true), fun z => by rcases z with z | z <;> cases z⟩
  | @str t h =>
    have e : inV (.str t) [V.str "plain", V.str "shy"] = ((("plain" : Str) == t) || ((("shy" : Str) == t) || false)) := rfl
    rw [e, Bool.or_false, Bool.or_eq_true, beq_iff_eq, beq_iff_eq]
    exact ⟨fun z => z.elim (fun z => .inl (by rw [z])) (fun z => .inr (by rw [z])), fun z => z.elim (fun z => .inl (V.str.inj z).symm) (fun z => .inr (V.str.inj z).symm)⟩
theorem ok_is_sort (T : Txt K mg) : FnOk P w K mg base CX0 1 T.a_is_sort T.d_is_sort ["thing"] (sp_is_sort K) := by
  refine T.F_is_sort.ok sc_is_sort (fun vs H Q E h => ?_) (fun cdv A outer s H vs Q E hr h => ?_)
  · obtain ⟨x, rfl, _⟩ := h
    rfl
  · obtain ⟨x, rfl, fx, k⟩ := h
    refine ⟨_, (pss_one (ps_ret (pe_cmpR op_in_seq (pv 0) (pe_tup (pa_cons (ClX.pe_cval (pe_glob (v := V.ref T.C) rfl T.gC rfl)) (pa_cons (ClX.pe_cval (pe_glob (v := V.ref T.C) rfl T.gC rfl)) pa_nil))) rfl))), ?_⟩
    refine ⟨_, rfl, T.C, T.mc, _, _, rfl, T.rd, T.vP, T.C, T.mc, _, _, rfl, T.rd, T.vS, by show 2 ≤ sizeLine; decide, fun t ht => ?_⟩
    refine ⟨t, _, rfl, .inr (SqT.of upd_same), fx.flat, rfl, ?_⟩
    show Q (V.bl (if false = true then _ else inV x [V.str "plain", V.str "shy"])) _
    rw [if_neg (by decide)]
    exact k _ _ (same_new ht) (inV_st fx)
end
end K08

namespace K08
open PySem L2 Wm TL Dv
section
variable {P : Program} {w : World} {K : PySem.W.Frag} {mg : Str → Option Value} {base : Heap}
theorem small_len {n : Nat} (h : n ≤ 100000) : n ≤ sizeLine := by
  have : (100000 : Nat) ≤ sizeLine := by decide
  omega
theorem sum_cast : ∀ ds : List Nat, (ds.map fun (d : Nat) => (d : Int)).sum = ((ds.sum : Nat) : Int)
  | [] => rfl
  | d :: ds => by
    rw [List.map_cons, List.sum_cons, List.sum_cons, sum_cast ds]
    omega
def letters (t : Str) : List Bool := (tl t).map fun c => decide (c ∈ ("123456789" : Str).cps.toList)
theorem letters_all {t : Str} : (letters t).all id = true ↔ ∀ c ∈ tl t, c ∈ ("123456789" : Str).cps.toList := by
  unfold letters
  rw [List.all_map, List.all_eq_true]
  constructor
  · intro h c m
    exact of_decide_eq_true (h c m)
  · intro h c m
    exact decide_eq_true (h c m)
theorem cps_at {t : Str} {i c : Nat} (h : t.cps[i]? = some c) : (tl t)[i]? = some c := by
  rw [← h]
  exact Array.getElem?_toList ..
theorem ok_is_number (T : Txt K mg) : FnOk P w K mg base CX0 1 T.a_is_number T.d_is_number ["thing"] (sp_is_number K) := by
  refine T.F_is_number.ok sc_is_number (fun vs H Q E h => ?_) (fun cdv A outer s H vs Q E hr h => ?_)
  · obtain ⟨x, d, rfl, _⟩ := h
    rfl
  · obtain ⟨x, d, rfl, ob, kx⟩ := h
    obtain ⟨n, b0, ty, k1, k2, k3⟩ := tys_of ob
    refine ⟨_, (pss_cons (ps_if (PW.pt (pw_or (pt_not (pt_val (pe_callB call_isi (by rfl) T.z_isinstance (by decide +kernel) (pa_cons (pv 0) (pa_cons (pe_bltn (v := V.ty "str") (by rfl) T.z_str (by decide +kernel) rfl) pa_nil))))) (pw_or1 (pt_not (pt_chain op_le op_le pe_int (pe_callB call_len_str (by rfl) T.z_len PySem.boot_len (pa_cons (pv 0) pa_nil)) (pe_glob (v := V.int 4) rfl T.c_MOST_DIGITS ⟨_, rfl⟩))))))
        (pss_one (ps_ret pe_bl))
        pss_nil)
      (pss_cons (ps_if (pt_not (pt_val (pe_callB (cr_all rfl) (by rfl) T.z_all (by decide +kernel) (pa_cons (pe_lc (own := [("letter", 1)]) (g := gName 1) (tt := tYes) rfl sc_is_number.nd (pi_str (pv 0)) (blkOk_by (own := [("letter", 1)]) (N := nm_is_number) (sc := (defScope s_is_number)) (by decide +kernel)) (fun _ _ _ _ _ => pg_name (i := 1) sc_is_number.nd rfl (Or.inl rfl)) (fun _ _ _ _ _ => pts_nil) (fun _ _ _ _ _ => (pe_cmpR op_in_sign (pv 1) (pe_glob (v := V.str "123456789") rfl T.c_DIGITS ⟨_, rfl⟩) rfl))) pa_nil))))
        (pss_one (ps_ret pe_bl))
        pss_nil)
      (pss_one (ps_ret (pe_cmpR op_le (pe_callB (cr_sum rfl) (by rfl) T.z_sum (by decide +kernel) (pa_cons (pe_lc (own := [("letter", 1)]) (g := gName 1) (tt := tYes) rfl sc_is_number.nd (pi_str (pv 0)) (blkOk_by (own := [("letter", 1)]) (N := nm_is_number) (sc := (defScope s_is_number)) (by decide +kernel)) (fun _ _ _ _ _ => pg_name (i := 1) sc_is_number.nd rfl (Or.inl rfl)) (fun _ _ _ _ _ => pts_nil) (fun _ _ _ _ _ => (pe_callTy call_int_str (by rfl) T.z_int (by decide +kernel) (pa_cons (pv 1) pa_nil)))) pa_nil)) (pe_glob (v := V.int 24) rfl T.c_GREATEST_SUM ⟨_, rfl⟩) (nomark _)))))), ?_⟩
    refine ⟨_, rfl, _, _, _, _, b0, rfl, .ty "str", ty, k1, b0, rfl, ?_⟩
    cases b0 with
    | false =>
      refine iteT ?_
      refine iteT ?_
      exact kx _ _ (Same.refl _) ⟨fun z => (by cases z), fun z => absurd z (k3 rfl)⟩
    | true =>
    refine iteF ?_
    obtain ⟨t, rfl, _, tx⟩ := k2 rfl
    have hz : t.length ≤ 100000 := Nat.le_trans tx.len (by decide)
    have k : ∀ H' b, Same H H' → (b = true ↔ IsNum t) → Q (.bl b) H' := fun H' b s e => kx H' b s (e.trans isN_str.symm)
    have hl : t.length = (tl t).length := len_tl t
    have numlen : IsNum t → 1 ≤ t.length ∧ t.length ≤ 4 := fun ⟨ds, N, e⟩ => by
      rw [e, numS_len]
      exact ⟨N.pos, N.len⟩
    refine ⟨_, rfl, _, rfl, small_len hz, _, _, rfl, rfl, _, rfl, ?_⟩
    refine ite2 (fun c1 => ?_) (fun c1 => ?_)
    case refine_2 =>
      have c1' : ¬ (1 : Int) ≤ (t.length : Nat) := fun z => c1 (decide_eq_true z)
      refine ⟨false, rfl, iteT ?_⟩
      exact k _ _ (Same.refl _) ⟨fun z => (by cases z), fun z => absurd (numlen z).1 (by omega)⟩
    have c1' : (1 : Int) ≤ (t.length : Nat) := of_decide_eq_true c1
    refine ⟨_, _, rfl, rfl, _, rfl, ?_⟩
    by_cases c2 : ((t.length : Nat) : Int) ≤ 4
    case neg =>
      rw [decide_eq_false c2]
      refine iteT ?_
      exact k _ _ (Same.refl _) ⟨fun z => (by cases z), fun z => absurd (numlen z).2 (by omega)⟩
    rw [decide_eq_true c2]
    refine iteF ?_
    refine ⟨_, rfl, _, rfl, fun D hD => ?_⟩
    have hsz : t.cps.size = (tl t).length := hl
    refine lc_it walk_str (fun i H' => Same H H' ∧ H' D = some (.lst (((letters t).take i).map V.bl))) ⟨same_new hD, upd_same⟩ (fun _ _ _ _ => trivial) (fun i x H1 H' hi hP hY => ?_) (fun H1 hP => ?_)
    · obtain ⟨sm, hL⟩ := hP
      obtain ⟨rfl, c, hc, rfl⟩ := hY
      have hc2 : (letters t)[i]? = some (decide (c ∈ ("123456789" : Str).cps.toList)) := by
        unfold letters
        rw [List.getElem?_map, cps_at hc]
        rfl
      refine ⟨rfl, yesT ?_⟩
      refine ⟨_, rfl, _, _, rfl, rfl, _, hL, by rw [List.length_map, List.length_take]; exact small1000 (by omega), ?_⟩
      refine ⟨same_mut sm hD, ?_⟩
      rw [upd_same, take_succ_map _ hc2]
    · obtain ⟨sm, hL⟩ := hP
      have ell : (letters t).length = t.cps.size := by unfold letters; rw [List.length_map, hsz]
      rw [← ell, List.take_length] at hL
      refine ⟨D, letters t, rfl, SqL.of hL, _, rfl, ?_⟩
      by_cases c3 : (letters t).all id = true
      case neg =>
        rw [Bool.not_eq_true] at c3
        rw [c3]
        refine iteT ?_
        refine k _ _ sm ⟨fun z => (by cases z), fun ⟨ds, N, e⟩ => ?_⟩
        have q := letters_all.mpr (by rw [e]; exact num_codes N.dig : ∀ c ∈ tl t, c ∈ ("123456789" : Str).cps.toList)
        rw [c3] at q
        cases q
      rw [c3]
      refine iteF ?_
      obtain ⟨ds, dig, et⟩ := dig_text t (letters_all.mp c3)
      subst et
      rw [numS_len] at c1' c2
      refine ⟨_, rfl, _, rfl, fun D2 hD2 => ?_⟩
      refine lc_it walk_str (fun i H' => Same H H' ∧ H' D2 = some (.lst ((ds.take i).map fun (d : Nat) => V.int (d : Int)))) ⟨sm.trans (same_new hD2), upd_same⟩ (fun _ _ _ _ => trivial) (fun i x H2 H' hi hP hY => ?_) (fun H2 hP => ?_)
      · obtain ⟨sm2, hl2⟩ := hP
        obtain ⟨rfl, c, hc, rfl⟩ := hY
        rw [numS_size] at hi
        rw [numS_at ds i hi] at hc
        have hc' := (Option.some.inj hc).symm
        subst hc'
        refine ⟨rfl, yesT ?_⟩
        refine ⟨_, rfl, _, _, rfl, dig_int (dig _ (List.getElem_mem hi)), (by show 1 ≤ 640; decide), _, hl2, by rw [List.length_map, List.length_take]; exact small1000 (by omega), ?_⟩
        refine ⟨same_mut sm2 (sm.free hD2), ?_⟩
        rw [upd_same, take_succ_map _ (List.getElem?_eq_getElem hi)]
      · obtain ⟨sm2, hl2⟩ := hP
        rw [numS_size, List.take_length] at hl2
        refine ⟨D2, ds.map fun (d : Nat) => (d : Int), rfl, SqL.of (by rw [hl2, List.map_map]; rfl), _, _, rfl, rfl, ?_⟩
        rw [sum_cast]
        refine k _ _ sm2 ?_
        rw [isnum_dig]
        constructor
        · intro z
          have z' : ((ds.sum : Nat) : Int) ≤ 24 := of_decide_eq_true z
          exact ⟨by omega, by omega, dig, by omega⟩
        · intro N
          exact decide_eq_true (show ((ds.sum : Nat) : Int) ≤ 24 by have := N.sum; omega)
end
end K08

namespace K08
open PySem L2 Wm TL Dv
section
variable {P : Program} {w : World} {K : PySem.W.Frag} {mg : Str → Option Value} {base : Heap}
theorem all_true {H : Hp} {D : Addr} {ys : List V} (hy : H D = some (.lst ys)) (hR : ∀ (i : Nat) y, ys[i]? = some y → y = V.bl true) : SqL K H D ((ys.map fun _ => true).map V.bl) := by
  refine SqL.of ?_
  rw [hy, List.map_map, show ys = ys.map (V.bl ∘ fun _ => true) from Lm.list_is (by rw [List.length_map]) fun i y e => by rw [List.getElem?_map, e, hR i y e]; rfl]
  simp
theorem all_id (ys : List V) : (ys.map fun _ => true).all id = true := by simp
theorem cnt_nodup {xs : List Str} {c : Nat} (h : Sl.Cnt xs xs.length c) (nd : xs.Nodup) : c = xs.length := h.2.mpr (by rw [List.take_length]; exact nd)
theorem boxes_at {H : Hp} {xs : List V} {bs : List Box} {i : Nat} {x : V} (h : Dts K H xs (bs.map boxD)) (hx : xs[i]? = some x) : ∃ b, bs[i]? = some b ∧ Dt K H x (boxD b) := by
  obtain ⟨d, hd, a⟩ := h.at hx
  rw [List.getElem?_map] at hd
  obtain ⟨b, hb, rfl⟩ := Option.map_eq_some_iff.mp hd
  exact ⟨b, hb, a⟩
theorem boxes_len {H : Hp} {xs : List V} {bs : List Box} (h : Dts K H xs (bs.map boxD)) : xs.length = bs.length := by rw [h.len, List.length_map]
theorem strs_of : ∀ {bs : List OB}, (∀ b ∈ bs, ∃ t, b.1 = .str t) → ∃ ts : List Str, bs.map (·.1) = ts.map V.str
  | [], _ => ⟨[], rfl⟩
  | b :: bs, h => by
    obtain ⟨ts, e⟩ := strs_of fun c m => h c (List.mem_cons_of_mem _ m)
    obtain ⟨t, e2⟩ := h b List.mem_cons_self
    exact ⟨t :: ts, by rw [List.map_cons, List.map_cons, e, e2]⟩
theorem nodup_str {ts : List Str} : (ts.map V.str).Nodup ↔ ts.Nodup := by
  unfold List.Nodup
  rw [List.pairwise_map]
  exact ⟨fun h => h.imp fun h e => h (by rw [e]), fun h => h.imp fun h e => h (V.str.inj e)⟩
theorem ok_has_double (T : Txt K mg) : FnOk P w K mg base CX0 1 T.a_has_double T.d_has_double ["boxes"] (sp_has_double K) := by
  refine T.F_has_double.ok sc_has_double (fun vs H Q E h => ?_) (fun cdv A outer s H vs Q E hr h => ?_)
  · rcases h with h | h
    · obtain ⟨p, xs, bs, rfl, _⟩ := h
      rfl
    · obtain ⟨p, xs, bs, rfl, _⟩ := h
      rfl
  · rcases h with h | h
    · obtain ⟨p, xs, bs, rfl, hS, hd, hl, nd, k⟩ := h
      have el := boxes_len hd
      refine ⟨_, (pss_one (ps_ret (pe_cmpR op_lt (Sl.pe_len rfl (by rfl) T.z_len (by rfl) T.z_set (pe_lc (own := [("number", 1), ("_", 2)]) (g := gTup K 2 (gCons (gName 1) (gCons (gName 2) (gNil)))) (tt := tYes) rfl sc_has_double.nd (pi_list (pv 0)) (blkOk_by (own := [("number", 1), ("_", 2)]) (N := nm_has_double) (sc := (defScope s_has_double)) (by decide +kernel)) (fun _ _ _ _ _ => (pg_tup rfl (pgs_cons (pg_name (i := 1) sc_has_double.nd rfl (Or.inl rfl)) (pgs_cons (pg_name (i := 2) sc_has_double.nd rfl (Or.inl rfl)) pgs_nil)))) (fun _ _ _ _ _ => pts_nil) (fun _ _ _ _ _ => (pv 1)))) (pe_callB call_len_seq (by rfl) T.z_len PySem.boot_len (pa_cons (pv 0) pa_nil)) (nomark _)))), ?_⟩
      refine ⟨_, rfl, p, rfl, ⟨_, hS⟩, fun D hD => ?_⟩
      refine Lm.lc_map (K := K) walk_list (fun i y _ => (bs.map fun b => V.str (numS b.1))[i]? = some y) (fun _ _ _ _ h _ => h) hD (by omega) (fun H' s => Hf.keepL s hS) (fun i x H' hi hx sm Q2 Z q => ?_) (fun H2 ys s2 hy ly hR => ?_)
      · obtain ⟨b, hb, a⟩ := boxes_at hd hx
        obtain ⟨q1, rfl, hq⟩ := box_inv (a.k (Kt.same sm))
        refine ⟨q1, _, rfl, hq, rfl, _, _, rfl, _, _, rfl, rfl, rfl, yesT ?_⟩
        refine ⟨_, rfl, q _ _ (Same.refl _) ?_⟩
        rw [List.getElem?_map, hb]
        rfl
      · have ey : ys = (bs.map fun b => numS b.1).map V.str := by
          rw [List.map_map]
          exact Lm.list_is (by rw [ly, List.length_map, el]) hR
        rw [ey] at hy
        refine ⟨D, _, rfl, SqL.of hy, by rw [List.length_map]; omega, fun c hc => ?_⟩
        have ec := cnt_nodup hc nd
        rw [List.length_map] at ec
        refine ⟨_, rfl, p, _, rfl, .inl (Hf.keepL s2 hS), _, _, rfl, rfl, ?_⟩
        have e : decide (((c : Nat) : Int) < ((xs.length : Nat) : Int)) = false := decide_eq_false (by omega)
        show Q (V.bl (decide (((c : Nat) : Int) < ((xs.length : Nat) : Int)))) _
        rw [e]
        exact k _ s2
    · obtain ⟨p, xs, bs, rfl, hS, ⟨el, hb⟩, hl, ht, k⟩ := h
      refine ⟨_, (pss_one (ps_ret (pe_cmpR op_lt (Sl.pe_len rfl (by rfl) T.z_len (by rfl) T.z_set (pe_lc (own := [("number", 1), ("_", 2)]) (g := gTup K 2 (gCons (gName 1) (gCons (gName 2) (gNil)))) (tt := tYes) rfl sc_has_double.nd (pi_list (pv 0)) (blkOk_by (own := [("number", 1), ("_", 2)]) (N := nm_has_double) (sc := (defScope s_has_double)) (by decide +kernel)) (fun _ _ _ _ _ => (pg_tup rfl (pgs_cons (pg_name (i := 1) sc_has_double.nd rfl (Or.inl rfl)) (pgs_cons (pg_name (i := 2) sc_has_double.nd rfl (Or.inl rfl)) pgs_nil)))) (fun _ _ _ _ _ => pts_nil) (fun _ _ _ _ _ => (pv 1)))) (pe_callB call_len_seq (by rfl) T.z_len PySem.boot_len (pa_cons (pv 0) pa_nil)) (nomark _)))), ?_⟩
      refine ⟨_, rfl, p, rfl, ⟨_, hS⟩, fun D hD => ?_⟩
      refine Lm.lc_map (K := K) walk_list (fun i y _ => (bs.map (·.1))[i]? = some y) (fun _ _ _ _ h _ => h) hD (by omega) (fun H' s => Hf.keepL s hS) (fun i x H' hi hx sm Q2 Z q => ?_) (fun H2 ys s2 hy ly hR => ?_)
      · obtain ⟨b, hb2, q1, rfl, hq⟩ := hb i x hx
        refine ⟨q1, _, rfl, sameT sm hq, rfl, _, _, rfl, _, _, rfl, rfl, rfl, yesT ?_⟩
        refine ⟨_, rfl, q _ _ (Same.refl _) ?_⟩
        rw [List.getElem?_map, hb2]
        rfl
      · obtain ⟨ts, ets⟩ := strs_of ht
        have ey : ys = ts.map V.str := by
          rw [← ets]
          exact Lm.list_is (by rw [ly, List.length_map, el]) hR
        have lt : ts.length = bs.length := by
          have := congrArg List.length ets
          rw [List.length_map, List.length_map] at this
          exact this.symm
        rw [ey] at hy
        refine ⟨D, _, rfl, SqL.of hy, by omega, fun c hc => ?_⟩
        refine ⟨_, rfl, p, _, rfl, .inl (Hf.keepL s2 hS), _, _, rfl, rfl, ?_⟩
        refine k _ _ s2 ?_
        rw [ets, nodup_str]
        have h1 := hc.1
        have h2 := hc.2
        rw [List.take_length] at h2
        show decide (((c : Nat) : Int) < ((xs.length : Nat) : Int)) = true ↔ _
        rw [decide_eq_true_iff, ← h2]
        omega
theorem ok_are_loops (T : Txt K mg) : FnOk P w K mg base CX0 2 T.a_are_loops T.d_are_loops ["thing"] (sp_are_loops K) := by
  refine T.F_are_loops.ok sc_are_loops (fun vs H Q E h => ?_) (fun cdv A outer s H vs Q E hr h => ?_)
  · rcases h with h | h
    · obtain ⟨x, ls, rfl, _⟩ := h
      rfl
    · obtain ⟨x, ls, rfl, _⟩ := h
      rfl
  · rcases h with h | h
    · obtain ⟨x, ls, rfl, hx, G, k⟩ := h
      have g1 := G.l1
      have g2 := G.l2
      obtain ⟨p, xs, t, rfl, hS, el, ha⟩ := hx
      refine ⟨_, (pss_cons (ps_if (PW.pt (pw_or (pt_not (pt_val (pe_call (ok_is_sequence T) (hr.mono (by decide)) (by rfl) T.g_is_sequence T.F_is_sequence.kp T.b_is_sequence .nil pass0 (pa_cons (pv 0) pa_nil)))) (pw_or1 (pt_not (pt_chain op_le op_le pe_int (pe_callB call_len_seq (by rfl) T.z_len PySem.boot_len (pa_cons (pv 0) pa_nil)) (pe_glob (v := V.int 3) rfl T.c_MOST_LOOPS ⟨_, rfl⟩))))))
        (pss_one (ps_ret pe_bl))
        pss_nil)
      (pss_one (ps_ret (pe_callB (cr_all rfl) (by rfl) T.z_all (by decide +kernel) (pa_cons (pe_lc (own := [("loop", 1)]) (g := gName 1) (tt := tYes) rfl sc_are_loops.nd (Kd.pi_seq (pv 0)) (blkOk_by (own := [("loop", 1)]) (N := nm_are_loops) (sc := (defScope s_are_loops)) (by decide +kernel)) (fun _ _ _ _ _ => pg_name (i := 1) sc_are_loops.nd rfl (Or.inl rfl)) (fun _ _ _ _ _ => pts_nil) (fun _ _ _ _ _ => (pe_and (pe_call (ok_is_sequence T) (hr.mono (by decide)) (by rfl) T.g_is_sequence T.F_is_sequence.kp T.b_is_sequence .nil pass0 (pa_cons (pv 1) pa_nil)) (pe_one (pe_chain op_le op_le pe_int (pe_callB (show CallR _ _ (Kx.rLen K) from call_len_seq) (by rfl) T.z_len PySem.boot_len (pa_cons (pv 1) pa_nil)) (pe_glob (v := V.int 10) rfl T.c_MOST_BOXES ⟨_, rfl⟩)))))) pa_nil))))), ?_⟩
      refine ⟨_, rfl, p, xs, t, rfl, hS, fun H1 s1 => ⟨true, rfl, iteF ?_⟩⟩
      refine ⟨_, rfl, p, _, rfl, (hS.keep s1).sq, _, _, rfl, rfl, _, rfl, ?_⟩
      rw [decide_eq_true (show (1 : Int) ≤ ((xs.length : Nat) : Int) by omega)]
      refine iteT ⟨_, _, rfl, rfl, _, rfl, ?_⟩
      rw [decide_eq_true (show ((xs.length : Nat) : Int) ≤ 3 by omega)]
      refine iteF ?_
      refine ⟨_, rfl, p, xs, t, rfl, hS.keep s1, fun J GG w hG D hD => ?_⟩
      refine Lm.lc_map (K := K) w (fun i y _ => y = .bl true) (fun _ _ _ _ h _ => h) hD (by omega) (fun H' s => hG _ (hS.keep (s1.trans s))) (fun i x H' hi hx sm Q2 Z q => ?_) (fun H2 ys s2 hy ly hR => ?_)
      · obtain ⟨l, hl, a⟩ := ha i x hx
        obtain ⟨q1, zs, t1, rfl, hq, hz⟩ := a.k (s1.trans sm)
        have lz : zs.length = l.length := by rw [hz.len, List.length_map]
        have b1 := G.b1 l (List.mem_of_getElem? hl)
        have b2 := G.b2 l (List.mem_of_getElem? hl)
        refine ⟨rfl, yesT ?_⟩
        refine ⟨_, rfl, q1, zs, t1, rfl, hq, fun H5 s5 => ⟨true, rfl, iteT ?_⟩⟩
        refine ⟨_, rfl, q1, _, rfl, (hq.keep s5).sq, _, _, rfl, rfl, _, rfl, ?_⟩
        rw [decide_eq_true (show (1 : Int) ≤ ((zs.length : Nat) : Int) by omega)]
        refine iteT ⟨_, _, rfl, rfl, q _ _ s5 ?_⟩
        show V.bl (decide (((zs.length : Nat) : Int) ≤ 10)) = V.bl true
        rw [decide_eq_true (by omega)]
      · refine ⟨D, ys.map fun _ => true, rfl, all_true hy hR, ?_⟩
        rw [all_id]
        exact k _ (s1.trans s2)
    · obtain ⟨x, ls, rfl, hx, G, k⟩ := h
      have g1 := G.l1
      have g2 := G.l2
      obtain ⟨p, xs, t, rfl, hS, el, ha⟩ := hx
      refine ⟨_, (pss_cons (ps_if (PW.pt (pw_or (pt_not (pt_val (pe_call (ok_is_sequence T) (hr.mono (by decide)) (by rfl) T.g_is_sequence T.F_is_sequence.kp T.b_is_sequence .nil pass0 (pa_cons (pv 0) pa_nil)))) (pw_or1 (pt_not (pt_chain op_le op_le pe_int (pe_callB call_len_seq (by rfl) T.z_len PySem.boot_len (pa_cons (pv 0) pa_nil)) (pe_glob (v := V.int 3) rfl T.c_MOST_LOOPS ⟨_, rfl⟩))))))
        (pss_one (ps_ret pe_bl))
        pss_nil)
      (pss_one (ps_ret (pe_callB (cr_all rfl) (by rfl) T.z_all (by decide +kernel) (pa_cons (pe_lc (own := [("loop", 1)]) (g := gName 1) (tt := tYes) rfl sc_are_loops.nd (Kd.pi_seq (pv 0)) (blkOk_by (own := [("loop", 1)]) (N := nm_are_loops) (sc := (defScope s_are_loops)) (by decide +kernel)) (fun _ _ _ _ _ => pg_name (i := 1) sc_are_loops.nd rfl (Or.inl rfl)) (fun _ _ _ _ _ => pts_nil) (fun _ _ _ _ _ => (pe_and (pe_call (ok_is_sequence T) (hr.mono (by decide)) (by rfl) T.g_is_sequence T.F_is_sequence.kp T.b_is_sequence .nil pass0 (pa_cons (pv 1) pa_nil)) (pe_one (pe_chain op_le op_le pe_int (pe_callB (show CallR _ _ (Kx.rLen K) from call_len_seq) (by rfl) T.z_len PySem.boot_len (pa_cons (pv 1) pa_nil)) (pe_glob (v := V.int 10) rfl T.c_MOST_BOXES ⟨_, rfl⟩)))))) pa_nil))))), ?_⟩
      refine ⟨_, rfl, p, xs, t, rfl, hS, fun H1 s1 => ⟨true, rfl, iteF ?_⟩⟩
      refine ⟨_, rfl, p, _, rfl, (hS.keep s1).sq, _, _, rfl, rfl, _, rfl, ?_⟩
      rw [decide_eq_true (show (1 : Int) ≤ ((xs.length : Nat) : Int) by omega)]
      refine iteT ⟨_, _, rfl, rfl, _, rfl, ?_⟩
      rw [decide_eq_true (show ((xs.length : Nat) : Int) ≤ 3 by omega)]
      refine iteF ?_
      refine ⟨_, rfl, p, xs, t, rfl, hS.keep s1, fun J GG w hG D hD => ?_⟩
      refine Lm.lc_map (K := K) w (fun i y _ => y = .bl true) (fun _ _ _ _ h _ => h) hD (by omega) (fun H' s => hG _ (hS.keep (s1.trans s))) (fun i x H' hi hx sm Q2 Z q => ?_) (fun H2 ys s2 hy ly hR => ?_)
      · obtain ⟨l, hl, a⟩ := ha i x hx
        obtain ⟨q1, zs, t1, rfl, hq, hz⟩ := a
        have hq := hq.keep (s1.trans sm)
        have lz : zs.length = l.length := hz.1
        have b1 := G.b1 l (List.mem_of_getElem? hl)
        have b2 := G.b2 l (List.mem_of_getElem? hl)
        refine ⟨rfl, yesT ?_⟩
        refine ⟨_, rfl, q1, zs, t1, rfl, hq, fun H5 s5 => ⟨true, rfl, iteT ?_⟩⟩
        refine ⟨_, rfl, q1, _, rfl, (hq.keep s5).sq, _, _, rfl, rfl, _, rfl, ?_⟩
        rw [decide_eq_true (show (1 : Int) ≤ ((zs.length : Nat) : Int) by omega)]
        refine iteT ⟨_, _, rfl, rfl, q _ _ s5 ?_⟩
        show V.bl (decide (((zs.length : Nat) : Int) ≤ 10)) = V.bl true
        rw [decide_eq_true (by omega)]
      · refine ⟨D, ys.map fun _ => true, rfl, all_true hy hR, ?_⟩
        rw [all_id]
        exact k _ (s1.trans s2)
end
end K08

namespace K08
open PySem L2 Wm TL Dv
section
variable {P : Program} {w : World} {K : PySem.W.Frag} {mg : Str → Option Value} {base : Heap}
theorem cut_some (ns : List Int) (hi : Option Int) : ∃ m, cutV (ns.map V.int) none hi = (ns.take m).map V.int := by
  refine ⟨HT.sIx (ns.map V.int).length (ns.map V.int).length hi - HT.sIx (ns.map V.int).length 0 none, ?_⟩
  unfold cutV
  rw [HT.sIx_none, List.drop_zero, List.map_take]
theorem ok_bag (T : Txt K mg) : FnOk P w K mg base CX0 1 T.a_bag T.d_bag ["_law_script"] (sp_bag K) := by
  refine T.F_bag.ok sc_bag (fun vs H Q E h => ?_) (fun cdv A outer s H vs Q E hr h => ?_)
  · obtain ⟨a, ns, rfl, _⟩ := h
    rfl
  · obtain ⟨a, ns, rfl, hS, hlen, k⟩ := h
    refine ⟨_, (pss_cons (ps_setLc (i := 1) (own := [("_law_cell", 2)]) (g := gName 2) (tt := tYes) rfl sc_bag.nd rfl rfl (sw_true rfl rfl rfl (by decide +kernel)) (pi_list (pe_slice sl_list (pv 0) po_none (po_some pe_int))) (blkOk_by (own := [("_law_cell", 2)]) (N := nm_bag) (sc := (defScope s_bag)) (by decide +kernel)) (fun _ _ _ _ _ => pg_name (i := 2) sc_bag.nd rfl (Or.inl rfl)) (fun _ _ _ _ _ => pts_nil) (fun _ _ _ _ _ => (pe_ifExp (pt_cmpR op_ge (pv 2) pe_int (nomark _)) (pv 2) (pe_op op_sub pe_int (pv 2)))))
      (pss_one (ps_ret (pe_lst (pa_cons pe_int (pa_cons (pv 1) (pa_cons pe_int (pa_cons pe_int (pa_cons pe_int pa_nil))))))))), ?_⟩
    refine ⟨.ref a, rfl, 63, rfl, a, _, rfl, hS, fun p hp => ?_⟩
    obtain ⟨m, em⟩ := cut_some ns (some 63)
    rw [em]
    have hml : (ns.take m).length ≤ 63 := by rw [List.length_take]; omega
    generalize ns.take m = ms at hml
    refine ⟨p, rfl, ⟨_, SqL.of upd_same⟩, fun D hD => ?_⟩
    refine lc_list (xs := ms.map V.int) (fun i H' => Same (upd H p (.lst (ms.map V.int))) H' ∧ ∃ qs : List Int, qs.length = i ∧ H' D = some (.lst (qs.map V.int))) ⟨same_new hD, [], rfl, upd_same⟩ (fun i H2 _ hP => SqL.of (hP.1 _ _ upd_same)) (fun i x H2 hx hP => ?_) (fun H2 hP => ?_)
    · obtain ⟨sm, qs, eq, hq⟩ := hP
      have hi : i < ms.length := by
        have := (List.getElem?_eq_some_iff.mp hx).1
        rw [List.length_map] at this
        exact this
      have ex : x = .int ms[i] := by
        rw [List.getElem?_map, List.getElem?_eq_getElem hi] at hx
        exact (Option.some.inj hx).symm
      subst ex
      have small : (qs.map V.int).length < sizeLine := by rw [List.length_map]; exact small1000 (by omega)
      refine ⟨rfl, yesT ?_⟩
      refine ⟨_, rfl, _, _, rfl, rfl, _, rfl, ite2 (fun _ => ?_) (fun _ => ?_)⟩
      · exact ⟨_, rfl, _, hq, small, same_mut sm hD, qs ++ [ms[i]], by rw [List.length_append, eq]; rfl, by rw [upd_same, List.map_append]; rfl⟩
      · exact ⟨_, rfl, _, _, rfl, rfl, _, hq, small, same_mut sm hD, qs ++ [1 - ms[i]], by rw [List.length_append, eq]; rfl, by rw [upd_same, List.map_append]; rfl⟩
    · obtain ⟨sm, qs, eq, hq⟩ := hP
      refine ⟨_, rfl, by show 5 ≤ sizeLine; decide, fun b hb => ?_⟩
      refine k _ b (((same_new hp).trans sm).trans (same_new hb)) ⟨D, 0, 0, 0, 20261, qs, upd_same, at_old hq hb, by decide, by decide, by decide⟩
end
end K08

namespace K08
open PySem L2 Wm TL Dv
section
variable {P : Program} {w : World} {K : PySem.W.Frag} {mg : Str → Option Value} {base : Heap}
theorem fmod_in {x l : Int} (h : 0 < l) : 0 ≤ x.fmod l ∧ x.fmod l < l := by
  rw [Int.fmod_eq_emod_of_nonneg x (Int.le_of_lt h)]
  exact ⟨Int.emod_nonneg x (by omega), Int.emod_lt_of_pos x h⟩
theorem ok_draw (T : Txt K mg) : FnOk P w K mg base CX0 1 T.a_draw T.d_draw ["_law_bag_here", "_law_limit"] (sp_draw K) := by
  refine T.F_draw.ok sc_draw (fun vs H Q E h => ?_) (fun cdv A outer s H vs Q E hr h => ?_)
  · obtain ⟨b, n, lim, rfl, _⟩ := h
    rfl
  · obtain ⟨b, n, lim, rfl, l0, l1, ⟨c, x, k, m, z, ns, hb, hc, k0, m0, mn⟩, hn, kk⟩ := h
    have hcb := bag_ne hb hc
    refine ⟨_, (C8.pss_cut (ps_if (PW.pt (pw_and (pt_cmpR op_lt (pe_ix ix_list (pv 0) pe_int (fun _ _ => rfl)) (pe_op op_pow pe_int pe_int) (nomark _)) (pw_and1 (pt_cmpR op_lt (pe_ix ix_list (pv 0) pe_int (fun _ _ => rfl)) (pe_callB call_len_seq (by rfl) T.z_len PySem.boot_len (pa_cons (pe_ix ix_list (pv 0) pe_int (fun _ _ => rfl)) pa_nil)) (nomark _)))))
        (pss_cons (ps_asg (pe_ix ix_list (pe_ix ix_list (pv 0) pe_int (fun _ _ => rfl)) (pe_ix ix_list (pv 0) pe_int (fun _ _ => rfl)) (fun _ _ => rfl)) (pg_sub (pv 0) pe_int set_list))
        (pss_one (ps_asg (pe_op op_add (pe_ix ix_list (pv 0) pe_int (fun _ _ => rfl)) pe_int) (pg_sub (pv 0) pe_int set_list))))
        pss_nil)
      (pss_cons (ps_if (pt_cmpR op_ge (pe_ix ix_list (pv 0) pe_int (fun _ _ => rfl)) (pe_op op_pow pe_int pe_int) (nomark _))
        (pss_cons (ps_set (i := 2) sc_draw.nd rfl (Or.inl rfl) (pe_op op_modN (pe_callTy call_int1 (by rfl) T.z_int (by decide +kernel) (pa_cons (pe_ix ix_list (pv 0) pe_int (fun _ _ => rfl)) pa_nil)) (pv 1)))
        (pss_cons (ps_asg (pe_op op_fdivW (pe_callTy call_int1 (by rfl) T.z_int (by decide +kernel) (pa_cons (pe_ix ix_list (pv 0) pe_int (fun _ _ => rfl)) pa_nil)) (pv 1)) (pg_sub (pv 0) pe_int set_list))
        (pss_one (ps_ret (pv 2)))))
        pss_nil)
      (pss_cons (ps_asg (pe_op op_add (pe_ix ix_list (pv 0) pe_int (fun _ _ => rfl)) pe_int) (pg_sub (pv 0) pe_int set_list))
      (pss_cons (ps_asg (pe_op op_modN (pe_callTy call_int1 (by rfl) T.z_int (by decide +kernel) (pa_cons (pe_op op_add (pe_op op_add (pe_op op_mul (pe_ix ix_list (pv 0) pe_int (fun _ _ => rfl)) pe_int) (pe_op op_mul (pe_op op_modN (pe_callTy call_int1 (by rfl) T.z_int (by decide +kernel) (pa_cons (pe_ix ix_list (pv 0) pe_int (fun _ _ => rfl)) pa_nil)) pe_int) pe_int)) (pe_op op_mul (pe_ix ix_list (pv 0) pe_int (fun _ _ => rfl)) pe_int)) pa_nil)) pe_int) (pg_sub (pv 0) pe_int set_list))
      (pss_one (ps_ret (pe_op op_modN (pe_op op_fdivN (pe_op op_modN (pe_callTy call_int1 (by rfl) T.z_int (by decide +kernel) (pa_cons (pe_op op_add (pe_op op_mul (pe_ix ix_list (pv 0) pe_int (fun _ _ => rfl)) pe_int) (pe_op op_mul (pe_ix ix_list (pv 0) pe_int (fun _ _ => rfl)) (pe_ix ix_list (pv 0) pe_int (fun _ _ => rfl)))) pa_nil)) pe_int) pe_int) (pv 1)))))))), ?_⟩
    refine ⟨fun σ H1 => ∃ x k : Int, σ = [some (.ref b), some (.int lim), none] ∧ 0 ≤ k ∧ But b H H1 ∧ H1 b = some (.lst [.int x, .ref c, .int k, .int m, .int z]), ?_, ?_⟩
    · refine ⟨_, rfl, b, _, 0, _, rfl, rfl, SqL.of hb, atI_nat (j := 0) rfl, _, _, rfl, rfl, ⟨by decide, by decide, by decide⟩, _, _, rfl, rfl, _, rfl, ite2 (fun h1 => ?_) (fun h1 => ?_)⟩
      · refine ⟨_, rfl, b, _, 2, _, rfl, rfl, SqL.of hb, atI_nat (j := 2) rfl, _, rfl, b, _, 1, _, rfl, rfl, SqL.of hb, atI_nat (j := 1) rfl, c, _, rfl, .inl (SqL.of hc), _, _, rfl, rfl, _, rfl, ite2 (fun h2 => ?_) (fun h2 => ?_)⟩
        · have h3 := of_decide_eq_true h2
          rw [List.length_map] at h3
          have h4 : k.toNat < ns.length := by omega
          have g : (ns.map V.int)[k.toNat]? = some (.int ns[k.toNat]) := by rw [List.getElem?_map, List.getElem?_eq_getElem h4]; rfl
          refine ⟨_, rfl, b, _, 1, _, rfl, rfl, SqL.of hb, atI_nat (j := 1) rfl, _, rfl, b, _, 2, _, rfl, rfl, SqL.of hb, atI_nat (j := 2) rfl, c, _, k, _, rfl, rfl, SqL.of hc, at_of (by omega) g, ?_⟩
          refine ⟨_, rfl, b, _, 0, 0, rfl, rfl, hb, rfl, ?_⟩
          refine ⟨_, rfl, b, _, 2, _, rfl, rfl, SqL.of upd_same, atI_nat (j := 2) rfl, _, _, rfl, rfl, ?_⟩
          refine ⟨_, rfl, b, _, 2, 2, rfl, rfl, upd_same, rfl, ?_⟩
          exact ⟨_, _, rfl, by omega, But.trans (But.set hb) (But.set upd_same), upd_same⟩
        · exact ⟨x, k, rfl, k0, But.refl _ _, hb⟩
      · exact ⟨x, k, rfl, k0, But.refl _ _, hb⟩
    · rintro σ H1 ⟨x, k, rfl, k0, but, hb⟩
      have hc1 : H1 c = some (.lst (ns.map V.int)) := but _ _ hcb hc
      refine ⟨_, rfl, b, _, 0, _, rfl, rfl, SqL.of hb, atI_nat (j := 0) rfl, _, _, rfl, rfl, ⟨by decide, by decide, by decide⟩, _, _, rfl, rfl, _, rfl, ite2 (fun h1 => ?_) (fun h1 => ?_)⟩
      · refine ⟨_, rfl, b, _, 0, _, rfl, rfl, SqL.of hb, atI_nat (j := 0) rfl, .inl ⟨_, rfl, _, rfl, _, _, rfl, rfl, by omega, ?_⟩⟩
        refine ⟨_, rfl, b, _, 0, _, rfl, rfl, SqL.of hb, atI_nat (j := 0) rfl, .inl ⟨_, rfl, _, rfl, _, _, rfl, rfl, wide_div l0 (b := 100) (by omega) (by decide) (by decide), ?_⟩⟩
        refine ⟨_, rfl, b, _, 0, 0, rfl, rfl, hb, rfl, ?_⟩
        refine ⟨_, rfl, kk _ _ (fmod_in l0).1 (fmod_in l0).2 ⟨c, _, k, m, z, ns, upd_same, ?_, k0, m0, by omega⟩ (but.trans (But.set hb))⟩
        rw [upd_ne hcb]
        exact hc1
      · refine ⟨_, rfl, b, _, 3, _, rfl, rfl, SqL.of hb, atI_nat (j := 3) rfl, _, _, rfl, rfl, ?_⟩
        refine ⟨_, rfl, b, _, 3, 3, rfl, rfl, hb, rfl, ?_⟩
        -- the two reckonings
        refine ⟨_, rfl, b, _, 4, _, rfl, rfl, SqL.of upd_same, atI_nat (j := 4) rfl, _, _, rfl, rfl, .inr ⟨by decide, by decide⟩, ?_⟩
        refine ⟨_, rfl, b, _, 0, _, rfl, rfl, SqL.of upd_same, atI_nat (j := 0) rfl, .inl ⟨_, rfl, _, _, rfl, rfl, by omega, _, _, rfl, rfl, .inr ⟨by decide, by decide⟩, _, _, rfl, rfl, ?_⟩⟩
        refine ⟨_, rfl, b, _, 3, _, rfl, rfl, SqL.of upd_same, atI_nat (j := 3) rfl, _, _, rfl, rfl, .inr ⟨by decide, by decide⟩, _, _, rfl, rfl, .inl ⟨_, rfl, _, _, rfl, rfl, by omega, ?_⟩⟩
        refine ⟨_, rfl, b, _, 4, 4, rfl, rfl, upd_same, rfl, ?_⟩
        refine ⟨_, rfl, b, _, 4, _, rfl, rfl, SqL.of upd_same, atI_nat (j := 4) rfl, _, _, rfl, rfl, .inr ⟨by decide, by decide⟩, ?_⟩
        refine ⟨_, rfl, b, _, 3, _, rfl, rfl, SqL.of upd_same, atI_nat (j := 3) rfl, _, rfl, b, _, 3, _, rfl, rfl, SqL.of upd_same, atI_nat (j := 3) rfl, _, _, rfl, rfl, .inl ⟨by omega, by omega⟩, _, _, rfl, rfl, .inl ⟨_, rfl, _, _, rfl, rfl, by omega, _, _, rfl, rfl, ⟨by decide, by decide⟩, _, rfl, _, _, rfl, rfl, by omega, ?_⟩⟩
        refine kk _ _ (fmod_in l0).1 (fmod_in l0).2 ⟨c, x, k, m + 1, _, ns, upd_same, ?_, k0, by omega, by omega⟩ ((but.trans (But.set hb)).trans (But.set upd_same))
        rw [upd_ne hcb, upd_ne hcb]
        exact hc1
end
end K08

namespace K08
open PySem L2 Wm TL Dv
section
variable {P : Program} {w : World} {K : PySem.W.Frag} {mg : Str → Option Value} {base : Heap}
theorem within_true {lo hi i : Int} (a : lo ≤ i) (b : i ≤ hi) : within lo hi (some i) = true := by
  show (decide (lo ≤ i) && decide (i ≤ hi)) = true
  rw [decide_eq_true a, decide_eq_true b]
  rfl
theorem dts_of {H : Hp} {ys : List V} {ds : List PyData} (l : ys.length = ds.length) (h : ∀ (i : Nat) y, ys[i]? = some y → ∃ d, ds[i]? = some d ∧ Dt K H y d) : Dts K H ys ds := by
  induction ds generalizing ys with
  | nil =>
    rw [List.eq_nil_of_length_eq_zero l]
    exact .nil
  | cons d ds ih =>
    cases ys with
    | nil => cases l
    | cons y ys =>
      refine .cons ?_ (ih (by simpa using l) fun i z hz => ?_)
      · obtain ⟨e, he, a⟩ := h 0 y rfl
        cases he
        exact a
      · obtain ⟨e, he, a⟩ := h (i + 1) z (by simpa using hz)
        exact ⟨e, by simpa using he, a⟩
theorem flat_le {α : Type} : ∀ (ls : List (List α)) (i : Nat), (∀ l ∈ ls, l.length ≤ 10) → (ls.take i).flatten.length ≤ 10 * i
  | [], i, _ => by simp
  | l :: ls, 0, _ => by simp
  | l :: ls, i + 1, h => by
    have ih := flat_le ls i fun m q => h m (List.mem_cons_of_mem _ q)
    have hl := h l (by simp)
    rw [List.take_succ_cons, List.flatten_cons, List.length_append]
    omega
theorem flat_succ {α : Type} {ls : List (List α)} {l : List α} {i : Nat} (h : ls[i]? = some l) : (ls.take (i + 1)).flatten = (ls.take i).flatten ++ l := by
  rw [List.take_add_one, h, List.flatten_append]
  simp
theorem Good.flat {ls : List (List Box)} (G : Good ls) : ls.flatten.length ≤ 30 := by
  have h := flat_le ls ls.length G.b2
  rw [List.take_length] at h
  have := G.l2
  omega
theorem fl_sort (b : Bool) : Fl (.str (sortS b)) := by cases b <;> exact .str ⟨by decide +kernel, by decide +kernel⟩
theorem st_sort (b : Bool) : IsSt (.str (sortS b)) := by cases b; exact .inl rfl; exact .inr rfl
/-- a list of answers as bools -/
theorem bools_of {P : OB → Prop} : ∀ {ys : List V} {bs : List OB}, ys.length = bs.length → (∀ (i : Nat) y, ys[i]? = some y → ∃ c b, y = V.bl c ∧ bs[i]? = some b ∧ (c = true ↔ P b)) → ∃ cs : List Bool, ys = cs.map V.bl ∧ (cs.all id = true ↔ ∀ b ∈ bs, P b)
  | [], [], _, _ => ⟨[], rfl, by simp⟩
  | y :: ys, b :: bs, l, h => by
    obtain ⟨cs, e, a⟩ := bools_of (ys := ys) (bs := bs) (by simpa using l) fun i z hz => h (i + 1) z (by simpa using hz)
    obtain ⟨c, b2, rfl, hb, hc⟩ := h 0 y rfl
    cases hb
    refine ⟨c :: cs, by rw [List.map_cons, e], ?_⟩
    rw [List.all_cons, Bool.and_eq_true, a]
    show (c = true ∧ _) ↔ _
    rw [hc]
    exact ⟨fun ⟨x, z⟩ d m => by rcases List.mem_cons.mp m with e | m; exact e ▸ x; exact z d m, fun x => ⟨x b List.mem_cons_self, fun d m => x d (List.mem_cons_of_mem _ m)⟩⟩
theorem ok_check_boxes (T : Txt K mg) : FnOk P w K mg base (L2.CX P w) 3 T.a_check_boxes T.d_check_boxes ["boxes"] (sp_check_boxes K T.CT) := by
  refine T.F_check_boxes.okX sc_check_boxes (fun vs H Q E h => ?_) (fun cdv A outer s H vs Q E hr h => ?_)
  · rcases h with h | h
    · obtain ⟨p, xs, bs, rfl, _⟩ := h
      rfl
    · obtain ⟨p, xs, bs, wd, rfl, _⟩ := h
      rfl
  · rcases h with h | h
    · obtain ⟨p, xs, bs, rfl, hS, hd, hl, hN, nd, k⟩ := h
      have el := boxes_len hd
      refine ⟨_, (pss_cons (ps_if (pt_not (pt_val (pe_callB (cr_all rfl) (by rfl) T.z_all (by decide +kernel) (pa_cons (pe_lc (own := [("box", 1)]) (g := gName 1) (tt := tYes) rfl sc_check_boxes.nd (pi_list (pv 0)) (blkOk_by (own := [("box", 1)]) (N := nm_check_boxes) (sc := (defScope s_check_boxes)) (by decide +kernel)) (fun _ _ _ _ _ => pg_name (i := 1) sc_check_boxes.nd rfl (Or.inl rfl)) (fun _ _ _ _ _ => pts_nil) (fun _ _ _ _ _ => (pe_and (pe_call (ok_is_sequence T) (hr.mono (by decide)) (by rfl) T.g_is_sequence T.F_is_sequence.kp T.b_is_sequence .nil pass0 (pa_cons (pv 1) pa_nil)) (pe_one (pe_cmpR op_eq (pe_callB (show CallR _ _ (Kx.rLen K) from call_len_seq) (by rfl) T.z_len PySem.boot_len (pa_cons (pv 1) pa_nil)) pe_int (nomark _)))))) pa_nil))))
        (pss_one (ps_raiseLowT rfl T.lowT hr (takes_of rfl rfl rfl rfl) (by exact (pa_cons pe_str pa_nil))))
        pss_nil)
      (pss_cons (ps_if (pt_not (pt_val (pe_callB (cr_all rfl) (by rfl) T.z_all (by decide +kernel) (pa_cons (pe_lc (own := [("number", 2), ("_", 3)]) (g := gTup K 2 (gCons (gName 2) (gCons (gName 3) (gNil)))) (tt := tYes) rfl sc_check_boxes.nd (pi_list (pv 0)) (blkOk_by (own := [("number", 2), ("_", 3)]) (N := nm_check_boxes) (sc := (defScope s_check_boxes)) (by decide +kernel)) (fun _ _ _ _ _ => (pg_tup rfl (pgs_cons (pg_name (i := 2) sc_check_boxes.nd rfl (Or.inl rfl)) (pgs_cons (pg_name (i := 3) sc_check_boxes.nd rfl (Or.inl rfl)) pgs_nil)))) (fun _ _ _ _ _ => pts_nil) (fun _ _ _ _ _ => (pe_call (ok_is_number T) (hr.mono (by decide)) (by rfl) T.g_is_number T.F_is_number.kp T.b_is_number .nil pass0 (pa_cons (pv 2) pa_nil)))) pa_nil))))
        (pss_one (ps_raiseLowT rfl T.lowT hr (takes_of rfl rfl rfl rfl) (by exact (pa_cons pe_str pa_nil))))
        pss_nil)
      (pss_cons (ps_if (pt_not (pt_val (pe_callB (cr_all rfl) (by rfl) T.z_all (by decide +kernel) (pa_cons (pe_lc (own := [("_", 3), ("sort", 4)]) (g := gTup K 2 (gCons (gName 3) (gCons (gName 4) (gNil)))) (tt := tYes) rfl sc_check_boxes.nd (pi_list (pv 0)) (blkOk_by (own := [("_", 3), ("sort", 4)]) (N := nm_check_boxes) (sc := (defScope s_check_boxes)) (by decide +kernel)) (fun _ _ _ _ _ => (pg_tup rfl (pgs_cons (pg_name (i := 3) sc_check_boxes.nd rfl (Or.inl rfl)) (pgs_cons (pg_name (i := 4) sc_check_boxes.nd rfl (Or.inl rfl)) pgs_nil)))) (fun _ _ _ _ _ => pts_nil) (fun _ _ _ _ _ => (pe_call (ok_is_sort T) (hr.mono (by decide)) (by rfl) T.g_is_sort T.F_is_sort.kp T.b_is_sort .nil pass0 (pa_cons (pv 4) pa_nil)))) pa_nil))))
        (pss_one (ps_raiseLowT rfl T.lowT hr (takes_of rfl rfl rfl rfl) (by exact (pa_cons pe_str pa_nil))))
        pss_nil)
      (pss_one (ps_if (pt_val (pe_call (ok_has_double T) (hr.mono (by decide)) (by rfl) T.g_has_double T.F_has_double.kp T.b_has_double .nil pass0 (pa_cons (pv 0) pa_nil)))
        (pss_one (ps_raiseLowT rfl T.lowT hr (takes_of rfl rfl rfl rfl) (by exact (pa_cons pe_str pa_nil))))
        pss_nil))))), ?_⟩
      refine ⟨_, rfl, p, rfl, ⟨_, hS⟩, fun D hD => ?_⟩
      refine Lm.lc_map (K := K) walk_list (fun i y _ => y = .bl true) (fun _ _ _ _ h _ => h) hD (by omega) (fun H' s => Hf.keepL s hS) (fun i x H' hi hx sm Q2 Z q => ?_) (fun H2 ys s2 hy ly hR => ?_)
      · obtain ⟨b, hb, a⟩ := boxes_at hd hx
        obtain ⟨q1, rfl, hq⟩ := box_inv (a.k (Kt.same sm))
        refine ⟨rfl, yesT ?_⟩
        refine ⟨_, rfl, q1, _, true, rfl, hq, fun H5 s5 => ⟨true, rfl, iteT ?_⟩⟩
        exact ⟨_, rfl, q1, _, rfl, .inr (sameT s5 hq), rfl, q _ _ s5 (congrArg V.bl (decide_eq_true rfl))⟩
      refine ⟨D, _, rfl, all_true hy hR, _, rfl, ?_⟩
      rw [all_id]
      refine iteF ?_
      refine ⟨_, rfl, p, rfl, ⟨_, Hf.keepL s2 hS⟩, fun D3 hD3 => ?_⟩
      refine Lm.lc_map (K := K) walk_list (fun i y _ => y = .bl true) (fun _ _ _ _ h _ => h) hD3 (by omega) (fun H' s => Hf.keepL (s2.trans s) hS) (fun i x H' hi hx sm Q2 Z q => ?_) (fun H3 ys3 s3 hy3 ly3 hR3 => ?_)
      · obtain ⟨b, hb, a⟩ := boxes_at hd hx
        obtain ⟨q1, rfl, hq⟩ := box_inv (a.k (Kt.same (s2.trans sm)))
        have N := hN b (List.mem_of_getElem? hb)
        have := N.len
        refine ⟨q1, _, rfl, hq, rfl, _, _, rfl, _, _, rfl, rfl, rfl, yesT ?_⟩
        refine ⟨_, rfl, _, _, rfl, ob_num N, fun H5 b5 s5 h5 => q _ _ s5 ?_⟩
        rw [h5.mpr ⟨b.1, N, rfl⟩]
      refine ⟨D3, _, rfl, all_true hy3 hR3, _, rfl, ?_⟩
      rw [all_id]
      refine iteF ?_
      have s23 := s2.trans s3
      refine ⟨_, rfl, p, rfl, ⟨_, Hf.keepL s23 hS⟩, fun D4 hD4 => ?_⟩
      refine Lm.lc_map (K := K) walk_list (fun i y _ => y = .bl true) (fun _ _ _ _ h _ => h) hD4 (by omega) (fun H' s => Hf.keepL (s23.trans s) hS) (fun i x H' hi hx sm Q2 Z q => ?_) (fun H4 ys4 s4 hy4 ly4 hR4 => ?_)
      · obtain ⟨b, hb, a⟩ := boxes_at hd hx
        obtain ⟨q1, rfl, hq⟩ := box_inv (a.k (Kt.same (s23.trans sm)))
        refine ⟨q1, _, rfl, hq, rfl, _, _, rfl, _, _, rfl, rfl, rfl, yesT ?_⟩
        exact ⟨_, rfl, _, rfl, fl_sort b.2, fun H5 c s5 hc => q _ _ s5 (by rw [hc.mpr (st_sort b.2)])⟩
      refine ⟨D4, _, rfl, all_true hy4 hR4, _, rfl, ?_⟩
      rw [all_id]
      refine iteF ?_
      have s24 := s23.trans s4
      refine ⟨_, rfl, .inl ⟨p, xs, bs, rfl, Hf.keepL s24 hS, hd.k (Kt.same s24), hl, nd, fun H5 s5 => ⟨false, rfl, iteF ?_⟩⟩⟩
      exact k _ (s24.trans s5)
    · obtain ⟨p, xs, bs, wd, rfl, hS, ⟨el, hb⟩, hl, fl, bad, er⟩ := h
      refine ⟨_, (pss_cons (ps_if (pt_not (pt_val (pe_callB (cr_all rfl) (by rfl) T.z_all (by decide +kernel) (pa_cons (pe_lc (own := [("box", 1)]) (g := gName 1) (tt := tYes) rfl sc_check_boxes.nd (pi_list (pv 0)) (blkOk_by (own := [("box", 1)]) (N := nm_check_boxes) (sc := (defScope s_check_boxes)) (by decide +kernel)) (fun _ _ _ _ _ => pg_name (i := 1) sc_check_boxes.nd rfl (Or.inl rfl)) (fun _ _ _ _ _ => pts_nil) (fun _ _ _ _ _ => (pe_and (pe_call (ok_is_sequence T) (hr.mono (by decide)) (by rfl) T.g_is_sequence T.F_is_sequence.kp T.b_is_sequence .nil pass0 (pa_cons (pv 1) pa_nil)) (pe_one (pe_cmpR op_eq (pe_callB (show CallR _ _ (Kx.rLen K) from call_len_seq) (by rfl) T.z_len PySem.boot_len (pa_cons (pv 1) pa_nil)) pe_int (nomark _)))))) pa_nil))))
        (pss_one (ps_raiseLowT rfl T.lowT hr (takes_of rfl rfl rfl rfl) (by exact (pa_cons pe_str pa_nil))))
        pss_nil)
      (pss_cons (ps_if (pt_not (pt_val (pe_callB (cr_all rfl) (by rfl) T.z_all (by decide +kernel) (pa_cons (pe_lc (own := [("number", 2), ("_", 3)]) (g := gTup K 2 (gCons (gName 2) (gCons (gName 3) (gNil)))) (tt := tYes) rfl sc_check_boxes.nd (pi_list (pv 0)) (blkOk_by (own := [("number", 2), ("_", 3)]) (N := nm_check_boxes) (sc := (defScope s_check_boxes)) (by decide +kernel)) (fun _ _ _ _ _ => (pg_tup rfl (pgs_cons (pg_name (i := 2) sc_check_boxes.nd rfl (Or.inl rfl)) (pgs_cons (pg_name (i := 3) sc_check_boxes.nd rfl (Or.inl rfl)) pgs_nil)))) (fun _ _ _ _ _ => pts_nil) (fun _ _ _ _ _ => (pe_call (ok_is_number T) (hr.mono (by decide)) (by rfl) T.g_is_number T.F_is_number.kp T.b_is_number .nil pass0 (pa_cons (pv 2) pa_nil)))) pa_nil))))
        (pss_one (ps_raiseLowT rfl T.lowT hr (takes_of rfl rfl rfl rfl) (by exact (pa_cons pe_str pa_nil))))
        pss_nil)
      (pss_cons (ps_if (pt_not (pt_val (pe_callB (cr_all rfl) (by rfl) T.z_all (by decide +kernel) (pa_cons (pe_lc (own := [("_", 3), ("sort", 4)]) (g := gTup K 2 (gCons (gName 3) (gCons (gName 4) (gNil)))) (tt := tYes) rfl sc_check_boxes.nd (pi_list (pv 0)) (blkOk_by (own := [("_", 3), ("sort", 4)]) (N := nm_check_boxes) (sc := (defScope s_check_boxes)) (by decide +kernel)) (fun _ _ _ _ _ => (pg_tup rfl (pgs_cons (pg_name (i := 3) sc_check_boxes.nd rfl (Or.inl rfl)) (pgs_cons (pg_name (i := 4) sc_check_boxes.nd rfl (Or.inl rfl)) pgs_nil)))) (fun _ _ _ _ _ => pts_nil) (fun _ _ _ _ _ => (pe_call (ok_is_sort T) (hr.mono (by decide)) (by rfl) T.g_is_sort T.F_is_sort.kp T.b_is_sort .nil pass0 (pa_cons (pv 4) pa_nil)))) pa_nil))))
        (pss_one (ps_raiseLowT rfl T.lowT hr (takes_of rfl rfl rfl rfl) (by exact (pa_cons pe_str pa_nil))))
        pss_nil)
      (pss_one (ps_if (pt_val (pe_call (ok_has_double T) (hr.mono (by decide)) (by rfl) T.g_has_double T.F_has_double.kp T.b_has_double .nil pass0 (pa_cons (pv 0) pa_nil)))
        (pss_one (ps_raiseLowT rfl T.lowT hr (takes_of rfl rfl rfl rfl) (by exact (pa_cons pe_str pa_nil))))
        pss_nil))))), ?_⟩
      refine ⟨_, rfl, p, rfl, ⟨_, hS⟩, fun D hD => ?_⟩
      refine Lm.lc_map (K := K) walk_list (fun i y _ => y = .bl true) (fun _ _ _ _ h _ => h) hD (by omega) (fun H' s => Hf.keepL s hS) (fun i x H' hi hx sm Q2 Z q => ?_) (fun H2 ys s2 hy ly hR => ?_)
      · obtain ⟨b, hb2, q1, rfl, hq⟩ := hb i x hx
        refine ⟨rfl, yesT ?_⟩
        refine ⟨_, rfl, q1, _, true, rfl, sameT sm hq, fun H5 s5 => ⟨true, rfl, iteT ?_⟩⟩
        exact ⟨_, rfl, q1, _, rfl, .inr (sameT (sm.trans s5) hq), rfl, q _ _ s5 (congrArg V.bl (decide_eq_true rfl))⟩
      refine ⟨D, _, rfl, all_true hy hR, _, rfl, ?_⟩
      rw [all_id]
      refine iteF ?_
      refine ⟨_, rfl, p, rfl, ⟨_, Hf.keepL s2 hS⟩, fun D3 hD3 => ?_⟩
      refine Lm.lc_map (K := K) walk_list (fun i y _ => ∃ c b, y = .bl c ∧ bs[i]? = some b ∧ (c = true ↔ IsN b.1)) (fun _ _ _ _ h _ => h) hD3 (by omega) (fun H' s => Hf.keepL (s2.trans s) hS) (fun i x H' hi hx sm Q2 Z q => ?_) (fun H3 ys3 s3 hy3 ly3 hR3 => ?_)
      · obtain ⟨b, hb2, q1, rfl, hq⟩ := hb i x hx
        obtain ⟨d, ob⟩ := (fl b (List.mem_of_getElem? hb2)).1.ob (K := K)
        refine ⟨q1, _, rfl, sameT (s2.trans sm) hq, rfl, _, _, rfl, _, _, rfl, rfl, rfl, yesT ?_⟩
        exact ⟨_, rfl, _, _, rfl, ob _, fun H5 b5 s5 h5 => q _ _ s5 ⟨b5, b, rfl, hb2, h5⟩⟩
      obtain ⟨cs3, e3, a3⟩ := bools_of (P := fun b => IsN b.1) (by rw [ly3, el]) hR3
      refine ⟨D3, cs3, rfl, SqL.of (by rw [hy3, e3]), _, rfl, ?_⟩
      have s23 := s2.trans s3
      have raise : ∀ (H' : Hp) (dd : Addr), Same H H' → H' dd = some (.xd [("what", V.str wd)]) → E (.ref T.CT) (some dd) H' := fun H' dd s e => er H' dd s e
      rcases bad with ⟨rfl, b, mb, nb⟩ | ⟨rfl, an, b, mb, nb⟩ | ⟨rfl, an, as, nd⟩
      · have c3 : cs3.all id = false := Bool.eq_false_iff.mpr fun z => nb (a3.mp z b mb)
        rw [c3]
        refine iteT ?_
        exact ⟨_, rfl, fun dd hdd => er _ dd (s23.trans (same_new hdd)) upd_same⟩
      · rw [a3.mpr an]
        refine iteF ?_
        refine ⟨_, rfl, p, rfl, ⟨_, Hf.keepL s23 hS⟩, fun D4 hD4 => ?_⟩
        refine Lm.lc_map (K := K) walk_list (fun i y _ => ∃ c b, y = .bl c ∧ bs[i]? = some b ∧ (c = true ↔ IsSt b.2)) (fun _ _ _ _ h _ => h) hD4 (by omega) (fun H' s => Hf.keepL (s23.trans s) hS) (fun i x H' hi hx sm Q2 Z q => ?_) (fun H4 ys4 s4 hy4 ly4 hR4 => ?_)
        · obtain ⟨b, hb2, q1, rfl, hq⟩ := hb i x hx
          refine ⟨q1, _, rfl, sameT (s23.trans sm) hq, rfl, _, _, rfl, _, _, rfl, rfl, rfl, yesT ?_⟩
          exact ⟨_, rfl, _, rfl, (fl b (List.mem_of_getElem? hb2)).2, fun H5 c5 s5 h5 => q _ _ s5 ⟨c5, b, rfl, hb2, h5⟩⟩
        obtain ⟨cs4, e4, a4⟩ := bools_of (P := fun b => IsSt b.2) (by rw [ly4, el]) hR4
        refine ⟨D4, cs4, rfl, SqL.of (by rw [hy4, e4]), _, rfl, ?_⟩
        have c4 : cs4.all id = false := Bool.eq_false_iff.mpr fun z => nb (a4.mp z b mb)
        rw [c4]
        refine iteT ?_
        exact ⟨_, rfl, fun dd hdd => er _ dd ((s23.trans s4).trans (same_new hdd)) upd_same⟩
      · rw [a3.mpr an]
        refine iteF ?_
        refine ⟨_, rfl, p, rfl, ⟨_, Hf.keepL s23 hS⟩, fun D4 hD4 => ?_⟩
        refine Lm.lc_map (K := K) walk_list (fun i y _ => ∃ c b, y = .bl c ∧ bs[i]? = some b ∧ (c = true ↔ IsSt b.2)) (fun _ _ _ _ h _ => h) hD4 (by omega) (fun H' s => Hf.keepL (s23.trans s) hS) (fun i x H' hi hx sm Q2 Z q => ?_) (fun H4 ys4 s4 hy4 ly4 hR4 => ?_)
        · obtain ⟨b, hb2, q1, rfl, hq⟩ := hb i x hx
          refine ⟨q1, _, rfl, sameT (s23.trans sm) hq, rfl, _, _, rfl, _, _, rfl, rfl, rfl, yesT ?_⟩
          exact ⟨_, rfl, _, rfl, (fl b (List.mem_of_getElem? hb2)).2, fun H5 c5 s5 h5 => q _ _ s5 ⟨c5, b, rfl, hb2, h5⟩⟩
        obtain ⟨cs4, e4, a4⟩ := bools_of (P := fun b => IsSt b.2) (by rw [ly4, el]) hR4
        refine ⟨D4, cs4, rfl, SqL.of (by rw [hy4, e4]), _, rfl, ?_⟩
        rw [a4.mpr as]
        refine iteF ?_
        have s24 := s23.trans s4
        refine ⟨_, rfl, .inr ⟨p, xs, bs, rfl, Hf.keepL s24 hS, BoxesAt.k ⟨el, hb⟩ s24, hl, fun b mb => ?_, fun H5 c s5 hc => ?_⟩⟩
        · obtain ⟨ds, _, e⟩ := an b mb
          exact ⟨_, e⟩
        · rw [hc.mpr nd]
          exact ⟨_, rfl, iteT ⟨_, rfl, fun dd hdd => er _ dd ((s24.trans s5).trans (same_new hdd)) upd_same⟩⟩
end
end K08

namespace K08
open PySem L2 Wm TL Dv
section
variable {P : Program} {w : World} {K : PySem.W.Frag} {mg : Str → Option Value} {base : Heap}
theorem dig_log {d : Nat} (h : 1 ≤ d ∧ d ≤ 9) : ((d : Int)).natAbs.log2 < 1920 := by
  rcases dig_cases h with e | e | e | e | e | e | e | e | e <;> subst e <;> decide +kernel
theorem top_at {way : Int} (h0 : 0 ≤ way) (h1 : way < 6) : ∃ top : Int, atI [V.int 3, V.int 3, V.int 3, V.int 3, V.int 9, V.int 9] way = some (.int top) ∧ 3 ≤ top ∧ top ≤ 9 := by
  have c : way = 0 ∨ way = 1 ∨ way = 2 ∨ way = 3 ∨ way = 4 ∨ way = 5 := by omega
  rcases c with e | e | e | e | e | e <;> subst e
  · exact ⟨3, rfl, by decide, by decide⟩
  · exact ⟨3, rfl, by decide, by decide⟩
  · exact ⟨3, rfl, by decide, by decide⟩
  · exact ⟨3, rfl, by decide, by decide⟩
  · exact ⟨9, rfl, by decide, by decide⟩
  · exact ⟨9, rfl, by decide, by decide⟩
theorem sum_snoc (ds : List Nat) (d : Nat) : (ds ++ [d]).sum = ds.sum + d := by
  rw [List.sum_append]
  simp
theorem len_snoc (ds : List Nat) (d : Nat) : (ds ++ [d]).length = ds.length + 1 := by simp
theorem dig_snoc {ds : List Nat} {d : Nat} (h : ∀ y ∈ ds, 1 ≤ y ∧ y ≤ 9) (g : 1 ≤ d ∧ d ≤ 9) : ∀ y ∈ ds ++ [d], 1 ≤ y ∧ y ≤ 9 := fun y m => by
  rcases List.mem_append.mp m with m | m
  · exact h y m
  · rw [List.mem_singleton.mp m]
    exact g
theorem ok_number (T : Txt K mg) : FnOk P w K mg base CX0 2 T.a_number T.d_number ["_law_bag_here"] (sp_number K) := by
  refine T.F_number.ok sc_number (fun vs H Q E h => ?_) (fun cdv A outer s H vs Q E hr h => ?_)
  · obtain ⟨b, n, rfl, _⟩ := h
    rfl
  · obtain ⟨b, n, rfl, hbag, hn, kk⟩ := h
    refine ⟨_, (pss_cons (ps_set (i := 1) sc_number.nd rfl (Or.inl rfl) (pe_op op_add pe_int (pe_call (ok_draw T) (hr.mono (by decide)) (by rfl) T.g_draw T.F_draw.kp T.b_draw .nil pass0 (pa_cons (pv 0) (pa_cons pe_int pa_nil)))))
      (pss_cons (ps_set (i := 2) sc_number.nd rfl (Or.inl rfl) (pe_call (ok_draw T) (hr.mono (by decide)) (by rfl) T.g_draw T.F_draw.kp T.b_draw .nil pass0 (pa_cons (pv 0) (pa_cons pe_int pa_nil))))
      (pss_cons (ps_set (i := 3) sc_number.nd rfl (Or.inl rfl) (pe_ix ix_list (pe_lst (pa_cons pe_int (pa_cons pe_int (pa_cons pe_int (pa_cons pe_int (pa_cons pe_int (pa_cons pe_int pa_nil))))))) (pv 2) (fun _ _ => rfl)))
      (pss_cons (ps_set (i := 4) sc_number.nd rfl (Or.inl rfl) pe_str)
      (pss_cons (ps_set (i := 5) sc_number.nd rfl (Or.inl rfl) pe_int)
      (pss_cons (ps_for PassesOwn.never rfl (pi_range1 (by rfl) T.z_range (pa_cons (pv 1) pa_nil)) (pg_name (i := 6) sc_number.nd rfl (Or.inl rfl))
        (pss_cons (ps_set (i := 7) sc_number.nd rfl (Or.inl rfl) (pe_op op_add pe_int (pe_call (ok_draw T) (hr.mono (by decide)) (by rfl) T.g_draw T.F_draw.kp T.b_draw .nil pass0 (pa_cons (pv 0) (pa_cons (pe_callB (call_min2 rfl) (by rfl) T.z_min (by decide +kernel) (pa_cons (pv 3) (pa_cons (pe_op op_sub (pv 5) (pe_op op_sub (pe_op op_sub (pv 1) pe_int) (pv 6))) pa_nil))) pa_nil)))))
        (C8.pss_cut (ps_if (PW.pt (pw_and (pt_cmpR op_eq (pv 2) pe_int (nomark _)) (pw_and1 (pt_cmpR op_eq (pv 6) (pe_op op_sub (pv 1) pe_int) (nomark _)))))
          (pss_one (ps_set (i := 7) sc_number.nd rfl (Or.inl rfl) (pe_callB (call_min2 rfl) (by rfl) T.z_min (by decide +kernel) (pa_cons pe_int (pa_cons (pv 5) pa_nil)))))
          pss_nil)
        (pss_cons (ps_set (i := 4) sc_number.nd rfl (Or.inl rfl) (pe_op op_add_str (pv 4) (pe_callTy call_str_int (by rfl) T.z_str (by decide +kernel) (pa_cons (pv 7) pa_nil))))
        (pss_one (ps_set (i := 5) sc_number.nd rfl (Or.inl rfl) (pe_op op_sub (pv 5) (pv 7))))))))
      (pss_one (ps_ret (pv 4))))))))), ?_⟩
    refine ⟨_, rfl, b, n, 4, rfl, by decide, by decide, hbag, by omega, fun H1 d1 g0 g1 bag1 but1 => ?_⟩
    refine ⟨_, _, rfl, rfl, ?_⟩
    refine ⟨_, rfl, b, n + 1, 6, rfl, by decide, by decide, bag1, by omega, fun H2 way w0 w1 bag2 but2 => ?_⟩
    obtain ⟨top, et, t3, t9⟩ := top_at w0 w1
    refine ⟨by show 6 ≤ sizeLine; decide, fun t ht => ?_⟩
    refine ⟨_, rfl, t, _, _, _, rfl, rfl, SqL.of upd_same, et, ?_⟩
    have bag3 := bag2.keep (same_new (o := .lst [V.int 3, V.int 3, V.int 3, V.int 3, V.int 9, V.int 9]) ht)
    have but3 : But b H (upd H2 t (.lst [V.int 3, V.int 3, V.int 3, V.int 3, V.int 9, V.int 9])) := (but1.trans but2).trans (But.of (same_new ht))
    obtain ⟨many, em⟩ : ∃ many : Nat, (1 : Int) + d1 = (many : Nat) := ⟨(1 + d1).toNat, by omega⟩
    try dsimp only
    rw [em]
    have m1 : 1 ≤ many := by omega
    have m4 : many ≤ 4 := by omega
    refine ⟨_, rfl, _, rfl, by omega, by omega, ?_⟩
    rw [Int.toNat_natCast]
    refine for_range (fun i σ H' => ∃ (ds : List Nat) (vk vd : Option V), σ = [some (.ref b), some (.int (many : Nat)), some (.int way), some (.int top), some (.str (numS ds)), some (.int (24 - (ds.sum : Nat))), vk, vd] ∧
      ds.length = i ∧ (∀ d ∈ ds, 1 ≤ d ∧ d ≤ 9) ∧ ds.sum + (many - i) ≤ 24 ∧ Bag H' b (n + 2 + i) ∧ But b H H')
      ⟨[], none, none, by rw [numS_nil]; rfl, rfl, fun _ m => absurd m (List.not_mem_nil), by show 0 + (many - 0) ≤ 24; omega, bag3, but3⟩ (fun i σ H' hi hP => ?_) (fun σ H' hP => ?_)
    · obtain ⟨ds, vk, vd, rfl, el, hd, hs, bag, but⟩ := hP
      have eL : ((24 : Int) - (ds.sum : Nat)) - ((many : Nat) - 1 - (0 + (i : Nat))) = ((24 - ds.sum - (many - 1 - i) : Nat) : Int) := by omega
      -- the digit's draw
      refine ⟨_, rfl, _, rfl, _, rfl, _, rfl, _, _, rfl, rfl, _, rfl, _, _, rfl, rfl, _, _, rfl, rfl, _, _, rfl, ?_⟩
      (try dsimp only; rw [eL])
      generalize hlim : (if ((24 - ds.sum - (many - 1 - i) : Nat) : Int) < top then ((24 - ds.sum - (many - 1 - i) : Nat) : Int) else top) = lim
      have lim1 : 1 ≤ lim ∧ lim ≤ 9 ∧ lim ≤ ((24 - ds.sum - (many - 1 - i) : Nat) : Int) := by
        rw [← hlim]
        split <;> omega
      refine ⟨b, n + 2 + i, lim, rfl, by omega, by omega, bag, by omega, fun H3 g q0 q1 bag4 but4 => ?_⟩
      refine ⟨_, _, rfl, rfl, ?_⟩
      refine ⟨fun σ H4 => ∃ d : Nat, σ = [some (.ref b), some (.int (many : Nat)), some (.int way), some (.int top), some (.str (numS ds)), some (.int (24 - (ds.sum : Nat))), some (.int (0 + (i : Nat))), some (.int (d : Nat))] ∧
        (1 ≤ d ∧ d ≤ 9) ∧ ds.sum + d + (many - 1 - i) ≤ 24 ∧ H4 = H3, ?_, ?_⟩
      · have mid : ∃ d : Nat, (1 : Int) + g = (d : Nat) ∧ (1 ≤ d ∧ d ≤ 9) ∧ ds.sum + d + (many - 1 - i) ≤ 24 := ⟨(1 + g).toNat, by omega, by omega, by omega⟩
        obtain ⟨d, ed, hd9, hsum⟩ := mid
        (try dsimp only; rw [ed])
        refine ⟨_, rfl, rfl, _, rfl, ite2 (fun c1 => ?_) (fun c1 => ?_)⟩
        · refine ⟨_, rfl, _, rfl, _, _, rfl, rfl, rfl, _, rfl, ite2 (fun c2 => ?_) (fun c2 => ?_)⟩
          · refine ⟨_, rfl, _, _, rfl, ?_⟩
            have e2 : (0 : Int) + (i : Nat) = (many : Nat) - 1 := V.int.inj (of_decide_eq_true c2)
            have q : ∃ e : Nat, (if ((24 : Int) - (ds.sum : Nat)) < 9 then ((24 : Int) - (ds.sum : Nat)) else 9) = (e : Nat) ∧ (1 ≤ e ∧ e ≤ 9) ∧ ds.sum + e + (many - 1 - i) ≤ 24 := by
              split
              · exact ⟨24 - ds.sum, by omega, by omega, by omega⟩
              · exact ⟨9, rfl, by omega, by omega⟩
            obtain ⟨e, ee, he9, hes⟩ := q
            (try dsimp only; rw [ee])
            exact ⟨e, rfl, he9, hes, rfl⟩
          · exact ⟨d, rfl, hd9, hsum, rfl⟩
        · exact ⟨d, rfl, hd9, hsum, rfl⟩
      · rintro σ H4 ⟨d, rfl, hd9, hsum, rfl⟩
        refine ⟨_, rfl, _, rfl, _, rfl, dig_log hd9, _, _, rfl, rfl, ?_, ?_⟩
        · rw [dig_str hd9, numS_len, numS_len]
          exact Nat.le_of_lt (small1000 (by show ds.length + 1 ≤ 1000; omega))
        rw [dig_str hd9, numS_app]
        refine ⟨_, rfl, _, rfl, _, _, rfl, rfl, ?_⟩
        have e3 : (24 : Int) - (ds.sum : Nat) - (d : Nat) = 24 - ((ds ++ [d]).sum : Nat) := by rw [sum_snoc]; omega
        (try dsimp only; rw [e3])
        exact ⟨ds ++ [d], _, _, rfl, by rw [len_snoc, el], dig_snoc hd hd9, by rw [sum_snoc]; omega, bag4, but.trans but4⟩
    · obtain ⟨ds, vk, vd, rfl, el, hd, hs, bag, but⟩ := hP
      refine ⟨_, rfl, kk _ ds ⟨by omega, by omega, hd, by omega⟩ (bag.mono (by omega)) but⟩
end
end K08

namespace K08
open PySem L2 Wm TL Dv
section
variable {P : Program} {w : World} {K : PySem.W.Frag} {mg : Str → Option Value} {base : Heap}
theorem OLoop.k {H H' : Hp} {v : V} {l : List OB} (h : OLoop K H v l) (s : Same H H') : OLoop K H' v l := by
  obtain ⟨q, ys, t, e, hq, hd⟩ := h
  exact ⟨q, ys, t, e, hq.keep s, hd.k s⟩
theorem OTown.k {H H' : Hp} {x : V} {ls : List (List OB)} (h : OTown K H x ls) (s : Same H H') : OTown K H' x ls := by
  obtain ⟨p, xs, t, e, hp, el, ha⟩ := h
  exact ⟨p, xs, t, e, hp.keep s, el, fun i v hv => by
    obtain ⟨l, hl, hL⟩ := ha i v hv
    exact ⟨l, hl, hL.k s⟩⟩
theorem BoxesAt.snoc {H : Hp} {xs : List V} {bs : List OB} {x : V} {b : OB} (h : BoxesAt K H xs bs) (a : BoxAt K H x b) : BoxesAt K H (xs ++ [x]) (bs ++ [b]) := by
  refine ⟨by rw [List.length_append, List.length_append, h.1]; rfl, fun i v hv => ?_⟩
  by_cases lt : i < xs.length
  · rw [List.getElem?_append_left lt] at hv
    obtain ⟨c, hc, a2⟩ := h.2 i v hv
    exact ⟨c, by rw [List.getElem?_append_left (by rw [← h.1]; exact lt)]; exact hc, a2⟩
  · rw [List.getElem?_append_right (by omega)] at hv
    have e : i - xs.length = 0 := by
      by_cases q : i - xs.length = 0
      · exact q
      · rw [List.getElem?_eq_none (by rw [List.length_singleton]; omega)] at hv
        cases hv
    rw [e] at hv
    have hv : x = v := by simpa using hv
    subst hv
    refine ⟨b, ?_, a⟩
    rw [List.getElem?_append_right (by have := h.1; omega), show i - bs.length = 0 by have := h.1; omega]
    rfl
theorem ok_check_town (T : Txt K mg) : FnOk P w K mg base (L2.CX P w) 4 T.a_check_town T.d_check_town ["loops", "rounds", "hear"] (sp_check_town K T.CT) := by
  refine T.F_check_town.okX sc_check_town (fun vs H Q E h => ?_) (fun cdv A outer s H vs Q E hr h => ?_)
  · rcases h with h | h | h
    · obtain ⟨x, ls, r, h, rfl, _⟩ := h
      rfl
    · obtain ⟨x, y, z, ls, wd, rfl, _⟩ := h
      rfl
    · obtain ⟨x, y, z, ls, r, h, rfl, _⟩ := h
      rfl
  · rcases h with h | h | h
    · obtain ⟨x, ls, r, h, rfl, hx, G, r1, r8, h1, h2, hr', k⟩ := h
      have g2 := G.l2
      refine ⟨_, (pss_cons (ps_if (pt_not (pt_val (pe_call (ok_are_loops T) (hr.mono (by decide)) (by rfl) T.g_are_loops T.F_are_loops.kp T.b_are_loops .nil pass0 (pa_cons (pv 0) pa_nil))))
        (pss_one (ps_raiseLowT rfl T.lowT hr (takes_of rfl rfl rfl rfl) (by exact (pa_cons pe_str pa_nil))))
        pss_nil)
      (pss_cons (ps_expr (pe_callS (ok_check_boxes T) (hr.mono (by decide)) rfl T.g_check_boxes T.F_check_boxes.kp T.b_check_boxes (fun σ => passAt (takes_of rfl rfl rfl rfl) σ) (by exact (pa_cons (pe_lc2 (own := [("loop", 3), ("box", 4)]) (g := gName 3) (tt := tYes) (g1 := gName 4) (tt1 := tYes) (vs1 := [4]) rfl sc_check_town.nd (Kd.pi_seq (pv 0)) (blkOk_by (own := [("loop", 3), ("box", 4)]) (N := nm_check_town) (sc := (defScope s_check_town)) (by decide +kernel)) (by decide) (fun _ _ _ _ _ => pg_name (i := 3) sc_check_town.nd rfl (Or.inl rfl)) (fun _ _ _ _ _ => pts_nil) (fun _ _ _ _ _ => (show PI _ _ _ (Kd.iSeq K (tVar 3)) from (Kd.pi_seq (pv 3)))) (fun _ _ _ _ _ => pg_name (i := 4) sc_check_town.nd rfl (Or.inl rfl)) (fun _ _ _ _ _ => pts_nil) (fun _ _ _ _ _ => (pv 4))) pa_nil))))
      (pss_cons (ps_if (pt_not (pt_val (pe_call (ok_is_whole_within T) (hr.mono (by decide)) (by rfl) T.g_is_whole_within T.F_is_whole_within.kp T.b_is_whole_within .nil pass0 (pa_cons (pv 1) (pa_cons pe_int (pa_cons (pe_glob (v := V.int 8) rfl T.c_MOST_ROUNDS ⟨_, rfl⟩) pa_nil))))))
        (pss_one (ps_raiseLowT rfl T.lowT hr (takes_of rfl rfl rfl rfl) (by exact (pa_cons pe_str pa_nil))))
        pss_nil)
      (pss_one (ps_if (PW.pt (pw_or (pt_not (pt_val (pe_call (ok_is_whole_within T) (hr.mono (by decide)) (by rfl) T.g_is_whole_within T.F_is_whole_within.kp T.b_is_whole_within .nil pass0 (pa_cons (pv 2) (pa_cons pe_int (pa_cons pe_int pa_nil)))))) (pw_or1 (pt_cmpR op_gt (pv 2) (pv 1) (nomark _)))))
        (pss_one (ps_raiseLowT rfl T.lowT hr (takes_of rfl rfl rfl rfl) (by exact (pa_cons pe_str pa_nil))))
        pss_nil))))), ?_⟩
      refine ⟨_, rfl, .inl ⟨x, ls, rfl, hx, G, fun H1 s1 => ⟨true, rfl, iteF ?_⟩⟩⟩
      obtain ⟨p, xs, t, rfl, hS, el, ha⟩ := hx.k s1
      refine ⟨_, rfl, p, xs, t, rfl, hS, fun J GG w hG D hD => ?_⟩
      refine Et.out_it w (fun i H' => Same H1 H' ∧ ∃ ys, H' D = some (.lst ys) ∧ Dts K H' ys ((ls.take i).flatten.map boxD)) ⟨same_new hD, [], upd_same, by simp; exact .nil⟩ (fun i H' _ h => hG _ (hS.keep h.1)) (fun i x H2 H' hi hP hY => ?_) (fun H2 hP => ?_)
      · obtain ⟨sm, ys, hy, hys⟩ := hP
        obtain ⟨rfl, hx2⟩ := hY
        obtain ⟨l, hl, a⟩ := ha i x hx2
        obtain ⟨q1, zs, t1, rfl, hq1, hz1⟩ := a
        have hq := hq1.keep sm
        have hz := hz1.k (Kt.same (K := K) sm)
        have lz := boxes_len hz
        have b2 := G.b2 l (List.mem_of_getElem? hl)
        have fl := flat_le ls i G.b2
        refine ⟨rfl, yesT ?_⟩
        refine ⟨_, rfl, q1, zs, t1, rfl, hq, fun J1 GG1 w1 hG1 => ?_⟩
        refine Et.in_it w1 (fun j H3 => Same H1 H3 ∧ ∃ ys, H3 D = some (.lst ys) ∧ Dts K H3 ys (((ls.take i).flatten ++ l.take j).map boxD) ∧ Kt K H' H3) ⟨sm, ys, hy, by simpa using hys, Kt.refl⟩ (fun j H3 _ h => hG1 _ (hq1.keep h.1)) (fun j x H3 H4 hj hP hY => ?_) (fun H3 hP => ?_)
        · obtain ⟨sm3, ys3, hy3, hys3, kt⟩ := hP
          obtain ⟨rfl, hx3⟩ := hY
          obtain ⟨b, hb, a3⟩ := boxes_at hz hx3
          have l3 := boxes_len hys3
          rw [List.length_append, List.length_take] at l3
          have k5 : Kt K H4 (upd H4 D (.lst (ys3 ++ [x]))) := Kt.lst hy3
          refine ⟨rfl, yesT ?_⟩
          refine ⟨_, rfl, ys3, hy3, small1000 (by omega), same_mut sm3 hD, ys3 ++ [x], upd_same, ?_, kt.trans k5⟩
          rw [List.take_add_one, hb, ← List.append_assoc, List.map_append]
          exact (hys3.k k5).snoc ((a3.k kt).k k5)
        · obtain ⟨sm3, ys3, hy3, hys3, kt⟩ := hP
          refine ⟨sm3, ys3, hy3, ?_⟩
          rw [lz, List.take_length] at hys3
          rw [flat_succ hl]
          exact hys3
      obtain ⟨sm, ys, hy, hys⟩ := hP
      rw [el, List.take_length] at hys
      refine .inl ⟨D, ys, ls.flatten, rfl, SqL.of hy, hys, G.flat, G.num, G.nd, fun H5 s5 => ?_⟩
      refine ⟨_, rfl, .int r, some r, 1, 8, rfl, .int r, true, by rw [within_true r1 r8], iteF ?_⟩
      refine ⟨_, rfl, .int h, some h, 1, 2, rfl, .int h, true, by rw [within_true h1 h2], iteF ?_⟩
      refine ⟨_, rfl, _, rfl, _, _, rfl, rfl, _, rfl, ?_⟩
      rw [decide_eq_false (show ¬ h > r by omega)]
      refine iteF ?_
      exact k _ ((s1.trans sm).trans s5)
    · obtain ⟨x, y, z, ls, wd, rfl, hx, S, bad, er⟩ := h
      have g2 := S.l2
      refine ⟨_, (pss_cons (ps_if (pt_not (pt_val (pe_call (ok_are_loops T) (hr.mono (by decide)) (by rfl) T.g_are_loops T.F_are_loops.kp T.b_are_loops .nil pass0 (pa_cons (pv 0) pa_nil))))
        (pss_one (ps_raiseLowT rfl T.lowT hr (takes_of rfl rfl rfl rfl) (by exact (pa_cons pe_str pa_nil))))
        pss_nil)
      (pss_cons (ps_expr (pe_callS (ok_check_boxes T) (hr.mono (by decide)) rfl T.g_check_boxes T.F_check_boxes.kp T.b_check_boxes (fun σ => passAt (takes_of rfl rfl rfl rfl) σ) (by exact (pa_cons (pe_lc2 (own := [("loop", 3), ("box", 4)]) (g := gName 3) (tt := tYes) (g1 := gName 4) (tt1 := tYes) (vs1 := [4]) rfl sc_check_town.nd (Kd.pi_seq (pv 0)) (blkOk_by (own := [("loop", 3), ("box", 4)]) (N := nm_check_town) (sc := (defScope s_check_town)) (by decide +kernel)) (by decide) (fun _ _ _ _ _ => pg_name (i := 3) sc_check_town.nd rfl (Or.inl rfl)) (fun _ _ _ _ _ => pts_nil) (fun _ _ _ _ _ => (show PI _ _ _ (Kd.iSeq K (tVar 3)) from (Kd.pi_seq (pv 3)))) (fun _ _ _ _ _ => pg_name (i := 4) sc_check_town.nd rfl (Or.inl rfl)) (fun _ _ _ _ _ => pts_nil) (fun _ _ _ _ _ => (pv 4))) pa_nil))))
      (pss_cons (ps_if (pt_not (pt_val (pe_call (ok_is_whole_within T) (hr.mono (by decide)) (by rfl) T.g_is_whole_within T.F_is_whole_within.kp T.b_is_whole_within .nil pass0 (pa_cons (pv 1) (pa_cons pe_int (pa_cons (pe_glob (v := V.int 8) rfl T.c_MOST_ROUNDS ⟨_, rfl⟩) pa_nil))))))
        (pss_one (ps_raiseLowT rfl T.lowT hr (takes_of rfl rfl rfl rfl) (by exact (pa_cons pe_str pa_nil))))
        pss_nil)
      (pss_one (ps_if (PW.pt (pw_or (pt_not (pt_val (pe_call (ok_is_whole_within T) (hr.mono (by decide)) (by rfl) T.g_is_whole_within T.F_is_whole_within.kp T.b_is_whole_within .nil pass0 (pa_cons (pv 2) (pa_cons pe_int (pa_cons pe_int pa_nil)))))) (pw_or1 (pt_cmpR op_gt (pv 2) (pv 1) (nomark _)))))
        (pss_one (ps_raiseLowT rfl T.lowT hr (takes_of rfl rfl rfl rfl) (by exact (pa_cons pe_str pa_nil))))
        pss_nil))))), ?_⟩
      refine ⟨_, rfl, .inr ⟨x, ls, rfl, hx, S, fun H1 s1 => ⟨true, rfl, iteF ?_⟩⟩⟩
      obtain ⟨p, xs, t, rfl, hS, el, ha⟩ := hx.k s1
      refine ⟨_, rfl, p, xs, t, rfl, hS, fun J GG w hG D hD => ?_⟩
      refine Et.out_it w (fun i H' => Same H1 H' ∧ ∃ ys, H' D = some (.lst ys) ∧ BoxesAt K H1 ys (ls.take i).flatten) ⟨same_new hD, [], upd_same, by simp [BoxesAt]⟩ (fun i H' _ h => hG _ (hS.keep h.1)) (fun i x H2 H' hi hP hY => ?_) (fun H2 hP => ?_)
      · obtain ⟨sm, ys, hy, hys⟩ := hP
        obtain ⟨rfl, hx2⟩ := hY
        obtain ⟨l, hl, a⟩ := ha i x hx2
        obtain ⟨q1, zs, t1, rfl, hq1, hz1⟩ := a
        have hq := hq1.keep sm
        have lz := hz1.1
        have b2 := S.b2 l (List.mem_of_getElem? hl)
        have fl := flat_le ls i S.b2
        refine ⟨rfl, yesT ?_⟩
        refine ⟨_, rfl, q1, zs, t1, rfl, hq, fun J1 GG1 w1 hG1 => ?_⟩
        refine Et.in_it w1 (fun j H3 => Same H1 H3 ∧ ∃ ys, H3 D = some (.lst ys) ∧ BoxesAt K H1 ys ((ls.take i).flatten ++ l.take j)) ⟨sm, ys, hy, by simpa using hys⟩ (fun j H3 _ h => hG1 _ (hq1.keep h.1)) (fun j x H3 H4 hj hP hY => ?_) (fun H3 hP => ?_)
        · obtain ⟨sm3, ys3, hy3, hys3⟩ := hP
          obtain ⟨rfl, hx3⟩ := hY
          obtain ⟨b, hb, a3⟩ := hz1.2 j x hx3
          have l3 := hys3.1
          rw [List.length_append, List.length_take] at l3
          refine ⟨rfl, yesT ?_⟩
          refine ⟨_, rfl, ys3, hy3, small1000 (by omega), same_mut sm3 hD, ys3 ++ [x], upd_same, ?_⟩
          rw [List.take_add_one, hb, ← List.append_assoc]
          exact hys3.snoc a3
        · obtain ⟨sm3, ys3, hy3, hys3⟩ := hP
          refine ⟨sm3, ys3, hy3, ?_⟩
          rw [lz, List.take_length] at hys3
          rw [flat_succ hl]
          exact hys3
      obtain ⟨sm, ys, hy, hys⟩ := hP
      rw [el, List.take_length] at hys
      have fl30 : ls.flatten.length ≤ 30 := by
        have h := flat_le ls ls.length S.b2
        rw [List.take_length] at h
        omega
      exact .inr ⟨D, ys, ls.flatten, wd, rfl, SqL.of hy, hys.k sm, fl30, S.fl, bad, Er.after (E := E) er (s1.trans sm)⟩
    · obtain ⟨x, y, z, ls, r, h, rfl, hx, G, ty, tz, bad⟩ := h
      have g2 := G.l2
      refine ⟨_, (pss_cons (ps_if (pt_not (pt_val (pe_call (ok_are_loops T) (hr.mono (by decide)) (by rfl) T.g_are_loops T.F_are_loops.kp T.b_are_loops .nil pass0 (pa_cons (pv 0) pa_nil))))
        (pss_one (ps_raiseLowT rfl T.lowT hr (takes_of rfl rfl rfl rfl) (by exact (pa_cons pe_str pa_nil))))
        pss_nil)
      (pss_cons (ps_expr (pe_callS (ok_check_boxes T) (hr.mono (by decide)) rfl T.g_check_boxes T.F_check_boxes.kp T.b_check_boxes (fun σ => passAt (takes_of rfl rfl rfl rfl) σ) (by exact (pa_cons (pe_lc2 (own := [("loop", 3), ("box", 4)]) (g := gName 3) (tt := tYes) (g1 := gName 4) (tt1 := tYes) (vs1 := [4]) rfl sc_check_town.nd (Kd.pi_seq (pv 0)) (blkOk_by (own := [("loop", 3), ("box", 4)]) (N := nm_check_town) (sc := (defScope s_check_town)) (by decide +kernel)) (by decide) (fun _ _ _ _ _ => pg_name (i := 3) sc_check_town.nd rfl (Or.inl rfl)) (fun _ _ _ _ _ => pts_nil) (fun _ _ _ _ _ => (show PI _ _ _ (Kd.iSeq K (tVar 3)) from (Kd.pi_seq (pv 3)))) (fun _ _ _ _ _ => pg_name (i := 4) sc_check_town.nd rfl (Or.inl rfl)) (fun _ _ _ _ _ => pts_nil) (fun _ _ _ _ _ => (pv 4))) pa_nil))))
      (pss_cons (ps_if (pt_not (pt_val (pe_call (ok_is_whole_within T) (hr.mono (by decide)) (by rfl) T.g_is_whole_within T.F_is_whole_within.kp T.b_is_whole_within .nil pass0 (pa_cons (pv 1) (pa_cons pe_int (pa_cons (pe_glob (v := V.int 8) rfl T.c_MOST_ROUNDS ⟨_, rfl⟩) pa_nil))))))
        (pss_one (ps_raiseLowT rfl T.lowT hr (takes_of rfl rfl rfl rfl) (by exact (pa_cons pe_str pa_nil))))
        pss_nil)
      (pss_one (ps_if (PW.pt (pw_or (pt_not (pt_val (pe_call (ok_is_whole_within T) (hr.mono (by decide)) (by rfl) T.g_is_whole_within T.F_is_whole_within.kp T.b_is_whole_within .nil pass0 (pa_cons (pv 2) (pa_cons pe_int (pa_cons pe_int pa_nil)))))) (pw_or1 (pt_cmpR op_gt (pv 2) (pv 1) (nomark _)))))
        (pss_one (ps_raiseLowT rfl T.lowT hr (takes_of rfl rfl rfl rfl) (by exact (pa_cons pe_str pa_nil))))
        pss_nil))))), ?_⟩
      refine ⟨_, rfl, .inl ⟨x, ls, rfl, hx, G, fun H1 s1 => ⟨true, rfl, iteF ?_⟩⟩⟩
      obtain ⟨p, xs, t, rfl, hS, el, ha⟩ := hx.k s1
      refine ⟨_, rfl, p, xs, t, rfl, hS, fun J GG w hG D hD => ?_⟩
      refine Et.out_it w (fun i H' => Same H1 H' ∧ ∃ ys, H' D = some (.lst ys) ∧ Dts K H' ys ((ls.take i).flatten.map boxD)) ⟨same_new hD, [], upd_same, by simp; exact .nil⟩ (fun i H' _ h => hG _ (hS.keep h.1)) (fun i x H2 H' hi hP hY => ?_) (fun H2 hP => ?_)
      · obtain ⟨sm, ys, hy, hys⟩ := hP
        obtain ⟨rfl, hx2⟩ := hY
        obtain ⟨l, hl, a⟩ := ha i x hx2
        obtain ⟨q1, zs, t1, rfl, hq1, hz1⟩ := a
        have hq := hq1.keep sm
        have hz := hz1.k (Kt.same (K := K) sm)
        have lz := boxes_len hz
        have b2 := G.b2 l (List.mem_of_getElem? hl)
        have fl := flat_le ls i G.b2
        refine ⟨rfl, yesT ?_⟩
        refine ⟨_, rfl, q1, zs, t1, rfl, hq, fun J1 GG1 w1 hG1 => ?_⟩
        refine Et.in_it w1 (fun j H3 => Same H1 H3 ∧ ∃ ys, H3 D = some (.lst ys) ∧ Dts K H3 ys (((ls.take i).flatten ++ l.take j).map boxD) ∧ Kt K H' H3) ⟨sm, ys, hy, by simpa using hys, Kt.refl⟩ (fun j H3 _ h => hG1 _ (hq1.keep h.1)) (fun j x H3 H4 hj hP hY => ?_) (fun H3 hP => ?_)
        · obtain ⟨sm3, ys3, hy3, hys3, kt⟩ := hP
          obtain ⟨rfl, hx3⟩ := hY
          obtain ⟨b, hb, a3⟩ := boxes_at hz hx3
          have l3 := boxes_len hys3
          rw [List.length_append, List.length_take] at l3
          have k5 : Kt K H4 (upd H4 D (.lst (ys3 ++ [x]))) := Kt.lst hy3
          refine ⟨rfl, yesT ?_⟩
          refine ⟨_, rfl, ys3, hy3, small1000 (by omega), same_mut sm3 hD, ys3 ++ [x], upd_same, ?_, kt.trans k5⟩
          rw [List.take_add_one, hb, ← List.append_assoc, List.map_append]
          exact (hys3.k k5).snoc ((a3.k kt).k k5)
        · obtain ⟨sm3, ys3, hy3, hys3, kt⟩ := hP
          refine ⟨sm3, ys3, hy3, ?_⟩
          rw [lz, List.take_length] at hys3
          rw [flat_succ hl]
          exact hys3
      obtain ⟨sm, ys, hy, hys⟩ := hP
      rw [el, List.take_length] at hys
      refine .inl ⟨D, ys, ls.flatten, rfl, SqL.of hy, hys, G.flat, G.num, G.nd, fun H5 s5 => ?_⟩
      have sA := (s1.trans sm).trans s5
      have ty5 := ty.k sA
      have tz5 := tz.k sA
      rcases bad with ⟨wr, er⟩ | ⟨i, rfl, wr, wh, er⟩
      · refine ⟨_, rfl, y, r, 1, 8, rfl, ty5, within 1 8 r, rfl, ?_⟩
        rw [wr]
        refine iteT ?_
        exact ⟨_, rfl, fun dd hdd => er _ dd (sA.trans (same_new hdd)) upd_same⟩
      · refine ⟨_, rfl, y, some i, 1, 8, rfl, ty5, within 1 8 (some i), rfl, ?_⟩
        rw [wr]
        refine iteF ?_
        rcases wh with wh | ⟨j, rfl, lt⟩
        · refine ⟨_, rfl, z, h, 1, 2, rfl, tz5, within 1 2 h, rfl, ?_⟩
          rw [wh]
          refine iteT ?_
          exact ⟨_, rfl, fun dd hdd => er _ dd (sA.trans (same_new hdd)) upd_same⟩
        · cases ty5
          cases tz5
          refine ⟨_, rfl, .int j, some j, 1, 2, rfl, .int j, within 1 2 (some j), rfl, ?_⟩
          cases within 1 2 (some j) with
          | false =>
            refine iteT ?_
            exact ⟨_, rfl, fun dd hdd => er _ dd (sA.trans (same_new hdd)) upd_same⟩
          | true =>
            refine iteF ?_
            refine ⟨_, rfl, _, rfl, _, _, rfl, rfl, _, rfl, ?_⟩
            rw [decide_eq_true (show j > i by omega)]
            refine iteT ?_
            exact ⟨_, rfl, fun dd hdd => er _ dd (sA.trans (same_new hdd)) upd_same⟩
end
end K08

namespace K08
open PySem L2 Wm TL Dv
section
variable {P : Program} {w : World} {K : PySem.W.Frag} {mg : Str → Option Value} {base : Heap}
theorem dts_nums {H : Hp} : ∀ l : List Box, Dts K H (l.map numV) (l.map numD)
  | [] => .nil
  | b :: l => .cons (.str _) (dts_nums l)
theorem putF_len (f : Str) (v : V) : ∀ fs : List (Str × V), (putF f v fs).length ≤ fs.length + 1
  | [] => by simp [putF]
  | (g, x) :: r => by
    have ih := putF_len f v r
    unfold putF
    split
    · simp
    · simp only [List.length_cons]
      omega
/-- what stands at another place than p -/
def Off (p : Addr) (H H' : Hp) : Prop := ∀ q o, q ≠ p → H q = some o → H' q = some o
theorem Off.trans {p : Addr} {H H1 H2 : Hp} (a : Off p H H1) (b : Off p H1 H2) : Off p H H2 := fun q o n h => b q o n (a q o n h)
theorem Off.of {p : Addr} {H H' : Hp} (s : Same H H') : Off p H H' := fun q o _ h => s q o h
theorem Off.set {p : Addr} {H : Hp} {o : HO} : Off p H (upd H p o) := fun q u n h => by
  rw [upd_ne n]
  exact h
theorem kt_ins {H : Hp} {p C dx : Addr} {fs : List (Str × V)} {o : HO} (h : H p = some (.ins C dx fs)) : Kt K H (upd H p o) := Kt.set h (fun _ q => by cases q) (fun _ _ q => by cases q)
theorem ok_init (T : Txt K mg) : FnOk P w K mg base (L2.CX P w) 5 T.a_init T.d_init ["self", "loops", "rounds", "hear"] (sp_init K T.C T.CT) := by
  refine T.F_init.ok sc_init (fun vs H Q E h => ?_) (fun cdv A outer s H vs Q E hr h => ?_)
  · rcases h with h | h
    · obtain ⟨p, dx, x, ls, r, h, rfl, _⟩ := h
      rfl
    · obtain ⟨p, dx, ws, rfl, l3, _⟩ := h
      rw [List.length_cons, l3]
      rfl
  · rcases h with h | h
    · obtain ⟨p, dx, x, ls, r, h, rfl, hp, hx, G, r1, r8, h1, h2, hr', k⟩ := h
      have g2 := G.l2
      refine ⟨_, (pss_cons (ps_expr (pe_callS (ok_check_town T) (hr.mono (by decide)) rfl T.g_check_town T.F_check_town.kp T.b_check_town (fun σ => passAt (takes_of rfl rfl rfl rfl) σ) (by exact (pa_cons (pv 1) (pa_cons (pv 2) (pa_cons (pv 3) pa_nil))))))
      (pss_cons (ps_fld (pv 0) (pe_callTy call_tuple_of (by rfl) T.z_tuple (by decide +kernel) (pa_cons (pe_lc (own := [("loop", 4)]) (g := gName 4) (tt := tYes) rfl sc_init.nd (Kd.pi_seq (pv 1)) (blkOk_by (own := [("loop", 4)]) (N := nm_init) (sc := (defScope s_init)) (by decide +kernel)) (fun _ _ _ _ _ => pg_name (i := 4) sc_init.nd rfl (Or.inl rfl)) (fun _ _ _ _ _ => pts_nil) (fun _ _ _ _ _ => (pe_callTy (show CallR _ _ (Kx.rTupOf K) from call_tuple_of) (by rfl) T.z_tuple (by decide +kernel) (pa_cons (pe_lc (own := [("box", 5)]) (g := gName 5) (tt := tYes) rfl sc_init.nd (show PI _ _ _ (Kd.iSeq K (tVar 4)) from (Kd.pi_seq (pv 4))) (blkOk_by (own := [("box", 5)]) (N := nm_init) (sc := ({ kind := .function, names := [(".0", .local), ("loop", .local), ("tuple", .globalImplicit)], isGenerator := false, isCoroutine := false } : Scope)) (by decide +kernel)) (fun _ _ _ _ _ => pg_name (i := 5) sc_init.nd rfl (Or.inl rfl)) (fun _ _ _ _ _ => pts_nil) (fun _ _ _ _ _ => (pe_callTy (show CallR _ _ (Kx.rTup K) from call_tupleT) (by rfl) T.z_tuple (by decide +kernel) (pa_cons (pv 5) pa_nil)))) pa_nil)))) pa_nil)) rfl)
      (pss_cons (ps_fld (pv 0) (pv 2) rfl)
      (pss_cons (ps_fld (pv 0) (pv 3) rfl)
      (pss_one (ps_fld (pv 0) (pe_callTy call_tuple_of (by rfl) T.z_tuple (by decide +kernel) (pa_cons (pe_lc2 (own := [("loop", 4), ("number", 6), ("_", 7)]) (g := gName 4) (tt := tYes) (g1 := gTup K 2 (gCons (gName 6) (gCons (gName 7) (gNil)))) (tt1 := tYes) (vs1 := [6, 7]) rfl sc_init.nd (pi_tup (pe_fld (pv 0) rfl)) (blkOk_by (own := [("loop", 4), ("number", 6), ("_", 7)]) (N := nm_init) (sc := (defScope s_init)) (by decide +kernel)) (by decide) (fun _ _ _ _ _ => pg_name (i := 4) sc_init.nd rfl (Or.inl rfl)) (fun _ _ _ _ _ => pts_nil) (fun _ _ _ _ _ => (show PI _ _ _ (Kd.iSeq K (tVar 4)) from (Kd.pi_seq (pv 4)))) (fun _ _ _ _ _ => (pg_tup rfl (pgs_cons (pg_name (i := 6) sc_init.nd rfl (Or.inl rfl)) (pgs_cons (pg_name (i := 7) sc_init.nd rfl (Or.inl rfl)) pgs_nil)))) (fun _ _ _ _ _ => pts_nil) (fun _ _ _ _ _ => (pv 6))) pa_nil)) rfl)))))), ?_⟩
      refine ⟨_, rfl, _, rfl, _, rfl, .inl ⟨x, ls, r, h, rfl, hx, G, r1, r8, h1, h2, hr', fun H1 s1 => ?_⟩⟩
      obtain ⟨a, xs, t, rfl, hS, el, ha⟩ := hx.k s1
      refine ⟨_, rfl, a, xs, t, rfl, hS, fun J GG w hG D hD => ?_⟩
      refine Lm.lc_map (K := K) w (fun i y H' => ∃ d, (ls.map loopD)[i]? = some d ∧ Dt K H' y d) (fun _ _ _ _ ⟨d, e, t⟩ kt => ⟨d, e, t.k kt⟩) hD (by omega) (fun H' s => hG _ (hS.keep s)) (fun i x H' hi hx2 sm Q2 Z q => ?_) (fun H2 ys s2 hy ly hR => ?_)
      · obtain ⟨l, hl, t⟩ := ha i x hx2
        have hd2 : (ls.map loopD)[i]? = some (loopD l) := by rw [List.getElem?_map, hl]; rfl
        obtain ⟨q1, zs, t1, rfl, hq, hz⟩ := t.k sm
        have lz := boxes_len hz
        have b2 := G.b2 l (List.mem_of_getElem? hl)
        refine ⟨rfl, yesT ?_⟩
        refine ⟨_, rfl, q1, zs, t1, rfl, hq, fun J1 GG1 w1 hG1 D2 hD2 => ?_⟩
        refine Lm.lc_map (K := K) w1 (fun i y H' => ∃ d, (l.map boxD)[i]? = some d ∧ Dt K H' y d) (fun _ _ _ _ ⟨d, e, t⟩ kt => ⟨d, e, t.k kt⟩) hD2 (by omega) (fun H' s => hG1 _ (hq.keep s)) (fun j x H3 hj hx3 sm3 Q3 Z3 q3 => ?_) (fun H3 zs3 s3 hy3 ly3 hR3 => ?_)
        · obtain ⟨b, hb, t3⟩ := boxes_at hz hx3
          have t4 := t3.k (Kt.same sm3)
          obtain ⟨q2, rfl, hq2⟩ := box_inv t4
          refine ⟨rfl, yesT ?_⟩
          exact ⟨_, rfl, q2, _, rfl, hq2, q3 _ _ (Same.refl _) ⟨boxD b, by rw [List.getElem?_map, hb]; rfl, t4⟩⟩
        · refine ⟨D2, zs3, rfl, .inl ⟨SqL.of hy3, fun l2 hl2 => ?_⟩⟩
          have kt := Kt.new (K := K) (o := .tup zs3) hl2
          refine q _ _ (s3.trans (same_new hl2)) ⟨_, hd2, dt_tup upd_same ?_⟩
          exact (dts_of (by rw [ly3, lz, List.length_map]) hR3).k kt
      have hds := dts_of (by rw [ly, el, List.length_map]) hR
      refine ⟨D, ys, rfl, .inl ⟨SqL.of hy, fun lp hlp => ?_⟩⟩
      have s3 : Same H (upd H2 lp (.tup ys)) := (s1.trans s2).trans (same_new hlp)
      have hloops : Dt K (upd H2 lp (.tup ys)) (.ref lp) (townD ls) := dt_tup upd_same (hds.k (Kt.new hlp))
      generalize upd H2 lp (.tup ys) = H3 at *
      have hp3 := s3 _ _ hp
      refine ⟨_, rfl, p, T.C, dx, _, rfl, hp3, T.clC, T.nL, by show 0 < 1000; decide, ?_⟩
      have hp4 : upd H3 p (.ins T.C dx (putF "loops" (.ref lp) [])) p = some (.ins T.C dx (putF "loops" (.ref lp) [])) := upd_same
      have lf1 := putF_len "loops" (.ref lp) []
      refine ⟨_, rfl, _, rfl, p, T.C, dx, _, rfl, hp4, T.clC, T.nR, by simp only [List.length_nil] at lf1; omega, ?_⟩
      have lf2 := putF_len "rounds" (.int r) (putF "loops" (.ref lp) [])
      refine ⟨_, rfl, _, rfl, p, T.C, dx, _, rfl, upd_same, T.clC, T.nH, by simp only [List.length_nil] at lf1; omega, ?_⟩
      have lf3 := putF_len "hear" (.int h) (putF "rounds" (.int r) (putF "loops" (.ref lp) []))
      have k4 : Kt K H3 (upd H3 p (.ins T.C dx (putF "loops" (.ref lp) []))) := kt_ins hp3
      have k5 := k4.trans (kt_ins (o := .ins T.C dx (putF "rounds" (.int r) (putF "loops" (.ref lp) []))) hp4)
      have k6 := k5.trans (kt_ins (o := .ins T.C dx (putF "hear" (.int h) (putF "rounds" (.int r) (putF "loops" (.ref lp) [])))) upd_same)
      have o6 : Off p H (upd (upd (upd H3 p (.ins T.C dx (putF "loops" (.ref lp) []))) p (.ins T.C dx (putF "rounds" (.int r) (putF "loops" (.ref lp) [])))) p (.ins T.C dx (putF "hear" (.int h) (putF "rounds" (.int r) (putF "loops" (.ref lp) []))))) := (((Off.of s3).trans Off.set).trans Off.set).trans Off.set
      have hp6 : upd (upd (upd H3 p (.ins T.C dx (putF "loops" (.ref lp) []))) p (.ins T.C dx (putF "rounds" (.int r) (putF "loops" (.ref lp) [])))) p (.ins T.C dx (putF "hear" (.int h) (putF "rounds" (.int r) (putF "loops" (.ref lp) [])))) p = some (.ins T.C dx (putF "hear" (.int h) (putF "rounds" (.int r) (putF "loops" (.ref lp) [])))) := upd_same
      have hl6 := hloops.k k6
      have e1 : ¬ ("loops" : Str) = "rounds" := by decide +kernel
      have e2 : ¬ ("loops" : Str) = "hear" := by decide +kernel
      have e3 : ¬ ("loops" : Str) = "numbers" := by decide +kernel
      have e4 : ¬ ("rounds" : Str) = "hear" := by decide +kernel
      have e5 : ¬ ("rounds" : Str) = "numbers" := by decide +kernel
      have e6 : ¬ ("hear" : Str) = "numbers" := by decide +kernel
      have lk : (putF "hear" (.int h) (putF "rounds" (.int r) (putF "loops" (.ref lp) []))).lookup ("loops" : Str) = some (.ref lp) := by
        rw [lookup_putF, if_neg e2, lookup_putF, if_neg e1, lookup_putF, if_pos rfl]
      have lr : (putF "hear" (.int h) (putF "rounds" (.int r) (putF "loops" (.ref lp) []))).lookup ("rounds" : Str) = some (.int r) := by
        rw [lookup_putF, if_neg e4, lookup_putF, if_pos rfl]
      have lh : (putF "hear" (.int h) (putF "rounds" (.int r) (putF "loops" (.ref lp) []))).lookup ("hear" : Str) = some (.int h) := by
        rw [lookup_putF, if_pos rfl]
      have lw : ∀ m : Str, m ≠ "loops" → m ≠ "rounds" → m ≠ "hear" → (putF "hear" (.int h) (putF "rounds" (.int r) (putF "loops" (.ref lp) []))).lookup m = none := fun m w0 w1 w2 => by
        rw [lookup_putF, if_neg w2, lookup_putF, if_neg w1, lookup_putF, if_neg w0]
        rfl
      have lf : (putF "hear" (.int h) (putF "rounds" (.int r) (putF "loops" (.ref lp) []))).length ≤ 3 := by simp only [List.length_nil] at lf1; omega
      generalize (putF "hear" (.int h) (putF "rounds" (.int r) (putF "loops" (.ref lp) []))) = fs at *
      generalize upd (upd (upd H3 p (.ins T.C dx (putF "loops" (.ref lp) []))) p (.ins T.C dx (putF "rounds" (.int r) (putF "loops" (.ref lp) [])))) p (.ins T.C dx fs) = H6 at *
      obtain ⟨a6, xs6, e6, hS6, hd6⟩ := hl6.inv
      cases e6
      have el6 : xs6.length = ls.length := by rw [hd6.len, List.length_map]
      refine ⟨_, rfl, p, T.C, dx, _, _, rfl, hp6, T.clC, T.nL, lk, lp, rfl, ⟨_, hS6⟩, fun D7 hD7 => ?_⟩
      refine Et.out_it walk_tup (fun i H' => Same H6 H' ∧ ∃ ys, H' D7 = some (.lst ys) ∧ ys = (ls.take i).flatten.map numV) ⟨same_new hD7, [], upd_same, by simp⟩ (fun i H' _ h => sameT h.1 hS6) (fun i x H7 H' hi hP hY => ?_) (fun H7 hP => ?_)
      · obtain ⟨sm, ys, hy, hys⟩ := hP
        obtain ⟨rfl, hx2⟩ := hY
        obtain ⟨d, hd2, t⟩ := hd6.at hx2
        rw [List.getElem?_map] at hd2
        obtain ⟨l, hl, rfl⟩ := Option.map_eq_some_iff.mp hd2
        obtain ⟨q1, zs, rfl, hq, hz⟩ := (t.k (Kt.same sm)).inv
        have lz := boxes_len hz
        have b2 := G.b2 l (List.mem_of_getElem? hl)
        have fl := flat_le ls i G.b2
        refine ⟨rfl, yesT ?_⟩
        refine ⟨_, rfl, q1, zs, true, rfl, hq, fun J1 GG1 w1 hG1 => ?_⟩
        refine Et.in_it w1 (fun j H3 => Same H6 H3 ∧ ∃ ys, H3 D7 = some (.lst ys) ∧ ys = ((ls.take i).flatten ++ l.take j).map numV ∧ Kt K H' H3) ⟨sm, ys, hy, by simpa using hys, Kt.refl⟩ (fun j H3 _ h => let ⟨_, _, _, _, t⟩ := h; hG1 _ (t _ _ hq)) (fun j x H3 H4 hj hP hY => ?_) (fun H3 hP => ?_)
        · obtain ⟨sm3, ys3, hy3, hys3, kt⟩ := hP
          obtain ⟨rfl, hx3⟩ := hY
          obtain ⟨b, hb, a3⟩ := boxes_at hz hx3
          obtain ⟨q2, rfl, hq2⟩ := box_inv (a3.k kt)
          have l3 : ys3.length ≤ 100 := by rw [hys3, List.length_map, List.length_append, List.length_take]; omega
          have k5 : Kt K H4 (upd H4 D7 (.lst (ys3 ++ [.str (numS b.1)]))) := Kt.lst hy3
          refine ⟨q2, _, rfl, hq2, rfl, _, _, rfl, _, _, rfl, rfl, rfl, yesT ?_⟩
          refine ⟨_, rfl, ys3, hy3, small1000 (by omega), same_mut sm3 hD7, ys3 ++ [.str (numS b.1)], upd_same, ?_, kt.trans k5⟩
          rw [List.take_add_one, hb, ← List.append_assoc, List.map_append, hys3]
          rfl
        · obtain ⟨sm3, ys3, hy3, hys3, kt⟩ := hP
          refine ⟨sm3, ys3, hy3, ?_⟩
          rw [lz, List.take_length] at hys3
          rw [flat_succ hl]
          exact hys3
      obtain ⟨sm7, ys7, hy7, hys7⟩ := hP
      rw [el6, List.take_length] at hys7
      refine ⟨D7, ys7, rfl, .inl ⟨SqL.of hy7, fun l8 hl8 => ?_⟩⟩
      have s8 : Same H6 (upd H7 l8 (.tup ys7)) := sm7.trans (same_new hl8)
      have t8 : Dt K (upd H7 l8 (.tup ys7)) (.ref l8) (.tuple (ls.flatten.map numD)) := by
        refine dt_tup upd_same ?_
        rw [hys7]
        exact dts_nums _
      refine ⟨_, rfl, p, T.C, dx, _, rfl, s8 _ _ hp6, T.clC, T.nN, by omega, ?_⟩
      have k9 := kt_ins (K := K) (o := .ins T.C dx (putF "numbers" (.ref l8) fs)) (s8 _ _ hp6)
      refine k _ ((o6.trans (Off.of s8)).trans Off.set) ⟨dx, _, .ref lp, .ref l8, upd_same, ?_, ?_, ?_, ?_, fun m m0 m1 m2 m3 => ?_, (hl6.k (Kt.same s8)).k k9, t8.k k9⟩
      · rw [lookup_putF, if_neg e3]
        exact lk
      · rw [lookup_putF, if_neg e5]
        exact lr
      · rw [lookup_putF, if_neg e6]
        exact lh
      · rw [lookup_putF, if_pos rfl]
      · rw [lookup_putF, if_neg m3]
        exact lw m m0 m1 m2
    · obtain ⟨p, dx, ws, rfl, l3, hp, bad⟩ := h
      obtain ⟨a, b, c, rfl⟩ : ∃ a b c, ws = [a, b, c] := match ws, l3 with | [a, b, c], _ => ⟨a, b, c, rfl⟩
      refine ⟨_, (pss_cons (ps_expr (pe_callS (ok_check_town T) (hr.mono (by decide)) rfl T.g_check_town T.F_check_town.kp T.b_check_town (fun σ => passAt (takes_of rfl rfl rfl rfl) σ) (by exact (pa_cons (pv 1) (pa_cons (pv 2) (pa_cons (pv 3) pa_nil))))))
      (pss_cons (ps_fld (pv 0) (pe_callTy call_tuple_of (by rfl) T.z_tuple (by decide +kernel) (pa_cons (pe_lc (own := [("loop", 4)]) (g := gName 4) (tt := tYes) rfl sc_init.nd (Kd.pi_seq (pv 1)) (blkOk_by (own := [("loop", 4)]) (N := nm_init) (sc := (defScope s_init)) (by decide +kernel)) (fun _ _ _ _ _ => pg_name (i := 4) sc_init.nd rfl (Or.inl rfl)) (fun _ _ _ _ _ => pts_nil) (fun _ _ _ _ _ => (pe_callTy (show CallR _ _ (Kx.rTupOf K) from call_tuple_of) (by rfl) T.z_tuple (by decide +kernel) (pa_cons (pe_lc (own := [("box", 5)]) (g := gName 5) (tt := tYes) rfl sc_init.nd (show PI _ _ _ (Kd.iSeq K (tVar 4)) from (Kd.pi_seq (pv 4))) (blkOk_by (own := [("box", 5)]) (N := nm_init) (sc := ({ kind := .function, names := [(".0", .local), ("loop", .local), ("tuple", .globalImplicit)], isGenerator := false, isCoroutine := false } : Scope)) (by decide +kernel)) (fun _ _ _ _ _ => pg_name (i := 5) sc_init.nd rfl (Or.inl rfl)) (fun _ _ _ _ _ => pts_nil) (fun _ _ _ _ _ => (pe_callTy (show CallR _ _ (Kx.rTup K) from call_tupleT) (by rfl) T.z_tuple (by decide +kernel) (pa_cons (pv 5) pa_nil)))) pa_nil)))) pa_nil)) rfl)
      (pss_cons (ps_fld (pv 0) (pv 2) rfl)
      (pss_cons (ps_fld (pv 0) (pv 3) rfl)
      (pss_one (ps_fld (pv 0) (pe_callTy call_tuple_of (by rfl) T.z_tuple (by decide +kernel) (pa_cons (pe_lc2 (own := [("loop", 4), ("number", 6), ("_", 7)]) (g := gName 4) (tt := tYes) (g1 := gTup K 2 (gCons (gName 6) (gCons (gName 7) (gNil)))) (tt1 := tYes) (vs1 := [6, 7]) rfl sc_init.nd (pi_tup (pe_fld (pv 0) rfl)) (blkOk_by (own := [("loop", 4), ("number", 6), ("_", 7)]) (N := nm_init) (sc := (defScope s_init)) (by decide +kernel)) (by decide) (fun _ _ _ _ _ => pg_name (i := 4) sc_init.nd rfl (Or.inl rfl)) (fun _ _ _ _ _ => pts_nil) (fun _ _ _ _ _ => (show PI _ _ _ (Kd.iSeq K (tVar 4)) from (Kd.pi_seq (pv 4)))) (fun _ _ _ _ _ => (pg_tup rfl (pgs_cons (pg_name (i := 6) sc_init.nd rfl (Or.inl rfl)) (pgs_cons (pg_name (i := 7) sc_init.nd rfl (Or.inl rfl)) pgs_nil)))) (fun _ _ _ _ _ => pts_nil) (fun _ _ _ _ _ => (pv 6))) pa_nil)) rfl)))))), ?_⟩
      exact ⟨_, rfl, _, rfl, _, rfl, .inr bad⟩
end
end K08

namespace K08
open PySem L2 Wm TL Dv
section
variable {P : Program} {w : World} {K : PySem.W.Frag} {mg : Str → Option Value} {base : Heap}
theorem TownAt.keep {C : Addr} {H H' : Hp} {p : Addr} {ls : List (List Box)} {r h : Int} (q : TownAt K C H p ls r h) (s : Same H H') : TownAt K C H' p ls r h := by
  obtain ⟨dx, fs, y, y2, hp, l1, l2, l3, l4, l5, t, t2⟩ := q
  exact ⟨dx, fs, y, y2, s _ _ hp, l1, l2, l3, l4, l5, t.k (Kt.same s), t2.k (Kt.same s)⟩
theorem town_at {H : Hp} {xs : List V} {ls : List (List Box)} {i : Nat} {x : V} (h : Dts K H xs (ls.map loopD)) (hx : xs[i]? = some x) : ∃ l, ls[i]? = some l ∧ Dt K H x (loopD l) := by
  obtain ⟨d, e, t⟩ := h.at hx
  rw [List.getElem?_map] at e
  obtain ⟨l, el, rfl⟩ := Option.map_eq_some_iff.mp e
  exact ⟨l, el, t⟩
theorem town_len {H : Hp} {xs : List V} {ls : List (List Box)} (h : Dts K H xs (ls.map loopD)) : xs.length = ls.length := by rw [h.len, List.length_map]
theorem shaped_num {b : Box} (h : Num b.1) : SeqAt.shaped (.str (numS b.1)) = true := (fine_num (n := 0) fun d m => (h.3 d m).2 : Fine 0 _).shaped (by decide)
theorem ok_site_of (T : Txt K mg) : FnOk P w K mg base (L2.CX P w) 3 T.a_site_of T.d_site_of ["self", "number"] (sp_site_of K T.C T.CB) := by
  refine T.F_site_of.okX sc_site_of (fun vs H Q E h => ?_) (fun cdv A outer s H vs Q E hr h => ?_)
  · obtain ⟨p, x, d, ls, r, h, rfl, _⟩ := h
    rfl
  · obtain ⟨p, x, d, ls, r, h, rfl, hT, G, hd, sd, kS, kE⟩ := h
    obtain ⟨dx, fs, y, y2, hp, l1, l2, l3, l4, l5, t, t2⟩ := id hT
    obtain ⟨q, xs, rfl, hS, hds⟩ := t.inv
    have el := town_len hds
    refine ⟨_, (pss_cons (ps_for (passes_of rfl) rfl (Es.pi_ent (by rfl) T.z_enumerate (pa_cons (pe_fld (pv 0) rfl) pa_nil)) (pg_tup rfl (pgs_cons (pg_name (i := 2) sc_site_of.nd rfl (Or.inl rfl)) (pgs_cons (pg_name (i := 3) sc_site_of.nd rfl (Or.inl rfl)) pgs_nil)))
        (pss_one (ps_for (passes_of rfl) rfl (Es.pi_ent (by rfl) T.z_enumerate (pa_cons (pv 3) pa_nil)) (pg_tup rfl (pgs_cons (pg_name (i := 4) sc_site_of.nd rfl (Or.inl rfl)) (pgs_cons (pg_name (i := 5) sc_site_of.nd rfl (Or.inl rfl)) pgs_nil)))
          (pss_one (ps_if (pt_cmpR (op_eqD hr.units) (pe_ix ix_tup (pv 5) pe_int (fun _ _ => rfl)) (pv 1) (nomark _))
            (pss_one (ps_ret (pe_tup (pa_cons (pv 2) (pa_cons (pv 4) pa_nil)))))
            pss_nil)))))
      (pss_one (ps_raiseLowB rfl T.lowB hr (takes_of rfl rfl rfl rfl) (by exact (pa_cons (pv 1) pa_nil))))), ?_⟩
    refine ⟨_, rfl, p, T.C, dx, fs, _, rfl, hp, T.clC, T.nL, l1, q, xs, rfl, hS, ?_⟩
    refine for_it Es.walk_ent (fun i σ H' => ∃ v2 v3 v4 v5, σ = [some (.ref p), some x, v2, v3, v4, v5] ∧ Same H H' ∧ ∀ b ∈ (ls.take i).flatten, PyData.eqv (.str (numS b.1)) d = false)
      ⟨none, none, none, none, rfl, Same.refl _, by simp⟩ (fun i σ H' _ h => let ⟨_, _, _, _, _, s, _⟩ := h; sameT s hS) (fun i v σ H1 H' hi hP hY => ?_) (fun σ H1 hP => ?_)
    · obtain ⟨v2, v3, v4, v5, rfl, sm, no⟩ := hP
      obtain ⟨tp, x1, x2, rfl, ht, rfl, e1, e2⟩ := hY
      cases e1
      obtain ⟨l, hl, tl⟩ := town_at hds e2
      obtain ⟨q2, zs, rfl, hq2, hz⟩ := tl.inv
      have lz := boxes_len hz
      have sB : Same H (upd H1 tp (.tup [.int (i : Nat), .ref q2])) := sm.trans (same_new ht)
      refine ⟨tp, _, rfl, SqT.of upd_same, rfl, _, _, rfl, _, _, rfl, rfl, ?_⟩
      generalize upd H1 tp (.tup [.int (i : Nat), .ref q2]) = H2 at *
      refine ⟨_, rfl, q2, zs, rfl, sameT sB hq2, ?_⟩
      refine for_it Es.walk_ent (fun j σ H' => ∃ v4 v5, σ = [some (.ref p), some x, some (.int (i : Nat)), some (.ref q2), v4, v5] ∧ Same H H' ∧ ∀ b ∈ (ls.take i).flatten ++ l.take j, PyData.eqv (.str (numS b.1)) d = false)
        ⟨v4, v5, rfl, sB, by simpa using no⟩ (fun j σ H' _ h => let ⟨_, _, _, s, _⟩ := h; sameT s hq2) (fun j v σ H3 H' hj hP hY => ?_) (fun σ H3 hP => ?_)
      · obtain ⟨v4, v5, rfl, sm3, no3⟩ := hP
        obtain ⟨tp3, x3, x4, rfl, ht3, rfl, e3, e4⟩ := hY
        cases e3
        obtain ⟨b, hb, tb⟩ := boxes_at hz e4
        obtain ⟨q3, rfl, hq3⟩ := box_inv tb
        have sC : Same H (upd H3 tp3 (.tup [.int (j : Nat), .ref q3])) := sm3.trans (same_new ht3)
        refine ⟨tp3, _, rfl, SqT.of upd_same, rfl, _, _, rfl, _, _, rfl, rfl, ?_⟩
        generalize upd H3 tp3 (.tup [.int (j : Nat), .ref q3]) = H4 at *
        have nb := G.num b (List.mem_flatten.mpr ⟨l, List.mem_of_getElem? hl, List.mem_of_getElem? hb⟩)
        refine ⟨_, rfl, q3, _, 0, _, rfl, rfl, sameT sC hq3, atI_nat (j := 0) rfl, _, rfl, _, d, .str _, hd _ sC, shaped_num nb, sd, _, rfl, ite2 (fun c => ?_) (fun c => ?_)⟩
        · refine ⟨_, rfl, _, rfl, by show 2 ≤ sizeLine; decide, fun q9 hq9 => ?_⟩
          exact kS i j l b hl hb c _ q9 (sC.trans (same_new hq9)) (sC.free hq9) upd_same
        · refine ⟨_, _, rfl, sC, fun b' m => ?_⟩
          rw [List.take_add_one, hb, ← List.append_assoc] at m
          rcases List.mem_append.mp m with m | m
          · exact no3 b' m
          · have e : b' = b := by simpa using m
            rw [e]
            exact Bool.eq_false_iff.mpr c
      · obtain ⟨v4, v5, rfl, sm3, no3⟩ := hP
        rw [lz, List.take_length] at no3
        refine ⟨_, _, _, _, rfl, sm3, ?_⟩
        rw [flat_succ hl]
        exact no3
    · obtain ⟨v2, v3, v4, v5, rfl, sm, no⟩ := hP
      rw [el, List.take_length] at no
      exact ⟨_, rfl, _, rfl, fun dd hdd => kE no _ dd (sm.trans (same_new hdd)) upd_same⟩
theorem ne_names (m : Str) (a : decide (m = "loops") = false) (b : decide (m = "rounds") = false) (c : decide (m = "hear") = false) (d : decide (m = "numbers") = false) : m ≠ "loops" ∧ m ≠ "rounds" ∧ m ≠ "hear" ∧ m ≠ "numbers" :=
  ⟨of_decide_eq_false a, of_decide_eq_false b, of_decide_eq_false c, of_decide_eq_false d⟩
theorem no_site : ("site_of" : Str) ≠ "loops" ∧ ("site_of" : Str) ≠ "rounds" ∧ ("site_of" : Str) ≠ "hear" ∧ ("site_of" : Str) ≠ "numbers" := ne_names _ (by decide +kernel) (by decide +kernel) (by decide +kernel) (by decide +kernel)
theorem ok_loop_of (T : Txt K mg) : FnOk P w K mg base (L2.CX P w) 4 T.a_loop_of T.d_loop_of ["self", "number"] (sp_loop_of K T.C T.CB) := by
  refine T.F_loop_of.okX sc_loop_of (fun vs H Q E h => ?_) (fun cdv A outer s H vs Q E hr h => ?_)
  · obtain ⟨p, x, d, ls, r, h, rfl, _⟩ := h
    rfl
  · obtain ⟨p, x, d, ls, r, h, rfl, hT, G, hd, sd, kS, kE⟩ := h
    obtain ⟨dx, fs, y, y2, hp, l1, l2, l3, l4, l5, t, t2⟩ := id hT
    refine ⟨_, (pss_one (ps_ret (pe_ix ix_tup (MS.pe_methS (pv 0) T.clC T.m_site_of (ok_site_of T) (hr.mono (by decide)) T.b_site_of (fun σ => passAt (takes_of rfl rfl rfl rfl) σ) (by exact (pa_cons (pv 1) pa_nil))) pe_int (fun _ _ => rfl)))), ?_⟩
    refine ⟨_, rfl, p, dx, fs, rfl, hp, l5 _ no_site.1 no_site.2.1 no_site.2.2.1 no_site.2.2.2, _, rfl, p, x, d, ls, r, h, rfl, hT, G, hd, sd, fun i j l b hl hb e H1 q s1 _ hq => ?_, fun no => kE no⟩
    exact ⟨q, _, 0, _, rfl, rfl, SqT.of hq, atI_nat (j := 0) rfl, kS i j l b hl hb e _ s1⟩
theorem ok_place_of (T : Txt K mg) : FnOk P w K mg base (L2.CX P w) 4 T.a_place_of T.d_place_of ["self", "number"] (sp_place_of K T.C T.CB) := by
  refine T.F_place_of.okX sc_place_of (fun vs H Q E h => ?_) (fun cdv A outer s H vs Q E hr h => ?_)
  · obtain ⟨p, x, d, ls, r, h, rfl, _⟩ := h
    rfl
  · obtain ⟨p, x, d, ls, r, h, rfl, hT, G, hd, sd, kS, kE⟩ := h
    obtain ⟨dx, fs, y, y2, hp, l1, l2, l3, l4, l5, t, t2⟩ := id hT
    refine ⟨_, (pss_one (ps_ret (pe_ix ix_tup (MS.pe_methS (pv 0) T.clC T.m_site_of (ok_site_of T) (hr.mono (by decide)) T.b_site_of (fun σ => passAt (takes_of rfl rfl rfl rfl) σ) (by exact (pa_cons (pv 1) pa_nil))) pe_int (fun _ _ => rfl)))), ?_⟩
    refine ⟨_, rfl, p, dx, fs, rfl, hp, l5 _ no_site.1 no_site.2.1 no_site.2.2.1 no_site.2.2.2, _, rfl, p, x, d, ls, r, h, rfl, hT, G, hd, sd, fun i j l b hl hb e H1 q s1 _ hq => ?_, fun no => kE no⟩
    exact ⟨q, _, 1, _, rfl, rfl, SqT.of hq, atI_nat (j := 1) rfl, kS i j l b hl hb e _ s1⟩
theorem ok_sort_of (T : Txt K mg) : FnOk P w K mg base (L2.CX P w) 4 T.a_sort_of T.d_sort_of ["self", "number"] (sp_sort_of K T.C T.CB) := by
  refine T.F_sort_of.okX sc_sort_of (fun vs H Q E h => ?_) (fun cdv A outer s H vs Q E hr h => ?_)
  · obtain ⟨p, x, d, ls, r, h, rfl, _⟩ := h
    rfl
  · obtain ⟨p, x, d, ls, r, h, rfl, hT, G, hd, sd, kS, kE⟩ := h
    obtain ⟨dx, fs, y, y2, hp, l1, l2, l3, l4, l5, t, t2⟩ := id hT
    obtain ⟨q0, xs, rfl, hS, hds⟩ := t.inv
    refine ⟨_, (pss_cons (ps_asg (MS.pe_methS (pv 0) T.clC T.m_site_of (ok_site_of T) (hr.mono (by decide)) T.b_site_of (fun σ => passAt (takes_of rfl rfl rfl rfl) σ) (by exact (pa_cons (pv 1) pa_nil))) (pg_tup rfl (pgs_cons (pg_name (i := 2) sc_sort_of.nd rfl (Or.inl rfl)) (pgs_cons (pg_name (i := 3) sc_sort_of.nd rfl (Or.inl rfl)) pgs_nil))))
      (pss_one (ps_ret (pe_ix ix_tup (pe_ix ix_tup (pe_ix ix_tup (pe_fld (pv 0) rfl) (pv 2) (fun _ _ => rfl)) (pv 3) (fun _ _ => rfl)) pe_int (fun _ _ => rfl))))), ?_⟩
    refine ⟨_, rfl, p, dx, fs, rfl, hp, l5 _ no_site.1 no_site.2.1 no_site.2.2.1 no_site.2.2.2, _, rfl, p, x, d, ls, r, h, rfl, hT, G, hd, sd, fun i j l b hl hb e H1 q s1 _ hq => ?_, fun no => kE no⟩
    obtain ⟨v1, e1, t1⟩ := hds.get (show (ls.map loopD)[i]? = some (loopD l) by rw [List.getElem?_map, hl]; rfl)
    obtain ⟨q1, zs, rfl, hq1, hz⟩ := t1.inv
    obtain ⟨v2, e2, t2⟩ := hz.get (show (l.map boxD)[j]? = some (boxD b) by rw [List.getElem?_map, hb]; rfl)
    obtain ⟨q2, rfl, hq2⟩ := box_inv t2
    refine ⟨q, _, rfl, SqT.of hq, rfl, _, _, rfl, _, _, rfl, rfl, ?_⟩
    refine ⟨_, rfl, p, T.C, dx, fs, _, rfl, s1 _ _ hp, T.clC, T.nL, l1, _, rfl, q0, xs, _, _, rfl, rfl, sameT s1 hS, atI_nat e1, _, rfl, q1, zs, _, _, rfl, rfl, sameT s1 hq1, atI_nat e2, q2, _, 1, _, rfl, rfl, sameT s1 hq2, atI_nat (j := 1) rfl, ?_⟩
    exact kS i j l b hl hb e _ s1
end
end K08

namespace K08
open PySem L2 Wm TL Dv
section
variable {P : Program} {w : World} {K : PySem.W.Frag} {mg : Str → Option Value} {base : Heap}
theorem within_int {lo hi : Int} {o : Option Int} (h : within lo hi o = true) : ∃ i, o = some i ∧ lo ≤ i ∧ i ≤ hi := by
  cases o with
  | none => cases h
  | some i =>
    have q : (decide (lo ≤ i) && decide (i ≤ hi)) = true := h
    simp at q
    exact ⟨i, rfl, q.1, q.2⟩
theorem ok_wire (T : Txt K mg) : FnOk P w K mg base (L2.CX P w) 3 T.a_wire T.d_wire ["self", "loop"] (sp_wire K T.C T.CL) := by
  refine T.F_wire.ok sc_wire (fun vs H Q E h => ?_) (fun cdv A outer s H vs Q E hr h => ?_)
  · obtain ⟨p, x, o, ls, r, h, rfl, _⟩ := h
    rfl
  · obtain ⟨p, x, o, ls, r, h, rfl, hT, G, hx, kN, kI, kE⟩ := h
    obtain ⟨dx, fs, y, y2, hp, l1, l2, l3, l4, l5, t, t2⟩ := id hT
    obtain ⟨q, xs, rfl, hS, hds⟩ := t.inv
    have el := town_len hds
    refine ⟨_, (pss_cons (ps_if (pt_cmpR op_isN (pv 1) pe_non (nomark _))
        (pss_one (ps_ret (pe_callTy call_tuple_of (by rfl) T.z_tuple (by decide +kernel) (pa_cons (pe_lc2 (own := [("boxes", 2), ("box", 3)]) (g := gName 2) (tt := tYes) (g1 := gName 3) (tt1 := tYes) (vs1 := [3]) rfl sc_wire.nd (pi_tup (pe_fld (pv 0) rfl)) (blkOk_by (own := [("boxes", 2), ("box", 3)]) (N := nm_wire) (sc := (defScope s_wire)) (by decide +kernel)) (by decide) (fun _ _ _ _ _ => pg_name (i := 2) sc_wire.nd rfl (Or.inl rfl)) (fun _ _ _ _ _ => pts_nil) (fun _ _ _ _ _ => (show PI _ _ _ (iTup K (tVar 2)) from (pi_tup (pv 2)))) (fun _ _ _ _ _ => pg_name (i := 3) sc_wire.nd rfl (Or.inl rfl)) (fun _ _ _ _ _ => pts_nil) (fun _ _ _ _ _ => (pv 3))) pa_nil))))
        pss_nil)
      (pss_cons (ps_if (pt_not (pt_val (pe_call (ok_is_whole_within T) (hr.mono (by decide)) (by rfl) T.g_is_whole_within T.F_is_whole_within.kp T.b_is_whole_within .nil pass0 (pa_cons (pv 1) (pa_cons pe_int (pa_cons (pe_op op_sub (pe_callB call_len_seq (by rfl) T.z_len PySem.boot_len (pa_cons (pe_fld (pv 0) rfl) pa_nil)) pe_int) pa_nil))))))
        (pss_one (ps_raiseLowL rfl T.lowL hr (takes_of rfl rfl rfl rfl) (by exact (pa_cons (pv 1) pa_nil))))
        pss_nil)
      (pss_one (ps_ret (pe_ix ix_tup (pe_fld (pv 0) rfl) (pv 1) (fun _ _ => rfl)))))), ?_⟩
    refine ⟨_, rfl, rfl, _, rfl, ?_⟩
    by_cases c : x = .non
    · rw [decide_eq_true c]
      refine iteT ⟨_, rfl, p, T.C, dx, fs, _, rfl, hp, T.clC, T.nL, l1, q, rfl, ⟨_, hS⟩, fun D hD => ?_⟩
      refine Et.out_it walk_tup (fun i H' => Same H H' ∧ ∃ ys, H' D = some (.lst ys) ∧ Dts K H' ys ((ls.take i).flatten.map boxD)) ⟨same_new hD, [], upd_same, by simp; exact .nil⟩ (fun i H' _ h => sameT h.1 hS) (fun i x H2 H' hi hP hY => ?_) (fun H2 hP => ?_)
      · obtain ⟨sm, ys, hy, hys⟩ := hP
        obtain ⟨rfl, hx2⟩ := hY
        obtain ⟨l, hl, a⟩ := town_at hds hx2
        obtain ⟨q1, zs, rfl, hq, hz⟩ := (a.k (Kt.same sm)).inv
        have lz := boxes_len hz
        have b2 := G.b2 l (List.mem_of_getElem? hl)
        have fl := flat_le ls i G.b2
        have g2 := G.l2
        refine ⟨rfl, yesT ?_⟩
        refine ⟨_, rfl, q1, rfl, ⟨_, hq⟩, ?_⟩
        refine Et.in_it walk_tup (fun j H3 => Same H H3 ∧ ∃ ys, H3 D = some (.lst ys) ∧ Dts K H3 ys (((ls.take i).flatten ++ l.take j).map boxD) ∧ Kt K H' H3) ⟨sm, ys, hy, by simpa using hys, Kt.refl⟩ (fun j H3 _ h => let ⟨_, _, _, _, t⟩ := h; t _ _ hq) (fun j x H3 H4 hj hP hY => ?_) (fun H3 hP => ?_)
        · obtain ⟨sm3, ys3, hy3, hys3, kt⟩ := hP
          obtain ⟨rfl, hx3⟩ := hY
          obtain ⟨b, hb, a3⟩ := boxes_at hz hx3
          have l3 := boxes_len hys3
          rw [List.length_append, List.length_take] at l3
          have k5 : Kt K H4 (upd H4 D (.lst (ys3 ++ [x]))) := Kt.lst hy3
          refine ⟨rfl, yesT ?_⟩
          refine ⟨_, rfl, ys3, hy3, small1000 (by omega), same_mut sm3 hD, ys3 ++ [x], upd_same, ?_, kt.trans k5⟩
          rw [List.take_add_one, hb, ← List.append_assoc, List.map_append]
          exact (hys3.k k5).snoc ((a3.k kt).k k5)
        · obtain ⟨sm3, ys3, hy3, hys3, kt⟩ := hP
          refine ⟨sm3, ys3, hy3, ?_⟩
          rw [lz, List.take_length] at hys3
          rw [flat_succ hl]
          exact hys3
      obtain ⟨sm, ys, hy, hys⟩ := hP
      rw [el, List.take_length] at hys
      refine ⟨D, ys, rfl, .inl ⟨SqL.of hy, fun q9 hq9 => ?_⟩⟩
      exact kN c _ _ (sm.trans (same_new hq9)) (dt_tup upd_same (hys.k (Kt.new hq9)))
    · rw [decide_eq_false c]
      refine iteF ?_
      refine ⟨_, rfl, _, rfl, p, T.C, dx, fs, _, rfl, hp, T.clC, T.nL, l1, q, xs, rfl, .inr hS, _, _, rfl, rfl, x, o, 0, _, rfl, hx, ?_⟩
      refine ⟨_, rfl, ?_⟩
      cases ew : within 0 (((xs.length : Nat) : Int) - 1) o with
      | false =>
        refine iteT ⟨_, rfl, _, rfl, fun dd hdd => kE c (fun i e => ?_) _ dd (same_new hdd) upd_same⟩
        rw [e] at ew
        have z : (decide ((0 : Int) ≤ (i : Int)) && decide ((i : Int) ≤ ((xs.length : Nat) : Int) - 1)) = false := ew
        rw [decide_eq_true (by omega : (0 : Int) ≤ (i : Int)), Bool.true_and, decide_eq_false_iff_not] at z
        omega
      | true =>
        refine iteF ?_
        obtain ⟨i, rfl, i0, i1⟩ := within_int ew
        cases hx
        have hi : i.toNat < ls.length := by omega
        obtain ⟨v1, e1, t1⟩ := hds.get (show (ls.map loopD)[i.toNat]? = some (loopD ls[i.toNat]) by rw [List.getElem?_map, List.getElem?_eq_getElem hi]; rfl)
        have ei : i = (i.toNat : Int) := by omega
        exact ⟨_, rfl, p, T.C, dx, fs, _, rfl, hp, T.clC, T.nL, l1, _, rfl, q, xs, _, _, rfl, rfl, hS, at_of ei e1, kI i.toNat _ (congrArg some ei) (List.getElem?_eq_getElem hi) _ _ (Same.refl _) t1⟩
end
end K08

namespace K08
open PySem L2 Wm TL Dv
section
variable {P : Program} {w : World} {K : PySem.W.Frag} {mg : Str → Option Value} {base : Heap}
theorem fine_boxD {b : Box} (h : Num b.1) : Fine 5 (boxD b) := fine_tup (n := 4) fun d m => by
  rcases List.mem_cons.mp m with rfl | m
  · exact fine_num fun d m => (h.3 d m).2
  · rw [List.mem_singleton.mp m]
    cases b.2 <;> exact fine_str (by decide +kernel)
theorem fine_town {ls : List (List Box)} (G : Good ls) : Fine 7 (townD ls) := fine_tup (n := 6) fun d m => by
  obtain ⟨l, ml, rfl⟩ := List.mem_map.mp m
  exact fine_tup (n := 5) fun d m => by
    obtain ⟨b, mb, rfl⟩ := List.mem_map.mp m
    exact fine_boxD (G.num b (List.mem_flatten.mpr ⟨l, ml, mb⟩))
theorem iteB {c : Bool} {A B : Prop} (h1 : c = true → A) (h2 : c = false → B) : if c = true then A else B := by
  cases c
  · exact h2 rfl
  · exact h1 rfl
theorem ok_eq (T : Txt K mg) : FnOk P w K mg base CX0 1 T.a_eq T.d_eq ["self", "other"] (sp_eq K T.C) := by
  refine T.F_eq.ok sc_eq (fun vs H Q E h => ?_) (fun cdv A outer s H vs Q E hr h => ?_)
  · obtain ⟨p, y, ls, r, h, rfl, _⟩ := h
    rfl
  · obtain ⟨p, y, ls, r, h, rfl, hT, G, hc⟩ := h
    obtain ⟨dx, fs, z, z2, hp, l1, l2, l3, l4, l5, t, t2⟩ := id hT
    have f1 := (fine_town G).shaped (by decide)
    refine ⟨_, (pss_one (ps_ret (pe_and (pe_callB call_isi (by rfl) T.z_isinstance (by decide +kernel) (pa_cons (pv 1) (pa_cons (pe_glob (v := V.ref T.C) rfl T.gC rfl) pa_nil))) (pe_and (pe_cmpR (op_eqD hr.units) (pe_fld (pv 0) rfl) (pe_fld (pv 1) rfl) (nomark _)) (pe_and (pe_cmpR op_eq (pe_fld (pv 0) rfl) (pe_fld (pv 1) rfl) (nomark _)) (pe_one (pe_cmpR op_eq (pe_fld (pv 0) rfl) (pe_fld (pv 1) rfl) (nomark _)))))))), ?_⟩
    rcases hc with ⟨p2, ls2, r2, h2, rfl, hT2, G2, k⟩ | ⟨q, xs, rfl, hq, k⟩
    · obtain ⟨dx', fs', z', z2', hp', m1, m2, m3, m4, m5, u, u2⟩ := id hT2
      have f2 := (fine_town G2).shaped (by decide)
      refine ⟨_, rfl, _, _, _, _, true, rfl, .own T.C, .base (.ins hp' T.clC T.isi.ca T.isi.cn T.isi.ct T.isi.cm), T.kS, true, rfl, iteT ?_⟩
      refine ⟨_, rfl, p, T.C, dx, fs, _, rfl, hp, T.clC, T.nL, l1, _, rfl, p2, T.C, dx', fs', _, rfl, hp', T.clC, T.nL, m1, _, _, t.toDp, u.toDp, f1, f2, _, rfl, ?_⟩
      refine iteB (fun e => ?_) (fun e => ?_)
      · rw [e, Bool.true_and] at k
        refine ⟨_, rfl, p, T.C, dx, fs, _, rfl, hp, T.clC, T.nR, l2, _, rfl, p2, T.C, dx', fs', _, rfl, hp', T.clC, T.nR, m2, rfl, _, rfl, ?_⟩
        refine iteB (fun e => ?_) (fun e => ?_)
        · rw [e, Bool.true_and] at k
          exact ⟨_, rfl, p, T.C, dx, fs, _, rfl, hp, T.clC, T.nH, l3, _, rfl, p2, T.C, dx', fs', _, rfl, hp', T.clC, T.nH, m3, rfl, k⟩
        · rw [e, Bool.false_and] at k
          exact k
      · rw [e, Bool.false_and] at k
        exact k
    · exact ⟨_, rfl, _, _, _, _, false, rfl, .own T.C, tyT hq, T.kT, false, rfl, iteF k⟩
end
end K08

namespace K08
open PySem L2 Wm TL Dv
section
variable {P : Program} {w : World} {K : PySem.W.Frag} {mg : Str → Option Value} {base : Heap}
theorem walk_rngL {lo : Int} {n : Nat} : Walk (Itr lo n) n (fun _ => True) (YAt ((List.range n).map fun (i : Nat) => V.int (lo + (i : Int)))) :=
  walk_range.mono (fun _ h => h) fun i H x H' hi _ y => ⟨y.1, by rw [List.getElem?_map, List.getElem?_range hi, y.2]; rfl⟩
theorem nodup_le {α : Type} [DecidableEq α] : ∀ (l D : List α), l.Nodup → (∀ x ∈ l, x ∈ D) → l.length ≤ D.length
  | [], _, _, _ => Nat.zero_le _
  | x :: l, D, hn, hs => by
    obtain ⟨h1, h2⟩ := List.nodup_cons.mp hn
    have hx : x ∈ D := hs x List.mem_cons_self
    have ih := nodup_le l (D.erase x) h2 fun y hy => by
      have hne : y ≠ x := fun e => h1 (e ▸ hy)
      exact (List.mem_erase_of_ne hne).2 (hs y (List.mem_cons_of_mem _ hy))
    have e := List.length_erase_of_mem hx
    have hp : 0 < D.length := List.length_pos_of_mem hx
    rw [List.length_cons]
    omega
def poolN (k : Nat) : List Nat := [k / 9 + 1, k % 9 + 1]
def pool : List Str := (List.range 81).map fun k => numS (poolN k)
theorem pool_str : ∀ k : Nat, k < 81 → Str.ofString (toString ((11 : Int) + (k : Int) + ((k : Int).fdiv 9))) = numS (poolN k) := by decide +kernel
theorem pool_small : ∀ k : Nat, k < 81 → ((11 : Int) + (k : Int) + ((k : Int).fdiv 9)).natAbs.log2 < 1920 := by decide +kernel
theorem pool_nd : pool.Nodup := by decide +kernel
theorem pool_len : pool.length = 81 := by unfold pool; rw [List.length_map, List.length_range]
theorem pool_num {k : Nat} (h : k < 81) : Num (poolN k) := ⟨by show 1 ≤ 2; omega, by show 2 ≤ 4; omega, fun d m => by
  rcases List.mem_cons.mp m with e | m
  · omega
  · rw [List.mem_singleton.mp m]; omega, by show k / 9 + 1 + (k % 9 + 1 + 0) ≤ 24; omega⟩
theorem pool_mem {x : Str} (h : x ∈ pool) : ∃ ds, Num ds ∧ x = numS ds := by
  obtain ⟨k, m, e⟩ := List.mem_map.mp h
  exact ⟨poolN k, pool_num (List.mem_range.mp m), e.symm⟩
theorem pool_ne {ts : List Str} (h : ts.length ≤ 40) : ∃ x r, (pool.filter fun x => !decide (x ∈ ts)) = x :: r ∧ x ∈ pool ∧ x ∉ ts := by
  cases e : pool.filter fun x => !decide (x ∈ ts) with
  | nil =>
    have q := nodup_le pool ts pool_nd fun x m => by
      have z := List.filter_eq_nil_iff.mp e x m
      simpa using z
    rw [pool_len] at q
    omega
  | cons x r =>
    have m : x ∈ pool.filter fun x => !decide (x ∈ ts) := by rw [e]; exact List.mem_cons_self
    obtain ⟨m1, m2⟩ := List.mem_filter.mp m
    exact ⟨x, r, rfl, m1, by simpa using m2⟩
theorem flat_strs (ts : List Str) : (ts.map V.str).all flatV = true := by
  rw [List.all_map]
  exact List.all_eq_true.mpr fun _ _ => rfl
theorem in_strs (x : Str) : ∀ ts : List Str, inV (.str x) (ts.map V.str) = decide (x ∈ ts)
  | [] => rfl
  | t :: ts => by
    have ih := in_strs x ts
    unfold inV at ih ⊢
    rw [List.map_cons, List.any_cons, ih]
    show ((t == x) || decide (x ∈ ts)) = _
    by_cases q : t = x
    · subst q
      simp
    · have q2 : ¬ x = t := fun e => q e.symm
      simp [q, q2]
theorem filt_yes {ts : List Str} {x : Str} (c : (if true = true then !decide (x ∈ ts) else decide (x ∈ ts)) = true) : ([x].filter fun x => !decide (x ∈ ts)) = [x] := List.filter_cons_of_pos (by simpa using c)
theorem filt_no {ts : List Str} {x : Str} (c : ¬ (if true = true then !decide (x ∈ ts) else decide (x ∈ ts)) = true) : ([x].filter fun x => !decide (x ∈ ts)) = [] := by
  rw [List.filter_cons_of_neg (by simpa using c)]
  rfl
theorem take_snoc {α : Type} {xs : List α} {i : Nat} {x : α} (h : xs[i]? = some x) : xs.take (i + 1) = xs.take i ++ [x] := by
  rw [List.take_add_one, h]
  rfl
theorem nums_mem {dss : List (List Nat)} {x : Str} (hN : ∀ ds ∈ dss, Num ds) (m : x ∈ dss.map numS) : ∃ ds, Num ds ∧ x = numS ds := by
  obtain ⟨ds, md, rfl⟩ := List.mem_map.mp m
  exact ⟨ds, hN ds md, rfl⟩
theorem ok_numbers (T : Txt K mg) : FnOk P w K mg base CX0 3 T.a_numbers T.d_numbers ["_law_bag_here", "_law_many"] (sp_numbers K) := by
  refine T.F_numbers.ok sc_numbers (fun vs H Q E h => ?_) (fun cdv A outer s H vs Q E hr h => ?_)
  · obtain ⟨b, n, many, rfl, _⟩ := h
    rfl
  · obtain ⟨b, n, many, rfl, m40, hbag, hn, kk⟩ := h
    refine ⟨_, (pss_cons (ps_set (i := 2) sc_numbers.nd rfl (Or.inr rfl) (pe_lst pa_nil))
      (pss_cons (ps_setLc (i := 3) (own := [("_law_k", 4)]) (g := gName 4) (tt := tYes) rfl sc_numbers.nd rfl rfl (sw_true rfl rfl rfl (by decide +kernel)) (pi_range1 (by rfl) T.z_range (pa_cons pe_int pa_nil)) (blkOk_by (own := [("_law_k", 4)]) (N := nm_numbers) (sc := (defScope s_numbers)) (by decide +kernel)) (fun _ _ _ _ _ => pg_name (i := 4) sc_numbers.nd rfl (Or.inl rfl)) (fun _ _ _ _ _ => pts_nil) (fun _ _ _ _ _ => (pe_callTy call_str_int (by rfl) T.z_str (by decide +kernel) (pa_cons (pe_op op_add (pe_op op_add pe_int (pv 4)) (pe_op op_fdivN (pv 4) pe_int)) pa_nil))))
      (pss_cons (ps_for PassesOwn.never rfl (pi_range1 (by rfl) T.z_range (pa_cons (pv 1) pa_nil)) (pg_name (i := 4) sc_numbers.nd rfl (Or.inl rfl))
        (pss_cons (ps_set (i := 5) sc_numbers.nd rfl (Or.inl rfl) (pe_call (ok_number T) (hr.mono (by decide)) (by rfl) T.g_number T.F_number.kp T.b_number .nil pass0 (pa_cons (pv 0) pa_nil)))
        (C8.pss_cut (ps_if (pt_cmpR op_in_seq (pv 5) (pv 2) rfl)
          (pss_cons (ps_setLc (i := 6) (own := [("_law_one", 7)]) (g := gName 7) rfl sc_numbers.nd rfl rfl (sw_true rfl rfl rfl (by decide +kernel)) (pi_list (pv 3)) (blkOk_by (own := [("_law_one", 7)]) (N := nm_numbers) (sc := (defScope s_numbers)) (by decide +kernel)) (fun _ _ _ _ _ => pg_name (i := 7) sc_numbers.nd rfl (Or.inl rfl)) (fun _ _ _ _ _ => (pts_one (pt_cmpR (show OpR _ _ (rIn K true) from op_notIn_seq) (pv 7) (pv 2) rfl))) (fun _ _ _ _ _ => (pv 7)))
          (pss_one (ps_set (i := 5) sc_numbers.nd rfl (Or.inl rfl) (pe_ix ix_list (pv 6) pe_int (fun _ _ => rfl)))))
          pss_nil)
        (pss_one (ps_expr (pe_bm PySem.F.plainAttrs_list PySem.F.slot_list_append PySem.F.type_list_append mt_append (pv 2) (pa_cons (pv 5) pa_nil)))))))
      (pss_one (ps_ret (pv 2)))))), ?_⟩
    refine ⟨Nat.zero_le _, fun f hf => ?_⟩
    have fb : f ≠ b := fun e => by
      obtain ⟨_, _, _, _, _, _, hb, _⟩ := hbag
      rw [e, hb] at hf
      cases hf
    have hf1 : upd H f (.lst []) f = some (.lst []) := upd_same
    have s1 : Same H (upd H f (.lst [])) := same_new hf
    generalize upd H f (.lst []) = H1 at *
    refine ⟨_, rfl, by decide, by decide, fun D hD => ?_⟩
    refine Lm.lc_map (K := K) (walk_rngL (lo := 0) (n := 81)) (fun i y _ => (pool.map V.str)[i]? = some y) (fun _ _ _ _ h _ => h) hD (by decide) (fun _ _ => trivial) (fun i x H' hi hx sm Q2 Z q => ?_) (fun H2 ys s2 hy ly hR => ?_)
    · rw [List.getElem?_map, List.getElem?_range hi] at hx
      cases Option.some.inj hx
      refine ⟨rfl, yesT ?_⟩
      refine ⟨_, rfl, _, _, rfl, rfl, _, rfl, _, _, rfl, rfl, ⟨by decide, by decide⟩, _, _, rfl, rfl, ?_⟩
      rw [Int.zero_add]
      refine ⟨_, rfl, pool_small i hi, ?_⟩
      rw [pool_str i hi]
      refine q _ _ (Same.refl _) ?_
      unfold pool
      rw [List.getElem?_map, List.getElem?_map, List.getElem?_range hi]
      rfl
    have ey : ys = pool.map V.str := Lm.list_is (by rw [ly, List.length_map, pool_len]) hR
    subst ey
    have s02 := s1.trans s2
    have hf2 := s2 _ _ hf1
    have hD0 : H D = none := s1.free hD
    have bag2 := hbag.keep s02
    have db : D ≠ b := fun e => by
      obtain ⟨_, _, _, _, _, _, hb, _⟩ := hbag
      rw [e, hb] at hD0
      cases hD0
    have df : D ≠ f := fun e => by
      rw [e, hf1] at hD
      cases hD
    refine ⟨_, rfl, _, rfl, by omega, by omega, ?_⟩
    rw [Int.toNat_natCast]
    refine for_range (fun i σ H' => ∃ (dss : List (List Nat)) (v4 v5 v6 : Option V), σ = [some (.ref b), some (.int (many : Nat)), some (.ref f), some (.ref D), v4, v5, v6, none] ∧ dss.length = i ∧ (∀ ds ∈ dss, Num ds) ∧ (dss.map numS).Nodup ∧
      H' f = some (.lst ((dss.map numS).map V.str)) ∧ H' D = some (.lst (pool.map V.str)) ∧ Bag H' b (n + 6 * i) ∧ But b H H')
      ⟨[], none, none, none, rfl, rfl, by simp, by simp, hf2, hy, bag2, But.of s02⟩ (fun i σ H3 hi hP => ?_) (fun σ H3 hP => ?_)
    · obtain ⟨dss, v4, v5, v6, rfl, el, hN, nd, hF, hS, bag, but⟩ := hP
      refine ⟨_, rfl, b, n + 6 * i, rfl, bag, by omega, fun H4 ds nm bag4 but4 => ?_⟩
      have hF4 := but4.keep _ _ fb hF
      have hS4 := but4.keep _ _ db hS
      have but5 := but.trans but4
      refine ⟨fun σ H5 => ∃ (ds : List Nat) (v6 : Option V), Num ds ∧ numS ds ∉ dss.map numS ∧ σ = [some (.ref b), some (.int (many : Nat)), some (.ref f), some (.ref D), some (.int (0 + (i : Nat))), some (.str (numS ds)), v6, none] ∧
        H5 f = some (.lst ((dss.map numS).map V.str)) ∧ H5 D = some (.lst (pool.map V.str)) ∧ Bag H5 b (n + 6 * i + 6) ∧ But b H H5, ?_, ?_⟩
      · refine ⟨_, rfl, _, rfl, f, _, rfl, .inl (SqL.of hF4), rfl, flat_strs _, _, rfl, ite2 (fun c => ?_) (fun c => ?_)⟩
        · refine ⟨_, rfl, D, rfl, ⟨_, SqL.of hS4⟩, fun A1 hA1 => ?_⟩
          refine lc_list (xs := pool.map V.str) (fun i H' => Same H4 H' ∧ H' A1 = some (.lst (((pool.take i).filter fun x => !decide (x ∈ dss.map numS)).map V.str))) ⟨same_new hA1, upd_same⟩ (fun i H3 _ hP => SqL.of (hP.1 _ _ hS4)) (fun i x H3 hx hP => ?_) (fun H3 hP => ?_)
          · obtain ⟨sm, hq⟩ := hP
            rw [List.getElem?_map] at hx
            obtain ⟨x, hx1, rfl⟩ := Option.map_eq_some_iff.mp hx
            have hi : i < 81 := by rw [← pool_len]; exact (List.getElem?_eq_some_iff.mp hx1).1
            have lq : ((pool.take i).filter fun x => !decide (x ∈ dss.map numS)).length ≤ 81 := Nat.le_trans (List.length_filter_le _ _) (by rw [List.length_take]; omega)
            have sn := take_snoc hx1
            refine ⟨rfl, ?_⟩
            refine ⟨_, rfl, _, rfl, f, _, rfl, .inl (SqL.of (sm _ _ hF4)), rfl, flat_strs _, _, rfl, ite2 (fun c => ?_) (fun c => ?_)⟩
            · rw [in_strs] at c
              refine ⟨_, rfl, _, hq, by rw [List.length_map]; exact small1000 (by omega), same_mut sm hA1, ?_⟩
              rw [upd_same, sn, List.filter_append, List.map_append, filt_yes c]
              rfl
            · rw [in_strs] at c
              refine ⟨sm, ?_⟩
              rw [hq, sn, List.filter_append, filt_no c, List.append_nil]
          obtain ⟨s3, h3⟩ := hP
          rw [List.length_map, List.take_length] at h3
          obtain ⟨x, r, e, mp, nin⟩ := pool_ne (ts := dss.map numS) (by rw [List.length_map]; omega)
          rw [e] at h3
          obtain ⟨es, ne, rfl⟩ := pool_mem mp
          refine ⟨_, rfl, A1, _, 0, _, rfl, rfl, SqL.of h3, atI_nat (j := 0) rfl, ?_⟩
          exact ⟨es, _, ne, nin, rfl, s3 _ _ hF4, s3 _ _ hS4, bag4.keep s3, but5.trans (But.of s3)⟩
        · rw [in_strs] at c
          exact ⟨ds, _, nm, by simpa using c, rfl, hF4, hS4, bag4, but5⟩
      · rintro σ H5 ⟨ds, v6, nm, nin, rfl, hF5, hS5, bag5, but5⟩
        refine ⟨_, rfl, .inl ⟨rfl, _, SqL.of hF5⟩, _, rfl, f, _, _, rfl, rfl, hF5, small1000 (by rw [List.length_map, List.length_map]; omega), ?_⟩
        refine ⟨dss ++ [ds], _, _, _, rfl, by rw [List.length_append, el]; rfl, fun x m => ?_, ?_, ?_, ?_, Bag.put hbag hf but5 (bag5.mono (by omega)), but5.put hf⟩
        · rcases List.mem_append.mp m with m | m
          · exact hN x m
          · rw [List.mem_singleton.mp m]
            exact nm
        · rw [List.map_append]
          refine List.nodup_append.mpr ⟨nd, by simp, fun x m y my => ?_⟩
          have ey : y = numS ds := by simpa using my
          intro e
          exact nin (by rw [← ey, ← e]; exact m)
        · rw [upd_same, List.map_append, List.map_append (f := V.str)]
          rfl
        · rw [upd_ne df]
          exact hS5
    · obtain ⟨dss, v4, v5, v6, rfl, el, hN, nd, hF, hS, bag, but⟩ := hP
      exact ⟨_, rfl, kk _ f dss el hN nd hf hF bag but⟩
end
end K08

namespace K08
open PySem L2 Wm TL Dv
section
variable {P : Program} {w : World} {K : PySem.W.Frag} {mg : Str → Option Value} {base : Heap}
theorem But.free {H H' : Hp} {b p : Addr} {n m : Nat} (bag' : Bag H' b n) (e : But b H H') (bag : Bag H b m) (h : H' p = none) : H p = none := by
  cases q : H p with
  | none => rfl
  | some o =>
    by_cases c : p = b
    · obtain ⟨_, _, _, _, _, _, hb, _⟩ := bag'
      rw [c, hb] at h
      cases h
    · rw [e.keep p o c q] at h
      cases h
theorem ok_rules (T : Txt K mg) : FnOk P w K mg base CX0 2 T.a_rules T.d_rules ["_law_bag_here"] (sp_rules K) := by
  refine T.F_rules.ok sc_rules (fun vs H Q E h => ?_) (fun cdv A outer s H vs Q E hr h => ?_)
  · obtain ⟨b, n, rfl, _⟩ := h
    rfl
  · obtain ⟨b, n, rfl, hbag, hn, kk⟩ := h
    refine ⟨_, (pss_cons (ps_set (i := 1) sc_rules.nd rfl (Or.inl rfl) (pe_op op_add pe_int (pe_call (ok_draw T) (hr.mono (by decide)) (by rfl) T.g_draw T.F_draw.kp T.b_draw .nil pass0 (pa_cons (pv 0) (pa_cons pe_int pa_nil)))))
      (pss_one (ps_ret (pe_lst (pa_cons (pv 1) (pa_cons (pe_op op_add pe_int (pe_call (ok_draw T) (hr.mono (by decide)) (by rfl) T.g_draw T.F_draw.kp T.b_draw .nil pass0 (pa_cons (pv 0) (pa_cons (pe_callB (call_min2 rfl) (by rfl) T.z_min (by decide +kernel) (pa_cons pe_int (pa_cons (pv 1) pa_nil))) pa_nil)))) pa_nil)))))), ?_⟩
    refine ⟨_, rfl, b, n, 8, rfl, by decide, by decide, hbag, by omega, fun H1 d1 g0 g1 bag1 but1 => ?_⟩
    refine ⟨_, _, rfl, rfl, ?_⟩
    refine ⟨_, rfl, _, rfl, _, rfl, _, _, rfl, ?_⟩
    have lim : ∃ l : Int, (if (1 : Int) + d1 < 2 then 1 + d1 else 2) = l ∧ 1 ≤ l ∧ l ≤ 2 ∧ l ≤ 1 + d1 := by
      split
      · exact ⟨_, rfl, by omega, by omega, by omega⟩
      · exact ⟨_, rfl, by omega, by omega, by omega⟩
    obtain ⟨l, el, l1, l2, l3⟩ := lim
    rw [el]
    refine ⟨b, n + 1, l, rfl, by omega, by omega, bag1, by omega, fun H2 d2 e0 e1 bag2 but2 => ?_⟩
    refine ⟨_, _, rfl, rfl, by show 2 ≤ sizeLine; decide, fun p hp => ?_⟩
    exact kk _ p (1 + d1) (1 + d2) (by omega) (by omega) (by omega) (by omega) (by omega) (But.free bag2 (but1.trans but2) hbag hp) upd_same (bag2.keep (same_new hp)) ((but1.trans but2).trans (But.of (same_new hp)))
theorem ok_told (T : Txt K mg) : FnOk P w K mg base CX0 1 T.a_told T.d_told ["_law_loops_here"] (sp_told K) := by
  refine T.F_told.ok sc_told (fun vs H Q E h => ?_) (fun cdv A outer s H vs Q E hr h => ?_)
  · obtain ⟨p, xs, ls, rfl, _⟩ := h
    rfl
  · obtain ⟨p, xs, ls, rfl, hS, el, ha, hl, k⟩ := h
    refine ⟨_, (pss_one (ps_ret (pe_callTy call_tuple_of (by rfl) T.z_tuple (by decide +kernel) (pa_cons (pe_lc (own := [("_law_loop", 1)]) (g := gName 1) (tt := tYes) rfl sc_told.nd (pi_list (pv 0)) (blkOk_by (own := [("_law_loop", 1)]) (N := nm_told) (sc := (defScope s_told)) (by decide +kernel)) (fun _ _ _ _ _ => pg_name (i := 1) sc_told.nd rfl (Or.inl rfl)) (fun _ _ _ _ _ => pts_nil) (fun _ _ _ _ _ => (pe_callTy (show CallR _ _ (Kx.rTupOf K) from call_tuple_of) (by rfl) T.z_tuple (by decide +kernel) (pa_cons (pv 1) pa_nil)))) pa_nil)))), ?_⟩
    refine ⟨_, rfl, p, rfl, ⟨_, hS⟩, fun D hD => ?_⟩
    refine Lm.lc_map (K := K) walk_list (fun i y H' => ∃ d, (ls.map loopD)[i]? = some d ∧ Dt K H' y d) (fun _ _ _ _ ⟨d, e, t⟩ kt => ⟨d, e, t.k kt⟩) hD (by omega) (fun H' s => Hf.keepL s hS) (fun i x H' hi hx sm Q2 Z q2 => ?_) (fun H2 ys s2 hy ly hR => ?_)
    · obtain ⟨l, hl2, tl⟩ := ha i x hx
      obtain ⟨q, zs, t, rfl, hq, hz⟩ := tl.k sm
      have e : (ls.map loopD)[i]? = some (loopD l) := by rw [List.getElem?_map, hl2]; rfl
      refine ⟨rfl, yesT ?_⟩
      cases t with
      | true => exact ⟨_, rfl, q, zs, rfl, .inr ⟨hq, q2 _ _ (Same.refl _) ⟨_, e, .tup hq hz⟩⟩⟩
      | false => exact ⟨_, rfl, q, zs, rfl, .inl ⟨hq, fun u hu => q2 _ _ (same_new hu) ⟨_, e, dt_tup upd_same (hz.k (Kt.new hu))⟩⟩⟩
    have hds := dts_of (by rw [ly, el, List.length_map]) hR
    exact ⟨D, ys, rfl, .inl ⟨SqL.of hy, fun u hu => k _ _ (s2.trans (same_new hu)) (dt_tup upd_same (hds.k (Kt.new hu)))⟩⟩
end
end K08

namespace K08
open PySem L2 Wm TL Dv
section
variable {P : Program} {w : World} {K : PySem.W.Frag} {mg : Str → Option Value} {base : Heap}
def nV (z : Nat) : V := V.int (z : Int)
theorem lim_at (k : Bool) : ∃ lim : Int, atI [V.int 4, V.int 10] (if k = true then 1 else 0) = some (.int lim) ∧ 4 ≤ lim ∧ lim ≤ 10 := by
  cases k
  · exact ⟨4, rfl, by decide, by decide⟩
  · exact ⟨10, rfl, by decide, by decide⟩
theorem nV_int (sz : List Nat) : sz.map nV = (sz.map fun (z : Nat) => (z : Int)).map V.int := by rw [List.map_map]; rfl
theorem sum_nat : ∀ sz : List Nat, (sz.map fun (z : Nat) => (z : Int)).sum = ((sz.sum : Nat) : Int)
  | [] => rfl
  | z :: sz => by
    rw [List.map_cons, List.sum_cons, List.sum_cons, sum_nat sz]
    omega
theorem sum_le : ∀ sz : List Nat, (∀ z ∈ sz, 1 ≤ z ∧ z ≤ 10) → sz.sum ≤ 10 * sz.length
  | [], _ => Nat.le_refl _
  | z :: sz, h => by
    have h1 := h z (by simp)
    have h2 := sum_le sz fun y m => h y (List.mem_cons_of_mem _ m)
    rw [List.sum_cons, List.length_cons]
    omega
theorem collect {K : PySem.W.Frag} {H : Hp} : ∀ (ys : List V) (rest : List (List Nat)), (∀ (i : Nat) y, ys[i]? = some y → ∃ bx : Box, rest[i]? = some bx.1 ∧ Dt K H y (boxD bx)) → ∃ l : List Box, Dts K H ys (l.map boxD) ∧ l.map Prod.fst = rest.take ys.length
  | [], rest, _ => ⟨[], .nil, by simp⟩
  | y :: ys, [], h => by
    obtain ⟨bx, e, _⟩ := h 0 y rfl
    cases e
  | y :: ys, d :: rest, h => by
    obtain ⟨bx, e, t⟩ := h 0 y rfl
    obtain ⟨l, hl, el⟩ := collect ys rest fun i z hz => by simpa using h (i + 1) z (by simpa using hz)
    refine ⟨bx :: l, .cons t hl, ?_⟩
    have e : d = bx.1 := by simpa using e
    rw [List.map_cons, el, List.length_cons, List.take_succ_cons, e]
theorem sort_at (k : Int) (h0 : 0 ≤ k) (h1 : k < 2) : ∃ s : Bool, atI [V.str "plain", V.str "shy"] k = some (.str (sortS s)) := by
  have c : k = 0 ∨ k = 1 := by omega
  rcases c with e | e <;> subst e
  · exact ⟨false, rfl⟩
  · exact ⟨true, rfl⟩
/-- a new loop, not at t -/
def NL (K : PySem.W.Frag) (H H' : Hp) (t : Addr) (v : V) (l : List Box) : Prop := ∃ q ys, v = .ref q ∧ q ≠ t ∧ H q = none ∧ H' q = some (.lst ys) ∧ Dts K H' ys (l.map boxD)
theorem NL.k {K : PySem.W.Frag} {H H1 H2 : Hp} {t b : Addr} {v : V} {l : List Box} {n m : Nat} (bag0 : Bag H b m) (bag : Bag H1 b n) (e : But b H1 H2) (h : NL K H H1 t v l) : NL K H H2 t v l := by
  obtain ⟨q, ys, rfl, qt, h0, h1, hd⟩ := h
  exact ⟨q, ys, rfl, qt, h0, e.keep _ _ (Lm.bag_off bag0 h0) h1, hd.k (Lm.kt_but bag e)⟩
theorem NL.lst {K : PySem.W.Frag} {H H1 : Hp} {t : Addr} {v : V} {l : List Box} {zs : List V} {o : HO} (ht : H1 t = some (.lst zs)) (h : NL K H H1 t v l) : NL K H (upd H1 t o) t v l := by
  obtain ⟨q, ys, rfl, qt, h0, h1, hd⟩ := h
  exact ⟨q, ys, rfl, qt, h0, by rw [upd_ne qt]; exact h1, hd.k (Kt.lst ht)⟩
theorem NL.same {K : PySem.W.Frag} {H H1 H2 : Hp} {t : Addr} {v : V} {l : List Box} (e : Same H1 H2) (h : NL K H H1 t v l) : NL K H H2 t v l := by
  obtain ⟨q, ys, rfl, qt, h0, h1, hd⟩ := h
  exact ⟨q, ys, rfl, qt, h0, e _ _ h1, hd.k (Kt.same e)⟩
theorem cut_from (xs : List V) (z : Nat) (h : z ≤ xs.length) : cutV xs (some (z : Int)) none = xs.drop z := by
  unfold cutV
  rw [HT.sIx_nat, HT.sIx_none, Nat.min_eq_left h, List.take_of_length_le (by rw [List.length_drop]; omega)]
theorem flat_fst : ∀ ls : List (List Box), (ls.flatten.map fun b => numS b.1) = (ls.flatten.map Prod.fst).map numS := fun ls => by rw [List.map_map]; rfl
theorem rest_len {ls : List (List Box)} {rest dss : List (List Nat)} {sz : List Nat} {i : Nat} (e1 : ls.flatten.map Prod.fst ++ rest = dss) (e2 : ls.map List.length = sz.take i) (e3 : dss.length = sz.sum) : rest.length = (sz.drop i).sum := by
  have h1 : (ls.flatten.map Prod.fst).length + rest.length = sz.sum := by rw [← List.length_append, e1, e3]
  rw [List.length_map, List.length_flatten, e2] at h1
  have h2 : (sz.take i).sum + (sz.drop i).sum = sz.sum := by rw [← List.sum_append, List.take_append_drop]
  omega
theorem ok_loops (T : Txt K mg) : FnOk P w K mg base CX0 4 T.a_loops T.d_loops ["_law_bag_here"] (sp_loops K) := by
  refine T.F_loops.ok sc_loops (fun vs H Q E h => ?_) (fun cdv A outer s H vs Q E hr h => ?_)
  · obtain ⟨b, n, rfl, _⟩ := h
    rfl
  · obtain ⟨b, n, rfl, hbag, hn, kk⟩ := h
    refine ⟨_, (pss_cons (ps_set (i := 1) sc_loops.nd rfl (Or.inl rfl) (pe_lst pa_nil))
      (pss_cons (ps_for PassesOwn.never rfl (pi_range1 (by rfl) T.z_range (pa_cons (pe_op op_add pe_int (pe_call (ok_draw T) (hr.mono (by decide)) (by rfl) T.g_draw T.F_draw.kp T.b_draw .nil pass0 (pa_cons (pv 0) (pa_cons pe_int pa_nil)))) pa_nil)) (pg_name (i := 2) sc_loops.nd rfl (Or.inl rfl))
        (pss_one (ps_expr (pe_bm PySem.F.plainAttrs_list PySem.F.slot_list_append PySem.F.type_list_append mt_append (pv 1) (pa_cons (pe_op op_add pe_int (pe_call (ok_draw T) (hr.mono (by decide)) (by rfl) T.g_draw T.F_draw.kp T.b_draw .nil pass0 (pa_cons (pv 0) (pa_cons (pe_ix ix_list (pe_lst (pa_cons pe_int (pa_cons pe_int pa_nil))) (pe_callTy call_int1 (by rfl) T.z_int (by decide +kernel) (pa_cons (pe_cmpR op_eq (pe_call (ok_draw T) (hr.mono (by decide)) (by rfl) T.g_draw T.F_draw.kp T.b_draw .nil pass0 (pa_cons (pv 0) (pa_cons pe_int pa_nil))) pe_int (nomark _)) pa_nil)) (fun _ _ => rfl)) pa_nil)))) pa_nil)))))
      (pss_cons (ps_set (i := 3) sc_loops.nd rfl (Or.inr rfl) (pe_call (ok_numbers T) (hr.mono (by decide)) (by rfl) T.g_numbers T.F_numbers.kp T.b_numbers .nil pass0 (pa_cons (pv 0) (pa_cons (pe_callB (cr_sum rfl) (by rfl) T.z_sum (by decide +kernel) (pa_cons (pv 1) pa_nil)) pa_nil))))
      (pss_cons (ps_set (i := 4) sc_loops.nd rfl (Or.inl rfl) (pe_lst pa_nil))
      (pss_cons (ps_for PassesOwn.never rfl (pi_list (pv 1)) (pg_name (i := 5) sc_loops.nd rfl (Or.inl rfl))
        (pss_cons (ps_expr (pe_bm PySem.F.plainAttrs_list PySem.F.slot_list_append PySem.F.type_list_append mt_append (pv 4) (pa_cons (pe_lc (own := [("_law_k", 2)]) (g := gName 2) (tt := tYes) rfl sc_loops.nd (pi_range1 (by rfl) T.z_range (pa_cons (pv 5) pa_nil)) (blkOk_by (own := [("_law_k", 2)]) (N := nm_loops) (sc := (defScope s_loops)) (by decide +kernel)) (fun _ _ _ _ _ => pg_name (i := 2) sc_loops.nd rfl (Or.inl rfl)) (fun _ _ _ _ _ => pts_nil) (fun _ _ _ _ _ => (pe_tup (pa_cons (pe_ix (show IxR _ (rIxL K) from ix_list) (pv 3) (pv 2) (fun _ _ => rfl)) (pa_cons (pe_ix (show IxR _ (rIxL K) from ix_list) (pe_lst (pa_cons pe_str (pa_cons pe_str pa_nil))) (pe_call (ok_draw T) (hr.mono (by decide)) (by rfl) T.g_draw T.F_draw.kp T.b_draw .nil pass0 (pa_cons (pv 0) (pa_cons pe_int pa_nil))) (fun _ _ => rfl)) pa_nil))))) pa_nil)))
        (pss_one (ps_set (i := 3) sc_loops.nd rfl (Or.inr rfl) (pe_slice sl_list (pv 3) (po_some (pv 5)) po_none)))))
      (pss_one (ps_ret (pv 4)))))))), ?_⟩
    refine ⟨Nat.zero_le _, fun s1 hs1 => ?_⟩
    have hS1 : upd H s1 (.lst []) s1 = some (.lst []) := upd_same
    have sb := Lm.bag_off hbag hs1
    have sm1 : Same H (upd H s1 (.lst [])) := same_new hs1
    generalize upd H s1 (.lst []) = H1 at *
    refine ⟨_, rfl, b, n, 3, rfl, by decide, by decide, hbag.keep sm1, by omega, fun H2 d1 g0 g1 bag2 but2 => ?_⟩
    obtain ⟨many, em⟩ : ∃ many : Nat, (1 : Int) + d1 = (many : Nat) := ⟨(1 + d1).toNat, by omega⟩
    refine ⟨_, _, rfl, rfl, _, rfl, by omega, by omega, ?_⟩
    rw [em, Int.toNat_natCast]
    have hS2 := but2.keep _ _ sb hS1
    have butA := (But.of sm1).trans but2
    refine for_range (fun i σ H' => ∃ (sz : List Nat) (v2 : Option V), σ = [some (.ref b), some (.ref s1), v2, none, none, none] ∧ sz.length = i ∧ (∀ z ∈ sz, 1 ≤ z ∧ z ≤ 10) ∧ H' s1 = some (.lst (sz.map nV)) ∧ Bag H' b (n + 1 + 2 * i) ∧ But b H H')
      ⟨[], none, rfl, rfl, by simp, hS2, bag2, butA⟩ (fun i σ H3 hi hP => ?_) (fun σ H3 hP => ?_)
    · obtain ⟨sz, v2, rfl, el, hz, hS, bag, but⟩ := hP
      refine ⟨_, rfl, .inl ⟨rfl, _, SqL.of hS⟩, ?_⟩
      refine ⟨_, rfl, by show 2 ≤ sizeLine; decide, fun q hq => ?_⟩
      have qb := Lm.bag_off bag hq
      have hS4 := at_old (u := .lst [.int 4, .int 10]) hS hq
      have hq4 : upd H3 q (.lst [.int 4, .int 10]) q = some (.lst [.int 4, .int 10]) := upd_same
      have bag4 := bag.keep (same_new (o := .lst [.int 4, .int 10]) hq)
      have but4 := but.trans (But.of (same_new (o := .lst [.int 4, .int 10]) hq))
      generalize upd H3 q (.lst [.int 4, .int 10]) = H4 at *
      refine ⟨_, rfl, b, _, 6, rfl, by decide, by decide, bag4, by omega, fun H5 d5 e0 e1 bag5 but5 => ?_⟩
      obtain ⟨lim, al, l4, l10⟩ := lim_at (decide (V.int d5 = V.int 0))
      refine ⟨rfl, .inr ⟨_, rfl, q, _, _, _, rfl, rfl, SqL.of (but5.keep _ _ qb hq4), al, ?_⟩⟩
      refine ⟨b, _, lim, rfl, by omega, by omega, bag5, by omega, fun H6 d6 f0 f1 bag6 but6 => ?_⟩
      have hS6 := but6.keep _ _ sb (but5.keep _ _ sb hS4)
      obtain ⟨z, ez⟩ : ∃ z : Nat, (1 : Int) + d6 = (z : Nat) := ⟨(1 + d6).toNat, by omega⟩
      refine ⟨_, _, rfl, rfl, s1, _, _, rfl, rfl, hS6, small1000 (by rw [List.length_map]; omega), ?_⟩
      refine ⟨sz ++ [z], _, rfl, by rw [List.length_append, el]; rfl, fun y m => ?_, ?_, Bag.put hbag hs1 ((but4.trans but5).trans but6) (bag6.mono (by omega)), ((but4.trans but5).trans but6).put hs1⟩
      · rcases List.mem_append.mp m with m | m
        · exact hz y m
        · rw [List.mem_singleton.mp m]
          omega
      · rw [upd_same, List.map_append]
        show some (HO.lst (sz.map nV ++ [.int (1 + d6)])) = _
        rw [ez]
        rfl
    obtain ⟨sz, v2, rfl, el, hz, hS, bag, but⟩ := hP
    have sl := sum_le sz hz
    refine ⟨_, rfl, _, rfl, s1, _, rfl, SqL.of (by rw [hS, nV_int]), ?_⟩
    rw [sum_nat]
    refine ⟨b, n + 1 + 2 * many, sz.sum, rfl, by omega, bag, by omega, fun H4 u dss ed hN nd hu0 hu bag4 but4 => ?_⟩
    have hS4 := but4.keep _ _ sb hS
    have hu0' : H u = none := But.free bag but hbag hu0
    have us : u ≠ s1 := fun e => by
      rw [e, hS] at hu0
      cases hu0
    have but5 := but.trans but4
    refine ⟨Nat.zero_le _, fun t ht => ?_⟩
    have ht0 : H t = none := But.free bag4 but5 hbag ht
    have tu : t ≠ u := fun e => by
      rw [e, hu] at ht
      cases ht
    have ts : t ≠ s1 := fun e => by
      rw [e, hS4] at ht
      cases ht
    refine ⟨_, rfl, s1, rfl, ⟨_, SqL.of (at_old hS4 ht)⟩, ?_⟩
    refine for_list (xs := sz.map nV) (fun i σ H' => ∃ (ls : List (List Box)) (xs : List V) (rest : List (List Nat)) (w : Addr) (v2 v5 : Option V), σ = [some (.ref b), some (.ref s1), v2, some (.ref w), some (.ref t), v5] ∧ ls.length = i ∧ xs.length = i ∧ H' t = some (.lst xs) ∧
      (∀ (j : Nat) v, xs[j]? = some v → ∃ l, ls[j]? = some l ∧ NL K H H' t v l) ∧ ls.flatten.map Prod.fst ++ rest = dss ∧ ls.map List.length = sz.take i ∧ w ≠ t ∧ w ≠ b ∧ H' w = some (.lst ((rest.map numS).map V.str)) ∧ H' s1 = some (.lst (sz.map nV)) ∧
      Bag H' b (n + 1 + 2 * many + 6 * sz.sum + 20 * i) ∧ But b H H')
      ⟨[], [], dss, u, v2, none, rfl, rfl, rfl, upd_same, fun (j : Nat) (v : V) e => by simp at e, rfl, by simp, tu.symm, Lm.bag_off hbag hu0', by rw [upd_ne tu.symm]; exact hu, by rw [upd_ne ts.symm]; exact hS4, (bag4.keep (same_new ht)).mono (by omega), but5.trans (But.of (same_new ht))⟩
      (fun i σ H5 _ hP => ?_) (fun i x σ H5 hx hP => ?_) (fun σ H5 hP => ?_)
    · obtain ⟨ls, xs, rest, w, v2, v5, rfl, e1, e2, hT, hL, e3, e4, wt, wb, hw, hS5, bag5, but5⟩ := hP
      exact SqL.of hS5
    · obtain ⟨ls, xs, rest, w, v2, v5, rfl, e1, e2, hT, hL, e3, e4, wt, wb, hw, hS5, bag5, but5⟩ := hP
      rw [List.getElem?_map] at hx
      obtain ⟨z, hz1, rfl⟩ := Option.map_eq_some_iff.mp hx
      have hi : i < sz.length := (List.getElem?_eq_some_iff.mp hz1).1
      have z10 := hz z (List.mem_of_getElem? hz1)
      have rl := rest_len e3 e4 ed
      have dz : sz.drop i = z :: sz.drop (i + 1) := by
        rw [List.drop_eq_getElem_cons hi]
        congr 1
        have := List.getElem?_eq_getElem hi
        rw [hz1] at this
        exact (Option.some.inj this).symm
      rw [dz, List.sum_cons] at rl
      have rl30 : rest.length ≤ 30 := by
        have := (congrArg List.length e3).trans ed
        rw [List.length_append] at this
        omega
      refine ⟨_, rfl, .inl ⟨rfl, _, SqL.of hT⟩, ?_⟩
      refine ⟨_, rfl, _, rfl, by omega, by omega, fun D hD => ?_⟩
      have Dt' : D ≠ t := fun e => by
        rw [e, hT] at hD
        cases hD
      have D0 : H D = none := But.free bag5 but5 hbag hD
      have hn : ((z : Nat) : Int).toNat = z := Int.toNat_natCast z
      rw [hn]
      refine Lm.lc_bag (K := K) (c := 1) (walk_rngL (lo := 0) (n := z)) (fun k y H' => ∃ bx : Box, rest[k]? = some bx.1 ∧ Dt K H' y (boxD bx)) (fun k y A B ⟨bx, e, d⟩ kt => ⟨bx, e, d.k kt⟩) hD bag5 (by omega) (fun _ _ => trivial)
        (fun k y A hk hy bA gA Q2 Z q2 => ?_) (fun A ys bA gA hy ly hR => ?_)
      · rw [List.getElem?_map, List.getElem?_range hk] at hy
        cases Option.some.inj hy
        have kl : k < rest.length := by omega
        have hw2 := bA.keep _ _ wb hw
        refine ⟨rfl, yesT ?_⟩
        refine ⟨_, rfl, _, rfl, w, _, ((k : Nat) : Int), _, rfl, by show V.int (0 + (k : Int)) = _; rw [Int.zero_add], SqL.of hw2, atI_nat (show ((rest.map numS).map V.str)[k]? = some (.str (numS rest[k])) by rw [List.getElem?_map, List.getElem?_map, List.getElem?_eq_getElem kl]; rfl), ?_⟩
        refine ⟨by show 2 ≤ sizeLine; decide, fun q hq => ?_⟩
        have qb := Lm.bag_off gA hq
        have gA2 := gA.keep (same_new (o := .lst [V.str "plain", V.str "shy"]) hq)
        have bA2 : But b A (upd A q (.lst [V.str "plain", V.str "shy"])) := But.of (same_new hq)
        have hq2 : upd A q (.lst [V.str "plain", V.str "shy"]) q = some (.lst [V.str "plain", V.str "shy"]) := upd_same
        refine ⟨_, rfl, b, _, 2, rfl, by decide, by decide, gA2, by omega, fun A3 dd d0 d1 gA3 bA3 => ?_⟩
        obtain ⟨sb, hsb⟩ := sort_at dd d0 d1
        refine ⟨q, _, _, _, rfl, rfl, SqL.of (bA3.keep _ _ qb hq2), hsb, ?_⟩
        refine ⟨by show 2 ≤ sizeLine; decide, fun p9 hp9 => ?_⟩
        exact q2 _ _ ((bA2.trans bA3).trans (But.of (same_new hp9))) ((gA3.keep (same_new hp9)).mono (by omega)) ⟨(rest[k], sb), List.getElem?_eq_getElem kl, dt_tup upd_same (.cons (.str _) (.cons (.str _) .nil))⟩
      · obtain ⟨l, hl, el⟩ := collect ys rest hR
        have tA := bA.keep _ _ (Lm.bag_off hbag ht0) hT
        have tb := Lm.bag_off hbag ht0
        refine ⟨t, _, _, rfl, rfl, tA, small1000 (by omega), ?_⟩
        refine ⟨_, rfl, _, rfl, _, rfl, w, _, rfl, SqL.of (by rw [upd_ne wt]; exact bA.keep _ _ wb hw), fun p hp => ?_⟩
        have pt : p ≠ t := fun e => by
          rw [e, upd_same] at hp
          cases hp
        have lw : z ≤ ((rest.map numS).map V.str).length := by rw [List.length_map, List.length_map]; omega
        rw [show nV z = V.int (z : Int) from rfl] at *
        have ll : l.length = z := by
          have := congrArg List.length el
          rw [List.length_map, List.length_take] at this
          omega
        have hpA : A p = none := by
          rw [upd_ne pt] at hp
          exact hp
        have g2 := Bag.put hbag ht0 (but5.trans bA) gA (o := .lst (xs ++ [V.ref D]))
        refine ⟨ls ++ [l], xs ++ [.ref D], rest.drop z, p, v2, _, rfl, by rw [List.length_append, e1]; rfl, by rw [List.length_append, e2]; rfl, by rw [upd_ne pt.symm]; exact upd_same, fun j v hj => ?_, ?_, ?_, pt, Lm.bag_off g2 hp, ?_, ?_,
          (g2.keep (same_new hp)).mono (by omega), ((but5.trans bA).put ht0).trans (But.of (same_new hp))⟩
        · by_cases lj : j < xs.length
          · rw [List.getElem?_append_left lj] at hj
            obtain ⟨l2, hl2, n2⟩ := hL j v hj
            exact ⟨l2, by rw [List.getElem?_append_left (by omega)]; exact hl2, ((n2.k hbag bag5 bA).lst tA).same (same_new hp)⟩
          · have ej : j = xs.length := by
              have := (List.getElem?_eq_some_iff.mp hj).1
              rw [List.length_append, List.length_singleton] at this
              omega
            subst ej
            rw [List.getElem?_append_right (Nat.le_refl _), Nat.sub_self] at hj
            cases hj
            refine ⟨l, by rw [e2, ← e1, List.getElem?_append_right (Nat.le_refl _), Nat.sub_self]; rfl, NL.same (same_new hp) ⟨D, ys, rfl, Dt', D0, ?_, hl.k (Kt.lst tA)⟩⟩
            rw [upd_ne Dt']
            exact hy
        · rw [List.flatten_append, List.map_append, List.flatten_singleton, el, ly, List.append_assoc, List.take_append_drop]
          exact e3
        · rw [List.map_append, e4, take_snoc hz1]
          show _ ++ [l.length] = _
          rw [ll]
        · rw [upd_same, cut_from _ _ lw, ← List.map_drop, ← List.map_drop]
        · rw [upd_ne (ne_of_none (by rw [upd_ne ts.symm]; exact bA.keep _ _ sb hS5) hp), upd_ne ts.symm]
          exact bA.keep _ _ sb hS5
    · obtain ⟨ls, xs, rest, w, v2, v5, rfl, e1, e2, hT, hL, e3, e4, wt, wb, hw, hS5, bag5, but5⟩ := hP
      rw [List.length_map] at e1 e2 e4 bag5
      have e4' : ls.map List.length = sz := by rw [e4, List.take_length]
      have rl := rest_len e3 e4 ed
      rw [List.drop_length] at rl
      have er : rest = [] := List.eq_nil_of_length_eq_zero rl
      rw [er, List.append_nil] at e3
      refine ⟨_, rfl, kk _ t xs ls ⟨by omega, by omega, fun l m => ?_, fun l m => ?_, fun x m => ?_, ?_⟩ ht0 hT (by omega) (fun j v hj => ?_) (bag5.mono (by omega)) but5⟩
      · exact (hz _ (e4' ▸ List.mem_map_of_mem m)).1
      · exact (hz _ (e4' ▸ List.mem_map_of_mem m)).2
      · exact hN _ (e3 ▸ List.mem_map_of_mem m)
      · rw [flat_fst, e3]
        exact nd
      · obtain ⟨l, h1, q, ys, rfl, h2, h3, h4, h5⟩ := hL j v hj
        exact ⟨l, h1, q, ys, rfl, h3, h4, h5⟩
end
end K08

namespace K08
open PySem L2 Wm TL Dv
section
variable {P : Program} {w : World} {K : PySem.W.Frag} {mg : Str → Option Value} {base : Heap}
theorem no_meth (m : Str) (a : decide (m = "loops") = false) (b : decide (m = "rounds") = false) (c : decide (m = "hear") = false) (d : decide (m = "numbers") = false) {fs : List (Str × V)} (l5 : ∀ m : Str, m ≠ "loops" → m ≠ "rounds" → m ≠ "hear" → m ≠ "numbers" → fs.lookup m = none) : fs.lookup m = none :=
  l5 m (of_decide_eq_false a) (of_decide_eq_false b) (of_decide_eq_false c) (of_decide_eq_false d)
theorem in_flat {ls : List (List Box)} {i j : Nat} {l : List Box} {b : Box} (hl : ls[i]? = some l) (hb : l[j]? = some b) : b ∈ ls.flatten := List.mem_flatten.mpr ⟨l, List.mem_of_getElem? hl, List.mem_of_getElem? hb⟩
theorem LsAt.keep {H H' : Hp} {q : Addr} {ls : List (List Box)} (h : LsAt K H q ls) (s : Same H H') : LsAt K H' q ls := by
  obtain ⟨xs, hq, el, ha⟩ := h
  refine ⟨xs, s _ _ hq, el, fun i v hv => ?_⟩
  obtain ⟨l, hl, q2, ys, e, h2, hd⟩ := ha i v hv
  exact ⟨l, hl, q2, ys, e, s _ _ h2, hd.k (Kt.same s)⟩
theorem LsAt.inTown {H : Hp} {q : Addr} {ls : List (List Box)} (h : LsAt K H q ls) : InTown K H (.ref q) ls := by
  obtain ⟨xs, hq, el, ha⟩ := h
  refine ⟨q, xs, false, rfl, Kd.Is.lst (SqL.of hq), el, fun i v hv => ?_⟩
  obtain ⟨l, hl, q2, ys, e, h2, hd⟩ := ha i v hv
  exact ⟨l, hl, q2, ys, false, e, Kd.Is.lst (SqL.of h2), hd⟩
theorem made {H : Hp} {p dx C : Addr} (hp : H p = none) (hd : H dx = none) (ne : dx ≠ p) : Same H (upd (upd H dx (.own p)) p (.ins C dx [])) :=
  (same_new hd).trans (same_new (by rw [upd_ne (Ne.symm ne)]; exact hp))
theorem made_off {H H' : Hp} {p dx C : Addr} (hp : H p = none) (hd : H dx = none) (ne : dx ≠ p) (off : ∀ q o, q ≠ p → upd (upd H dx (.own p)) p (.ins C dx []) q = some o → H' q = some o) : Same H H' :=
  fun q o e => off q o (ne_of_none e hp) (made hp hd ne q o e)
theorem ixn {n j : Nat} (hj : j < n) : ixN n (j : Int) = some j := by
  unfold ixN
  rw [if_pos (by omega), if_pos (by omega)]
  simp
theorem dts_set {H : Hp} {ys : List V} {l : List Box} {j : Nat} {v : V} {c : Box} (h : Dts K H ys (l.map boxD)) (t : Dt K H v (boxD c)) : Dts K H (ys.set j v) ((l.set j c).map boxD) := by
  refine dts_of (by rw [List.length_set, List.length_map, List.length_set, h.len, List.length_map]) fun i y hy => ?_
  rw [List.getElem?_set] at hy
  have le := h.len
  rw [List.length_map] at le
  by_cases q : j = i
  · subst q
    rw [if_pos rfl] at hy
    split at hy
    · rename_i hj
      cases hy
      exact ⟨boxD c, by rw [List.getElem?_map, List.getElem?_set, if_pos rfl, if_pos (by omega)]; rfl, t⟩
    · cases hy
  · rw [if_neg q] at hy
    obtain ⟨d, e, td⟩ := h.at hy
    exact ⟨d, by rw [List.getElem?_map, List.getElem?_set, if_neg q, ← List.getElem?_map]; exact e, td⟩
theorem boxes_ob {H : Hp} {ys : List V} {l : List Box} (h : Dts K H ys (l.map boxD)) : BoxesAt K H ys (l.map toOB) := by
  refine ⟨by rw [boxes_len h, List.length_map], fun i v hv => ?_⟩
  obtain ⟨b, hb, t⟩ := boxes_at h hv
  obtain ⟨q, rfl, hq⟩ := box_inv t
  exact ⟨toOB b, by rw [List.getElem?_map, hb]; rfl, q, rfl, hq⟩
theorem BoxesAt.set {H : Hp} {xs : List V} {bs : List OB} {x : V} {b : OB} (h : BoxesAt K H xs bs) (a : BoxAt K H x b) (j : Nat) : BoxesAt K H (xs.set j x) (bs.set j b) := by
  refine ⟨by rw [List.length_set, List.length_set, h.1], fun i v hv => ?_⟩
  rw [List.getElem?_set] at hv
  have le := h.1
  by_cases q : j = i
  · subst q
    rw [if_pos rfl] at hv
    split at hv
    · rename_i hj
      cases hv
      exact ⟨b, by rw [List.getElem?_set, if_pos rfl, if_pos (by omega)], a⟩
    · cases hv
  · rw [if_neg q] at hv
    obtain ⟨c, hc, a2⟩ := h.2 i v hv
    exact ⟨c, by rw [List.getElem?_set, if_neg q]; exact hc, a2⟩
theorem fl_num {ds : List Nat} (N : Num ds) : Fl (.str (numS ds)) := .str ⟨by rw [numS_len]; have := N.len; omega, fun c m => by
  have m : c ∈ codes ds := m
  obtain ⟨d, md, rfl⟩ := List.mem_map.mp m
  have := (N.dig d md).2
  omega⟩
theorem shp_set {ls : List (List Box)} (G : Good ls) {i j : Nat} {l : List Box} {n s : V} (hl : ls[i]? = some l) (fn : Fl n) (fs : Fl s) : Shp (setO ls i j l (n, s)) := by
  have ml := List.mem_of_getElem? hl
  have mem : ∀ m ∈ setO ls i j l (n, s), (∃ k ∈ ls, m = k.map toOB) ∨ m = (l.map toOB).set j (n, s) := fun m h => by
    rcases List.mem_or_eq_of_mem_set h with h | h
    · obtain ⟨k, mk, rfl⟩ := List.mem_map.mp h
      exact .inl ⟨k, mk, rfl⟩
    · exact .inr h
  have flk : ∀ k ∈ ls, FlB (k.map toOB) := fun k mk b mb => by
    obtain ⟨c, mc, rfl⟩ := List.mem_map.mp mb
    exact ⟨fl_num (G.num c (List.mem_flatten.mpr ⟨k, mk, mc⟩)), fl_sort c.2⟩
  refine ⟨by unfold setO; rw [List.length_set, List.length_map]; exact G.l1, by unfold setO; rw [List.length_set, List.length_map]; exact G.l2, fun m h => ?_, fun m h => ?_, fun b mb => ?_⟩
  · rcases mem m h with ⟨k, mk, rfl⟩ | rfl
    · rw [List.length_map]; exact G.b1 k mk
    · rw [List.length_set, List.length_map]; exact G.b1 l ml
  · rcases mem m h with ⟨k, mk, rfl⟩ | rfl
    · rw [List.length_map]; exact G.b2 k mk
    · rw [List.length_set, List.length_map]; exact G.b2 l ml
  · obtain ⟨m, mm, mb⟩ := List.mem_flatten.mp mb
    rcases mem m mm with ⟨k, mk, rfl⟩ | rfl
    · exact flk k mk b mb
    · rcases List.mem_or_eq_of_mem_set mb with h | h
      · exact flk l ml b h
      · rw [h]
        exact ⟨fn, fs⟩
theorem ok_with_box (T : Txt K mg) : FnOk P w K mg base (L2.CX P w) 8 T.a_with_box T.d_with_box ["self", "number", "box"] (sp_with_box K T.C T.CB T.CT) := by
  refine T.F_with_box.okX sc_with_box (fun vs H Q E h => ?_) (fun cdv A outer s H vs Q E hr h => ?_)
  · obtain ⟨p, x, d, q, ls, r, h, n, s, rfl, _⟩ := h
    rfl
  · obtain ⟨p, x, d, q, ls, r, h, n, s, rfl, hT, G, R, hd, sh, hq, fn, fs0, kB, kk⟩ := h
    obtain ⟨dx, fs, y, y2, hp, l1, l2, l3, l4, l5, t, t2⟩ := id hT
    obtain ⟨q0, xs, rfl, hS, hds⟩ := t.inv
    have el := town_len hds
    have g2 := G.l2
    have nm : fs.lookup ("site_of" : Str) = none := no_meth "site_of" (by decide +kernel) (by decide +kernel) (by decide +kernel) (by decide +kernel) l5
    refine ⟨_, (pss_cons (ps_asg (MS.pe_methS (pv 0) T.clC T.m_site_of (ok_site_of T) (hr.mono (by decide)) T.b_site_of (fun σ => passAt (takes_of rfl rfl rfl rfl) σ) (by exact (pa_cons (pv 1) pa_nil))) (pg_tup rfl (pgs_cons (pg_name (i := 3) sc_with_box.nd rfl (Or.inl rfl)) (pgs_cons (pg_name (i := 4) sc_with_box.nd rfl (Or.inl rfl)) pgs_nil))))
      (pss_cons (ps_setLc (i := 5) (own := [("loop", 6)]) (g := gName 6) (tt := tYes) rfl sc_with_box.nd rfl rfl (sw_true rfl rfl rfl (by decide +kernel)) (pi_tup (pe_fld (pv 0) rfl)) (blkOk_by (own := [("loop", 6)]) (N := nm_with_box) (sc := (defScope s_with_box)) (by decide +kernel)) (fun _ _ _ _ _ => pg_name (i := 6) sc_with_box.nd rfl (Or.inl rfl)) (fun _ _ _ _ _ => pts_nil) (fun _ _ _ _ _ => (pe_callTy (show CallR _ _ (Kx.rLst K) from call_list_of) (by rfl) T.z_list (by decide +kernel) (pa_cons (pv 6) pa_nil))))
      (pss_cons (ps_asg (pv 2) (pg_sub (pe_ix ix_list (pv 5) (pv 3) (fun _ _ => rfl)) (pv 4) set_list))
      (pss_one (ps_ret (pe_makeK T.mk_init (ok_init T) (hr.mono (by decide)) (by rfl) T.gC T.kb2 (Po.passL 7 rfl (takes_of rfl rfl rfl rfl)) (pa_cons (pv 5) pa_nil) (pk_cons (pe_fld (pv 0) rfl) (pk_cons (pe_fld (pv 0) rfl) pk_nil)))))))), ?_⟩
    refine ⟨_, rfl, p, dx, fs, rfl, hp, nm, _, rfl, p, x, d, ls, r, h, rfl, hT, G, hd, sh, fun i j l b hl hb e H1 q1 s1 f1 hq1 => ?_, kB⟩
    have kk := kk i j l b hl hb e
    refine ⟨q1, _, rfl, SqT.of hq1, rfl, _, _, rfl, _, _, rfl, rfl, ?_⟩
    have hS1 := sameT s1 hS
    have hds1 := hds.k (Kt.same (K := K) s1)
    refine ⟨_, rfl, p, T.C, dx, fs, _, rfl, s1 _ _ hp, T.clC, T.nL, l1, q0, rfl, ⟨_, hS1⟩, fun D hD => ?_⟩
    refine Lm.lc_apart walk_tup (fun n y H' => ∃ m qm ys, ls[n]? = some m ∧ y = .ref qm ∧ qm ≠ D ∧ H1 qm = none ∧ H' qm = some (.lst ys) ∧ Dts K H' ys (m.map boxD)) (fun a b => a ≠ b) (fun n y A B zs hR hy bar => ?_) (fun _ _ _ _ h => Lm.same_at h) hD (by omega) (fun H' s => sameT s hS1)
      (fun n x A A' hn sm hDl hY ys0 hys Q2 Z q2 => ?_) (fun H2 ys s2 hy ly hR hN => ?_)
    · obtain ⟨m, qm, ys, e1, e2, e3, e4, e5, e6⟩ := hR
      exact ⟨m, qm, ys, e1, e2, e3, e4, bar _ _ e3 e5, e6.k (Lm.Bar.kt hy bar)⟩
    · obtain ⟨rfl, hx⟩ := hY
      obtain ⟨m, hm, tm⟩ := town_at hds1 hx
      obtain ⟨qz, zs, rfl, hqz, hz⟩ := (tm.k (Kt.same sm)).inv
      obtain ⟨dl, hDl⟩ := hDl
      refine ⟨rfl, yesT ⟨_, rfl, qz, zs, rfl, .inr hqz, fun u hu => ?_⟩⟩
      exact q2 _ _ (same_new hu) ⟨m, u, zs, hm, rfl, (ne_of_none hDl hu).symm, sm.free hu, upd_same, hz.k (Kt.new hu)⟩ (fun z mz ez => by
        obtain ⟨w, hw⟩ := List.getElem?_of_mem mz
        obtain ⟨_, qm, zs2, _, e2, _, _, e5, _⟩ := hys w z hw
        rw [ez] at e2
        cases e2
        rw [e5] at hu
        cases hu)
    · obtain ⟨hi, _⟩ := List.getElem?_eq_some_iff.mp hl
      obtain ⟨yi, hyi⟩ : ∃ y, ys[i]? = some y := ⟨ys[i]'(by omega), List.getElem?_eq_getElem (by omega)⟩
      obtain ⟨m, qm, zs, e1, rfl, e3, e4, e5, e6⟩ := hR i _ hyi
      rw [hl] at e1
      cases e1
      have lz := e6.len
      rw [List.length_map] at lz
      obtain ⟨hj, _⟩ := List.getElem?_eq_some_iff.mp hb
      have s12 := s1.trans s2
      have qp : p ≠ qm := ne_of_none (s1 _ _ hp) e4
      have b3 : Lm.Bar qm H2 (upd H2 qm (.lst (zs.set j (.ref q)))) := fun a o n e => by
        rw [upd_ne n]
        exact e
      have s13 : Same H (upd H2 qm (.lst (zs.set j (.ref q)))) := fun a o e => b3 a o (ne_of_none (s1 _ _ e) e4) (s12 _ _ e)
      refine ⟨_, rfl, _, rfl, _, rfl, D, ys, i, _, rfl, rfl, SqL.of hy, atI_nat hyi, _, rfl, qm, zs, j, j, rfl, rfl, e5, ixn (by omega), ?_⟩
      refine ⟨_, rfl, _, rfl, p, T.C, dx, fs, _, rfl, s13 _ _ hp, T.clC, T.nR, l2, _, rfl, p, T.C, dx, fs, _, rfl, s13 _ _ hp, T.clC, T.nH, l3, rfl, rfl, fun pA dy hpA hdy ne => ?_⟩
      have sm := made (C := T.C) hpA hdy ne
      have apart : ∀ i2 qm2, ¬ i = i2 → ys[i2]? = some (V.ref qm2) → qm2 ≠ qm := fun i2 qm2 q hv e => by
        obtain ⟨g1, g1'⟩ := List.getElem?_eq_some_iff.mp hyi
        obtain ⟨g2, g2'⟩ := List.getElem?_eq_some_iff.mp hv
        have pw := List.pairwise_iff_getElem.mp hN
        rcases Nat.lt_or_gt_of_ne q with lt | lt
        · exact pw i i2 g1 g2 lt (by rw [g1', g2', e])
        · exact pw i2 i g2 g1 lt (by rw [g1', g2', e])
      rcases kk with ⟨b', rfl, rfl, GG, k⟩ | ⟨wd, bad, er⟩
      · have tq : Dt K (upd H2 qm (.lst (zs.set j (.ref q)))) (.ref q) (boxD b') := .tup (sameT s13 hq) (.cons (.str _) (.cons (.str _) .nil))
        have L : LsAt K (upd H2 qm (.lst (zs.set j (.ref q)))) D (ls.set i (l.set j b')) := by
          refine ⟨ys, b3 _ _ e3.symm hy, by rw [List.length_set]; omega, fun i2 v hv => ?_⟩
          by_cases q : i = i2
          · subst q
            rw [hyi] at hv
            cases hv
            exact ⟨l.set j b', by rw [List.getElem?_set, if_pos rfl, if_pos hi], qm, _, rfl, upd_same, dts_set (e6.k (Lm.Bar.kt e5 b3)) tq⟩
          · obtain ⟨m2, qm2, zs2, f1, rfl, f3, f4, f5, f6⟩ := hR i2 _ hv
            exact ⟨m2, by rw [List.getElem?_set, if_neg q]; exact f1, qm2, zs2, rfl, b3 _ _ (apart i2 qm2 q hv) f5, f6.k (Lm.Bar.kt e5 b3)⟩
        refine .inl ⟨pA, dy, .ref D, _, r, h, rfl, upd_same, (L.keep sm).inTown, GG, R.r1, R.r8, R.h1, R.h2, R.hr, fun H7 off tA => ⟨rfl, ?_⟩⟩
        exact k _ _ (s13.trans (made_off hpA hdy ne off)) (s13.free hpA) tA
      · have tq : BoxAt K (upd H2 qm (.lst (zs.set j (.ref q)))) (.ref q) (n, s) := ⟨q, rfl, sameT s13 hq⟩
        have L : OTown K (upd H2 qm (.lst (zs.set j (.ref q)))) (.ref D) (setO ls i j l (n, s)) := by
          refine ⟨D, ys, false, rfl, Kd.Is.lst (SqL.of (b3 _ _ e3.symm hy)), by unfold setO; rw [List.length_set, List.length_map]; omega, fun i2 v hv => ?_⟩
          by_cases q : i = i2
          · subst q
            rw [hyi] at hv
            cases hv
            exact ⟨(l.map toOB).set j (n, s), by unfold setO; rw [List.getElem?_set, if_pos rfl, if_pos (by rw [List.length_map]; exact hi)], qm, _, false, rfl, Kd.Is.lst (SqL.of upd_same), (boxes_ob (e6.k (Lm.Bar.kt e5 b3))).set tq j⟩
          · obtain ⟨m2, qm2, zs2, f1, rfl, f3, f4, f5, f6⟩ := hR i2 _ hv
            exact ⟨m2.map toOB, by unfold setO; rw [List.getElem?_set, if_neg q, List.getElem?_map, f1]; rfl, qm2, zs2, false, rfl, Kd.Is.lst (SqL.of (b3 _ _ (apart i2 qm2 q hv) f5)), boxes_ob (f6.k (Lm.Bar.kt e5 b3))⟩
        exact .inr ⟨pA, dy, [.ref D, .int r, .int h], rfl, rfl, upd_same, .inl ⟨.ref D, .int r, .int h, _, wd, rfl, L.k sm, shp_set G hl fn fs0, bad, fun H' dd s' e' σ _ => er H' dd ((s13.trans sm).trans s') e'⟩⟩
end
end K08

namespace K08
open PySem L2 Wm TL Dv
section
variable {P : Program} {w : World} {K : PySem.W.Frag} {mg : Str → Option Value} {base : Heap}
theorem str_eqv {a b : Str} (h : PyData.eqv (.str a) (.str b) = true) : a = b := by simpa [PyData.eqv] using h
theorem flat_parts {ls : List (List Box)} (nd : (ls.flatten.map fun b => numS b.1).Nodup) : (∀ l ∈ ls, l.Pairwise fun a b => numS a.1 ≠ numS b.1) ∧ ls.Pairwise fun l m => ∀ a ∈ l, ∀ b ∈ m, numS a.1 ≠ numS b.1 := by
  have h : ls.flatten.Pairwise fun a b => numS a.1 ≠ numS b.1 := List.pairwise_map.mp nd
  exact List.pairwise_flatten.mp h
theorem pw_at {α : Type} {R : α → α → Prop} {l : List α} (h : l.Pairwise R) {i j : Nat} {a b : α} (ha : l[i]? = some a) (hb : l[j]? = some b) (lt : i < j) : R a b := by
  obtain ⟨hi, ea⟩ := List.getElem?_eq_some_iff.mp ha
  obtain ⟨hj, eb⟩ := List.getElem?_eq_some_iff.mp hb
  have := List.pairwise_iff_getElem.mp h i j hi hj lt
  rw [ea, eb] at this
  exact this
theorem pos_eq {ls : List (List Box)} (nd : (ls.flatten.map fun b => numS b.1).Nodup) {i j i2 j2 : Nat} {l l2 : List Box} {b b2 : Box} (hl : ls[i]? = some l) (hb : l[j]? = some b) (hl2 : ls[i2]? = some l2) (hb2 : l2[j2]? = some b2) (e : numS b2.1 = numS b.1) : i2 = i ∧ j2 = j ∧ b2 = b := by
  obtain ⟨h1, h2⟩ := flat_parts nd
  have ei : i2 = i := by
    rcases Nat.lt_trichotomy i2 i with q | q | q
    · exact absurd e (pw_at h2 hl2 hl q b2 (List.mem_of_getElem? hb2) b (List.mem_of_getElem? hb))
    · exact q
    · exact absurd e.symm (pw_at h2 hl hl2 q b (List.mem_of_getElem? hb) b2 (List.mem_of_getElem? hb2))
  subst ei
  rw [hl] at hl2
  cases hl2
  have h := h1 l (List.mem_of_getElem? hl)
  have ej : j2 = j := by
    rcases Nat.lt_trichotomy j2 j with q | q | q
    · exact absurd e (pw_at h hb2 hb q)
    · exact q
    · exact absurd e.symm (pw_at h hb hb2 q)
  subst ej
  rw [hb] at hb2
  cases hb2
  exact ⟨rfl, rfl, rfl⟩
theorem eqv_same {a b : Str} {d : PyData} (h1 : PyData.eqv (.str a) d = true) (h2 : PyData.eqv (.str b) d = true) : a = b := by
  cases d with
  | str c => exact (str_eqv h1).trans (str_eqv h2).symm
  | _ => simp [PyData.eqv] at h1
theorem ok_with_sort (T : Txt K mg) : FnOk P w K mg base (L2.CX P w) 9 T.a_with_sort T.d_with_sort ["self", "number", "sort"] (sp_with_sort K T.C T.CB T.CT) := by
  refine T.F_with_sort.okX sc_with_sort (fun vs H Q E h => ?_) (fun cdv A outer s H vs Q E hr h => ?_)
  · obtain ⟨p, x, d, ls, r, h, s, rfl, _⟩ := h
    rfl
  · obtain ⟨p, x, d, ls, r, h, s, rfl, hT, G, R, hd, sh, fx, fs0, kB, kk⟩ := h
    obtain ⟨dx, fs, y, y2, hp, l1, l2, l3, l4, l5, t, t2⟩ := id hT
    have nm : fs.lookup ("with_box" : Str) = none := no_meth "with_box" (by decide +kernel) (by decide +kernel) (by decide +kernel) (by decide +kernel) l5
    refine ⟨_, (pss_one (ps_ret (MS.pe_methS (pv 0) T.clC T.m_with_box (ok_with_box T) (hr.mono (by decide)) T.b_with_box (fun σ => passAt (takes_of rfl rfl rfl rfl) σ) (by exact (pa_cons (pv 1) (pa_cons (pe_tup (pa_cons (pv 1) (pa_cons (pv 2) pa_nil))) pa_nil)))))), ?_⟩
    refine ⟨_, rfl, p, dx, fs, rfl, hp, nm, _, rfl, _, rfl, _, rfl, by show 2 ≤ sizeLine; decide, fun q hq => ?_⟩
    have s1 := same_new (o := .tup [x, s]) hq
    refine ⟨p, x, d, q, ls, r, h, x, s, rfl, hT.keep s1, G, R, fun H' s' => hd H' (s1.trans s'), sh, SqT.of upd_same, fx, fs0, fun n => Er.after (E := E) (kB n) s1, fun i j l b hl hb e => ?_⟩
    rcases kk i j l b hl hb e with ⟨b', e1, e2, GG, k⟩ | ⟨w, bad, er⟩
    · exact .inl ⟨b', e1, e2, GG, fun H' p2 s2 f2 tA => k _ _ (s1.trans s2) (s1.free f2) tA⟩
    · exact .inr ⟨w, bad, Er.after (E := E) er s1⟩
theorem ok_with_number (T : Txt K mg) : FnOk P w K mg base (L2.CX P w) 9 T.a_with_number T.d_with_number ["self", "old", "new"] (sp_with_number K T.C T.CB T.CT) := by
  refine T.F_with_number.okX sc_with_number (fun vs H Q E h => ?_) (fun cdv A outer s H vs Q E hr h => ?_)
  · obtain ⟨p, x, d, ls, r, h, n, rfl, _⟩ := h
    rfl
  · obtain ⟨p, x, d, ls, r, h, n, rfl, hT, G, R, hd, sh, fn, kB, kk⟩ := h
    obtain ⟨dx, fs, y, y2, hp, l1, l2, l3, l4, l5, t, t2⟩ := id hT
    have nm : fs.lookup ("with_box" : Str) = none := no_meth "with_box" (by decide +kernel) (by decide +kernel) (by decide +kernel) (by decide +kernel) l5
    have nm2 : fs.lookup ("sort_of" : Str) = none := no_meth "sort_of" (by decide +kernel) (by decide +kernel) (by decide +kernel) (by decide +kernel) l5
    refine ⟨_, (pss_one (ps_ret (MS.pe_methS (pv 0) T.clC T.m_with_box (ok_with_box T) (hr.mono (by decide)) T.b_with_box (fun σ => passAt (takes_of rfl rfl rfl rfl) σ) (by exact (pa_cons (pv 1) (pa_cons (pe_tup (pa_cons (pv 2) (pa_cons (MS.pe_methS (pv 0) T.clC T.m_sort_of (ok_sort_of T) (hr.mono (by decide)) T.b_sort_of (fun σ => passAt (takes_of rfl rfl rfl rfl) σ) (by exact (pa_cons (pv 1) pa_nil))) pa_nil))) pa_nil)))))), ?_⟩
    refine ⟨_, rfl, p, dx, fs, rfl, hp, nm, _, rfl, _, rfl, _, rfl, p, dx, fs, rfl, hp, nm2, _, rfl, p, x, d, ls, r, h, rfl, hT, G, hd, sh, fun i0 j0 l0 b0 hl0 hb0 e0 H1 s0 => ?_, kB⟩
    refine ⟨by show 2 ≤ sizeLine; decide, fun q hq => ?_⟩
    have s1 := s0.trans (same_new (o := .tup [n, .str (sortS b0.2)]) hq)
    refine ⟨p, x, d, q, ls, r, h, n, .str (sortS b0.2), rfl, hT.keep s1, G, R, fun H' s' => hd H' (s1.trans s'), sh, SqT.of upd_same, fn, fl_sort b0.2, fun m => Er.after (E := E) (kB m) s1, fun i j l b hl hb e => ?_⟩
    obtain ⟨_, _, eb⟩ := pos_eq G.nd hl0 hb0 hl hb (eqv_same e e0)
    subst eb
    rcases kk i j l _ hl hb e with ⟨b', e1, e2, GG, k⟩ | ⟨w, bad, er⟩
    · exact .inl ⟨b', e1, by rw [e2], GG, fun H' p2 s2 f2 tA => k _ _ (s1.trans s2) (s1.free f2) tA⟩
    · exact .inr ⟨w, bad, Er.after (E := E) er s1⟩
end
end K08

namespace K08
open PySem L2 Wm TL Dv
section
variable {P : Program} {w : World} {K : PySem.W.Frag} {mg : Str → Option Value} {base : Heap}
theorem dt_loops {H : Hp} {x : V} {ls : List (List Box)} (t : Dt K H x (townD ls)) : InTown K H x ls := by
  obtain ⟨q, xs, rfl, hS, hd⟩ := t.inv
  refine ⟨q, xs, true, rfl, Kd.Is.tup hS, town_len hd, fun i v hv => ?_⟩
  obtain ⟨l, hl, tl⟩ := town_at hd hv
  obtain ⟨q2, ys, rfl, hq2, hy⟩ := tl.inv
  exact ⟨l, hl, q2, ys, true, rfl, Kd.Is.tup hq2, hy⟩
theorem giv_if {y y' : V} {r : Int} (g : Giv y r y') : (y = .non ∧ y' = .int r) ∨ (decide (y = V.non) = false ∧ y' = y) := g.imp id fun ⟨a, b⟩ => ⟨decide_eq_false a, b⟩
theorem ok_with_rules (T : Txt K mg) : FnOk P w K mg base (L2.CX P w) 8 T.a_with_rules T.d_with_rules ["self", "rounds", "hear"] (sp_with_rules K T.C T.CT) := by
  refine T.F_with_rules.ok sc_with_rules (fun vs H Q E h => ?_) (fun cdv A outer s H vs Q E hr h => ?_)
  · obtain ⟨p, ls, r, h, y, z, y', z', o, u, rfl, _⟩ := h
    rfl
  · obtain ⟨p, ls, r, h, y, z, y', z', o, u, rfl, hT, G, R, gy, gz, fy, fz, ty, tz, kk⟩ := h
    obtain ⟨dx, fs, yl, y2, hp, l1, l2, l3, l4, l5, t, t2⟩ := id hT
    refine ⟨_, (C8.pss_cut (ps_set (i := 3) sc_with_rules.nd rfl (Or.inl rfl) (pe_ifExp (pt_cmpR op_isN (pv 1) pe_non (nomark _)) (pe_fld (pv 0) rfl) (pv 1)))
      (C8.pss_cut (ps_set (i := 4) sc_with_rules.nd rfl (Or.inl rfl) (pe_ifExp (pt_cmpR op_isN (pv 2) pe_non (nomark _)) (pe_fld (pv 0) rfl) (pv 2)))
      (pss_one (ps_ret (pe_makeK T.mk_init (ok_init T) (hr.mono (by decide)) (by rfl) T.gC T.kb2 (Po.passL 5 rfl (takes_of rfl rfl rfl rfl)) (pa_cons (pe_fld (pv 0) rfl) pa_nil) (pk_cons (pv 3) (pk_cons (pv 4) pk_nil))))))), ?_⟩
    refine ⟨fun σ A => σ = [some (.ref p), some y, some z, some y', none] ∧ A = H, ?_, ?_⟩
    · rcases gy with ⟨rfl, rfl⟩ | ⟨ny, rfl⟩
      · exact ⟨_, rfl, rfl, _, rfl, iteT ⟨_, rfl, p, T.C, dx, fs, _, rfl, hp, T.clC, T.nR, l2, rfl, rfl⟩⟩
      · cases fy with
        | non => exact absurd rfl ny
        | int _ => exact ⟨_, rfl, rfl, _, rfl, iteF ⟨_, rfl, rfl, rfl⟩⟩
        | bl _ => exact ⟨_, rfl, rfl, _, rfl, iteF ⟨_, rfl, rfl, rfl⟩⟩
        | str _ => exact ⟨_, rfl, rfl, _, rfl, iteF ⟨_, rfl, rfl, rfl⟩⟩
    rintro σ A ⟨rfl, rfl⟩
    refine ⟨fun σ B => σ = [some (.ref p), some y, some z, some y', some z'] ∧ B = A, ?_, ?_⟩
    · rcases gz with ⟨rfl, rfl⟩ | ⟨nz, rfl⟩
      · exact ⟨_, rfl, rfl, _, rfl, iteT ⟨_, rfl, p, T.C, dx, fs, _, rfl, hp, T.clC, T.nH, l3, rfl, rfl⟩⟩
      · cases fz with
        | non => exact absurd rfl nz
        | int _ => exact ⟨_, rfl, rfl, _, rfl, iteF ⟨_, rfl, rfl, rfl⟩⟩
        | bl _ => exact ⟨_, rfl, rfl, _, rfl, iteF ⟨_, rfl, rfl, rfl⟩⟩
        | str _ => exact ⟨_, rfl, rfl, _, rfl, iteF ⟨_, rfl, rfl, rfl⟩⟩
    rintro σ B ⟨rfl, rfl⟩
    refine ⟨_, rfl, p, T.C, dx, fs, _, rfl, hp, T.clC, T.nL, l1, _, rfl, _, rfl, rfl, rfl, fun pA dy hpA hdy ne => ?_⟩
    have sm := made (C := T.C) hpA hdy ne
    have IT := (dt_loops t).k sm
    rcases kk with ⟨i, j, rfl, rfl, RR, k⟩ | ⟨wr, er⟩ | ⟨i, rfl, wr, wh, er⟩
    · refine .inl ⟨pA, dy, yl, ls, i, j, rfl, upd_same, IT, G, RR.r1, RR.r8, RR.h1, RR.h2, RR.hr, fun H7 off tA => ⟨rfl, ?_⟩⟩
      exact k _ _ (made_off hpA hdy ne off) hpA tA
    · exact .inr ⟨pA, dy, [yl, y', z'], rfl, rfl, upd_same, .inr ⟨yl, y', z', ls, o, u, rfl, IT, G, ty.k sm, tz.k sm, .inl ⟨wr, fun H' dd s' e' σ _ => er H' dd (sm.trans s') e'⟩⟩⟩
    · exact .inr ⟨pA, dy, [yl, y', z'], rfl, rfl, upd_same, .inr ⟨yl, y', z', ls, some i, u, rfl, IT, G, ty.k sm, tz.k sm, .inr ⟨i, rfl, wr, wh, fun H' dd s' e' σ _ => er H' dd (sm.trans s') e'⟩⟩⟩
end
end K08

namespace K08
open PySem L2 Wm TL Dv
section
variable {P : Program} {w : World} {K : PySem.W.Frag} {mg : Str → Option Value} {base : Heap}
theorem Fl.thing {H : Hp} {x : V} (h : Fl x) : Thing K H x (wh x) := by
  cases h with
  | int h => exact .int _
  | bl b => exact .bl b
  | non => exact .non
  | str h => exact .str _
theorem Fl.dp {H : Hp} {x : V} (h : Fl x) : Dp K H x (dV x) := by
  cases h with
  | int h => exact .int _
  | bl b => exact .bl b
  | non => exact .non
  | str h => exact .str _
theorem Fl.tg {x : V} (h : Fl x) : Tg (dV x) := by
  cases h with
  | int h => exact .int h
  | bl b => exact .bl b
  | non => exact .non
  | str h => exact .str h
theorem Tx.fine {n : Nat} {t : Str} (h : Tx t) : Fine n (.str t) := fine_str (by
  rw [← Array.all_toList, List.all_eq_true]
  intro c m
  have := h.asc c m
  exact decide_eq_true (by omega))
theorem Fl.fine {n : Nat} {x : V} (h : Fl x) : Fine n (dV x) := by
  cases h with
  | int h => exact fine_int _
  | bl b => exact ⟨by simp [dV, PyData.canLay0], by simp [dV, PyData.depth]⟩
  | non => exact ⟨by simp [dV, PyData.canLay0], by simp [dV, PyData.depth]⟩
  | str h => exact Tx.fine h
theorem Fl.shaped {x : V} (h : Fl x) : SeqAt.shaped (dV x) = true := (h.fine (n := 0)).shaped (by decide)
theorem LsO.at {H : Hp} {q b : Addr} {ls : List (List Box)} (h : LsO K b H q ls) : LsAt K H q ls := by
  obtain ⟨xs, _, hq, el, ha⟩ := h
  refine ⟨xs, hq, el, fun i v hv => ?_⟩
  obtain ⟨l, hl, q2, ys, e, _, h2, hd⟩ := ha i v hv
  exact ⟨l, hl, q2, ys, e, h2, hd⟩
theorem LsO.but {H H' : Hp} {q b : Addr} {n : Nat} {ls : List (List Box)} (bag : Bag H b n) (e : But b H H') (h : LsO K b H q ls) : LsO K b H' q ls := by
  obtain ⟨xs, qb, hq, el, ha⟩ := h
  refine ⟨xs, qb, e.keep _ _ qb hq, el, fun i v hv => ?_⟩
  obtain ⟨l, hl, q2, ys, ev, q2b, h2, hd⟩ := ha i v hv
  exact ⟨l, hl, q2, ys, ev, q2b, e.keep _ _ q2b h2, hd.k (Lm.kt_but bag e)⟩
theorem lsN_new {H H' : Hp} {q b : Addr} {n : Nat} {ls : List (List Box)} (bag : Bag H b n) (h : LsN K H H' q ls) : LsO K b H' q ls := by
  obtain ⟨xs, h0, h1, el, ha⟩ := h
  refine ⟨xs, Lm.bag_off bag h0, h1, el, fun i v hv => ?_⟩
  obtain ⟨l, hl, q2, ys, e, h2, h3, hd⟩ := ha i v hv
  exact ⟨l, hl, q2, ys, e, Lm.bag_off bag h2, h3, hd⟩
theorem Good.pos {ls : List (List Box)} (G : Good ls) : 1 ≤ ls.flatten.length := by
  cases e : ls with
  | nil =>
    have := G.l1
    rw [e] at this
    cases this
  | cons l r =>
    have := G.b1 l (by rw [e]; exact List.mem_cons_self)
    rw [List.flatten_cons, List.length_append]
    omega
theorem Good.le {ls : List (List Box)} (G : Good ls) : ls.flatten.length ≤ 30 := by
  have h := flat_le ls ls.length G.b2
  have := G.l2
  rw [List.take_length] at h
  omega
theorem at_list {xs : List V} {e : Int} (h0 : 0 ≤ e) (h1 : e < (xs.length : Nat)) : ∃ x ∈ xs, atI xs e = some x := by
  have hd : e.toNat < xs.length := by omega
  exact ⟨xs[e.toNat], List.getElem_mem hd, at_of (show e = ((e.toNat : Nat) : Int) by omega) (List.getElem?_eq_getElem hd)⟩
theorem numV_fl {ls : List (List Box)} (G : Good ls) {x : V} (m : x ∈ ls.flatten.map numV) : Fl x := by
  obtain ⟨b, mb, rfl⟩ := List.mem_map.mp m
  exact fl_num (G.num b mb)
theorem ok_whole (T : Txt K mg) : FnOk P w K mg base CX0 1 T.a_whole T.d_whole ["_law_thing"] (sp_whole K) := by
  refine T.F_whole.ok sc_whole (fun vs H Q E h => ?_) (fun cdv A outer s H vs Q E hr h => ?_)
  · obtain ⟨x, rfl, _⟩ := h
    rfl
  · obtain ⟨x, rfl, fx, k⟩ := h
    refine ⟨_, (pss_one (ps_ret (pe_and (pe_callB call_isi (by rfl) T.z_isinstance (by decide +kernel) (pa_cons (pv 0) (pa_cons (pe_bltn (v := V.ty "int") (by rfl) T.z_int (by decide +kernel) rfl) pa_nil))) (pe_one (pe_not (pe_callB call_isi (by rfl) T.z_isinstance (by decide +kernel) (pa_cons (pv 0) (pa_cons (pe_bltn (v := V.ty "bool") (by rfl) T.z_bool (by decide +kernel) rfl) pa_nil)))))))), ?_⟩
    cases fx with
    | int i =>
      refine ⟨_, rfl, _, _, _, _, true, rfl, .ty "int", .base (.int _), kit_ty (by decide +kernel), true, rfl, iteT ?_⟩
      exact ⟨_, rfl, _, _, _, _, false, rfl, .ty "bool", .base (.int _), kit_ty (by decide +kernel), false, rfl, k⟩
    | bl b =>
      refine ⟨_, rfl, _, _, _, _, true, rfl, .ty "int", .base (.bl _), kit_ty (by decide +kernel), true, rfl, iteT ?_⟩
      exact ⟨_, rfl, _, _, _, _, true, rfl, .ty "bool", .base (.bl _), kit_ty (by decide +kernel), true, rfl, k⟩
    | str s => exact ⟨_, rfl, _, _, _, _, false, rfl, .ty "int", .base (.str _), kit_ty (by decide +kernel), false, rfl, iteF k⟩
    | non => exact ⟨_, rfl, _, _, _, _, false, rfl, .ty "int", .base .non, kit_ty (by decide +kernel), false, rfl, iteF k⟩
theorem ok_names (T : Txt K mg) : FnOk P w K mg base CX0 1 T.a_names T.d_names ["_law_loops_here"] (sp_names K) := by
  refine T.F_names.ok sc_names (fun vs H Q E h => ?_) (fun cdv A outer s H vs Q E hr h => ?_)
  · obtain ⟨q, ls, rfl, _⟩ := h
    rfl
  · obtain ⟨q, ls, rfl, hL, G, k⟩ := h
    obtain ⟨xs, hq, el, ha⟩ := id hL
    have g2 := G.l2
    refine ⟨_, (pss_cons (ps_set (i := 1) sc_names.nd rfl (Or.inl rfl) (pe_lst pa_nil))
      (pss_cons (ps_for PassesOwn.never rfl (pi_list (pv 0)) (pg_name (i := 2) sc_names.nd rfl (Or.inl rfl))
        (pss_one (ps_set (i := 1) sc_names.nd rfl (Or.inl rfl) (pe_op op_cat (pv 1) (pe_lc (own := [("_law_box", 3)]) (g := gName 3) (tt := tYes) rfl sc_names.nd (pi_list (pv 2)) (blkOk_by (own := [("_law_box", 3)]) (N := nm_names) (sc := (defScope s_names)) (by decide +kernel)) (fun _ _ _ _ _ => pg_name (i := 3) sc_names.nd rfl (Or.inl rfl)) (fun _ _ _ _ _ => pts_nil) (fun _ _ _ _ _ => (pe_ix (show IxR _ (rIxT K) from ix_tup) (pv 3) pe_int (fun _ _ => rfl))))))))
      (pss_one (ps_ret (pv 1))))), ?_⟩
    refine ⟨Nat.zero_le _, fun f hf => ?_⟩
    have s0 : Same H (upd H f (.lst [])) := same_new hf
    refine ⟨_, rfl, q, rfl, ⟨_, SqL.of (s0 _ _ hq)⟩, ?_⟩
    refine for_list (xs := xs) (fun i σ H' => ∃ p v2 v3, σ = [some (.ref q), some (.ref p), v2, v3] ∧ H p = none ∧ H' p = some (.lst ((ls.take i).flatten.map numV)) ∧ Same H H') ⟨f, none, none, rfl, hf, by simp; exact upd_same, s0⟩
      (fun i σ H' _ h => let ⟨_, _, _, _, _, _, s⟩ := h; SqL.of (s _ _ hq)) (fun i x σ H6 hx hP => ?_) (fun σ H6 hP => ?_)
    · obtain ⟨p, v2, v3, rfl, fp, hp, s1⟩ := hP
      obtain ⟨l, hl, q2, ys, rfl, h2, hd⟩ := ha i x hx
      have b2 := G.b2 l (List.mem_of_getElem? hl)
      have lz := boxes_len hd
      have fl := flat_le ls i G.b2
      have hi := (List.getElem?_eq_some_iff.mp hl).1
      have h26 := s1 _ _ h2
      have hd6 := hd.k (Kt.same (K := K) s1)
      refine ⟨_, rfl, _, rfl, q2, rfl, ⟨_, SqL.of h26⟩, fun D hD => ?_⟩
      refine Lm.lc_map (K := K) walk_list (fun k y _ => (l.map numV)[k]? = some y) (fun _ _ _ _ h _ => h) hD (by omega) (fun H' s => SqL.of (s _ _ h26)) (fun k x H' hk hx sm Q2 Z q9 => ?_) (fun H7 zs s7 hy ly hR => ?_)
      · obtain ⟨b, hb, tb⟩ := boxes_at hd6 hx
        obtain ⟨qb, rfl, hqb⟩ := box_inv tb
        exact ⟨rfl, yesT ⟨_, rfl, qb, _, 0, _, rfl, rfl, sameT sm hqb, atI_nat (j := 0) rfl, q9 _ _ (Same.refl _) (by rw [List.getElem?_map, hb]; rfl)⟩⟩
      · have ez : zs = l.map numV := Lm.list_is (by rw [ly, List.length_map]; exact lz) hR
        subst ez
        refine ⟨p, D, _, _, rfl, rfl, s7 _ _ hp, hy, Nat.le_of_lt (small1000 (by rw [List.length_map, List.length_map]; omega)), fun n hn => ?_⟩
        have s17 := s1.trans s7
        refine ⟨n, _, _, rfl, s17.free hn, ?_, s17.trans (same_new hn)⟩
        rw [upd_same, flat_succ hl, List.map_append]
    · obtain ⟨p, v2, v3, rfl, fp, hp, s1⟩ := hP
      rw [el, List.take_length] at hp
      exact ⟨_, rfl, k _ p s1 fp hp⟩
theorem ok_number_of (T : Txt K mg) : FnOk P w K mg base CX0 3 T.a_number_of T.d_number_of ["_law_bag_here", "_law_loops_here"] (sp_number_of K) := by
  refine T.F_number_of.ok sc_number_of (fun vs H Q E h => ?_) (fun cdv A outer s H vs Q E hr h => ?_)
  · obtain ⟨b, n, q, ls, rfl, _⟩ := h
    rfl
  · obtain ⟨b, n, q, ls, rfl, bag, hn, L, G, k⟩ := h
    refine ⟨_, (pss_cons (ps_set (i := 2) sc_number_of.nd rfl (Or.inl rfl) (pe_call (ok_names T) (hr.mono (by decide)) (by rfl) T.g_names T.F_names.kp T.b_names .nil pass0 (pa_cons (pv 1) pa_nil)))
      (pss_cons (ps_if (pt_cmpR op_eq (pe_call (ok_draw T) (hr.mono (by decide)) (by rfl) T.g_draw T.F_draw.kp T.b_draw .nil pass0 (pa_cons (pv 0) (pa_cons pe_int pa_nil))) pe_int (nomark _))
        (pss_one (ps_ret (pe_ix ix_list (pe_lst (pa_cons (pe_call (ok_number T) (hr.mono (by decide)) (by rfl) T.g_number T.F_number.kp T.b_number .nil pass0 (pa_cons (pv 0) pa_nil)) (pa_cons pe_str (pa_cons pe_non (pa_cons pe_int pa_nil))))) (pe_call (ok_draw T) (hr.mono (by decide)) (by rfl) T.g_draw T.F_draw.kp T.b_draw .nil pass0 (pa_cons (pv 0) (pa_cons pe_int pa_nil))) (fun _ _ => rfl))))
        pss_nil)
      (pss_one (ps_ret (pe_ix ix_list (pv 2) (pe_call (ok_draw T) (hr.mono (by decide)) (by rfl) T.g_draw T.F_draw.kp T.b_draw .nil pass0 (pa_cons (pv 0) (pa_cons (pe_callB call_len_seq (by rfl) T.z_len PySem.boot_len (pa_cons (pv 2) pa_nil)) pa_nil))) (fun _ _ => rfl)))))), ?_⟩
    refine ⟨_, rfl, q, ls, rfl, L.at, G, fun H1 p s1 f1 h1 => ?_⟩
    have bag1 := bag.keep s1
    have pb := Lm.bag_off bag f1
    have gp := G.pos
    have gl := G.le
    refine ⟨_, rfl, b, n, 5, rfl, by decide, by decide, bag1, by omega, fun H2 d d0 d5 bag2 b12 => ?_⟩
    have but2 := (But.of s1).trans b12
    refine ⟨rfl, _, rfl, ite2 (fun c => ?_) (fun c => ?_)⟩
    · refine ⟨_, rfl, b, n + 1, rfl, bag2, by omega, fun H3 ds N bag3 but3 => ⟨by show 4 ≤ sizeLine; decide, fun u hu => ?_⟩⟩
      have ub := Lm.bag_off bag3 hu
      have su := same_new (o := .lst [.str (numS ds), .str "", .non, .int 1]) hu
      have hu2 : upd H3 u (.lst [.str (numS ds), .str "", .non, .int 1]) u = some (.lst [.str (numS ds), .str "", .non, .int 1]) := upd_same
      refine ⟨_, rfl, b, n + 7, 4, rfl, by decide, by decide, bag3.keep su, by omega, fun H4 e e0 e4 bag4 but4 => ?_⟩
      obtain ⟨x, mx, hx⟩ := at_list (xs := [.str (numS ds), .str "", .non, .int 1]) e0 e4
      refine ⟨u, _, e, x, rfl, rfl, SqL.of (but4.keep _ _ ub hu2), hx, ?_⟩
      refine k _ x ?_ bag4 (((but2.trans but3).trans (But.of su)).trans but4)
      simp only [List.mem_cons, List.not_mem_nil, or_false] at mx
      rcases mx with rfl | rfl | rfl | rfl
      · exact fl_num N
      · exact .str ⟨by decide +kernel, by decide +kernel⟩
      · exact .non
      · exact .int (by decide)
    · have hp2 := b12.keep _ _ pb h1
      refine ⟨_, rfl, _, rfl, _, rfl, p, _, rfl, .inl (SqL.of hp2), b, n + 1, _, rfl, by rw [List.length_map]; omega, by rw [List.length_map]; omega, bag2, by omega, fun H4 e e0 e4 bag4 but4 => ?_⟩
      obtain ⟨x, mx, hx⟩ := at_list e0 e4
      exact ⟨p, _, e, x, rfl, rfl, SqL.of (but4.keep _ _ pb hp2), hx, k _ x (numV_fl G mx) (bag4.mono (by omega)) (but2.trans but4)⟩
end
end K08

namespace K08
open PySem L2 Wm TL Dv
section
variable {P : Program} {w : World} {K : PySem.W.Frag} {mg : Str → Option Value} {base : Heap}
theorem fl_lit {t : Str} (h : t.length ≤ 100) (a : (tl t).all (fun c => decide (c < 128)) = true) : Fl (.str t) := .str ⟨h, fun c m => of_decide_eq_true (List.all_eq_true.mp a c m)⟩
theorem at_old3 {H : Hp} {u w : Addr} {o o2 : HO} (h : H u = some o) (n : H w = none) : upd H w o2 u = some o := at_old h n
theorem ok_change (T : Txt K mg) : FnOk P w K mg base CX0 4 T.a_change T.d_change ["_law_bag_here", "_law_loops_here"] (sp_change K) := by
  refine T.F_change.ok sc_change (fun vs H Q E h => ?_) (fun cdv A outer s H vs Q E hr h => ?_)
  · obtain ⟨b, n, q, ls, rfl, _⟩ := h
    rfl
  · obtain ⟨b, n, q, ls, rfl, bag, hn, L, G, k⟩ := h
    refine ⟨_, (pss_cons (ps_set (i := 2) sc_change.nd rfl (Or.inl rfl) (pe_call (ok_draw T) (hr.mono (by decide)) (by rfl) T.g_draw T.F_draw.kp T.b_draw .nil pass0 (pa_cons (pv 0) (pa_cons pe_int pa_nil))))
      (pss_cons (ps_set (i := 3) sc_change.nd rfl (Or.inl rfl) (pe_call (ok_number_of T) (hr.mono (by decide)) (by rfl) T.g_number_of T.F_number_of.kp T.b_number_of .nil pass0 (pa_cons (pv 0) (pa_cons (pv 1) pa_nil))))
      (pss_cons (ps_if (pt_cmpR op_eq (pv 2) pe_int (nomark _))
        (pss_one (ps_ret (pe_lst (pa_cons pe_str (pa_cons (pv 3) (pa_cons (pe_ix ix_list (pe_lst (pa_cons pe_str (pa_cons pe_str (pa_cons pe_str (pa_cons pe_str (pa_cons pe_str (pa_cons pe_non (pa_cons pe_int (pa_cons pe_str pa_nil))))))))) (pe_call (ok_draw T) (hr.mono (by decide)) (by rfl) T.g_draw T.F_draw.kp T.b_draw .nil pass0 (pa_cons (pv 0) (pa_cons pe_int pa_nil))) (fun _ _ => rfl)) pa_nil))))))
        pss_nil)
      (pss_cons (ps_if (pt_cmpR op_eq (pv 2) pe_int (nomark _))
        (pss_one (ps_ret (pe_lst (pa_cons pe_str (pa_cons (pv 3) (pa_cons (pe_ix ix_list (pe_lst (pa_cons (pe_call (ok_number T) (hr.mono (by decide)) (by rfl) T.g_number T.F_number.kp T.b_number .nil pass0 (pa_cons (pv 0) pa_nil)) (pa_cons (pe_call (ok_number_of T) (hr.mono (by decide)) (by rfl) T.g_number_of T.F_number_of.kp T.b_number_of .nil pass0 (pa_cons (pv 0) (pa_cons (pv 1) pa_nil))) (pa_cons (pv 3) (pa_cons pe_str pa_nil))))) (pe_call (ok_draw T) (hr.mono (by decide)) (by rfl) T.g_draw T.F_draw.kp T.b_draw .nil pass0 (pa_cons (pv 0) (pa_cons pe_int pa_nil))) (fun _ _ => rfl)) pa_nil))))))
        pss_nil)
      (pss_cons (ps_set (i := 4) sc_change.nd rfl (Or.inl rfl) (pe_lst (pa_cons pe_non (pa_cons (pe_op op_add pe_int (pe_call (ok_draw T) (hr.mono (by decide)) (by rfl) T.g_draw T.F_draw.kp T.b_draw .nil pass0 (pa_cons (pv 0) (pa_cons pe_int pa_nil)))) (pa_cons (pe_op op_add pe_int (pe_call (ok_draw T) (hr.mono (by decide)) (by rfl) T.g_draw T.F_draw.kp T.b_draw .nil pass0 (pa_cons (pv 0) (pa_cons pe_int pa_nil)))) (pa_cons (pe_ix ix_list (pe_lst (pa_cons pe_int (pa_cons pe_int (pa_cons pe_bl (pa_cons pe_str pa_nil))))) (pe_call (ok_draw T) (hr.mono (by decide)) (by rfl) T.g_draw T.F_draw.kp T.b_draw .nil pass0 (pa_cons (pv 0) (pa_cons pe_int pa_nil))) (fun _ _ => rfl)) pa_nil))))))
      (pss_cons (ps_set (i := 5) sc_change.nd rfl (Or.inl rfl) (pe_lst (pa_cons pe_non (pa_cons pe_int (pa_cons pe_int (pa_cons (pe_ix ix_list (pe_lst (pa_cons pe_int (pa_cons pe_int (pa_cons pe_bl (pa_cons pe_str pa_nil))))) (pe_call (ok_draw T) (hr.mono (by decide)) (by rfl) T.g_draw T.F_draw.kp T.b_draw .nil pass0 (pa_cons (pv 0) (pa_cons pe_int pa_nil))) (fun _ _ => rfl)) pa_nil))))))
      (pss_one (ps_ret (pe_lst (pa_cons pe_str (pa_cons (pe_ix ix_list (pv 4) (pe_call (ok_draw T) (hr.mono (by decide)) (by rfl) T.g_draw T.F_draw.kp T.b_draw .nil pass0 (pa_cons (pv 0) (pa_cons pe_int pa_nil))) (fun _ _ => rfl)) (pa_cons (pe_ix ix_list (pv 5) (pe_call (ok_draw T) (hr.mono (by decide)) (by rfl) T.g_draw T.F_draw.kp T.b_draw .nil pass0 (pa_cons (pv 0) (pa_cons pe_int pa_nil))) (fun _ _ => rfl)) pa_nil)))))))))))), ?_⟩
    have fPlain : Fl (.str "plain") := fl_lit (by decide +kernel) (by decide +kernel)
    have fShy : Fl (.str "shy") := fl_lit (by decide +kernel) (by decide +kernel)
    have fShy2 : Fl (.str "Shy") := fl_lit (by decide +kernel) (by decide +kernel)
    have fE : Fl (.str "") := fl_lit (by decide +kernel) (by decide +kernel)
    have f11 : Fl (.str "11111") := fl_lit (by decide +kernel) (by decide +kernel)
    have f2 : Fl (.str "2") := fl_lit (by decide +kernel) (by decide +kernel)
    have f1 : Fl (.str "1") := fl_lit (by decide +kernel) (by decide +kernel)
    refine ⟨_, rfl, b, n, 3, rfl, by decide, by decide, bag, by omega, fun H1 way w0 w3 bag1 but1 => ?_⟩
    refine ⟨_, rfl, _, rfl, b, n + 1, q, ls, rfl, bag1, by omega, L.but bag but1, G, fun H2 x fx bag2 b12 => ?_⟩
    have but2 := but1.trans b12
    refine ⟨_, rfl, rfl, _, rfl, ite2 (fun c => ?_) (fun c => ?_)⟩
    · refine ⟨_, rfl, by show 8 ≤ sizeLine; decide, fun u hu => ?_⟩
      have su := same_new (o := .lst [.str "plain", .str "shy", .str "plain", .str "shy", .str "Shy", .non, .int 0, .str ""]) hu
      have hu2 : upd H2 u (.lst [.str "plain", .str "shy", .str "plain", .str "shy", .str "Shy", .non, .int 0, .str ""]) u = some (.lst [.str "plain", .str "shy", .str "plain", .str "shy", .str "Shy", .non, .int 0, .str ""]) := upd_same
      have ub := Lm.bag_off bag2 hu
      generalize upd H2 u (.lst [.str "plain", .str "shy", .str "plain", .str "shy", .str "Shy", .non, .int 0, .str ""]) = H3 at *
      have bag3 := bag2.keep su
      refine ⟨_, rfl, b, n + 9, 8, rfl, by decide, by decide, bag3, by omega, fun H4 e e0 e4 bag4 b34 => ?_⟩
      obtain ⟨y, my, hy⟩ := at_list (xs := [.str "plain", .str "shy", .str "plain", .str "shy", .str "Shy", .non, .int 0, .str ""]) e0 e4
      have but4 := (but2.trans (But.of su)).trans b34
      refine ⟨u, _, e, y, rfl, rfl, SqL.of (b34.keep _ _ ub hu2), hy, by show 3 ≤ sizeLine; decide, fun w hw => ?_⟩
      have fy : Fl y := by
        simp only [List.mem_cons, List.not_mem_nil, or_false] at my
        rcases my with rfl | rfl | rfl | rfl | rfl | rfl | rfl | rfl
        · exact fPlain
        · exact fShy
        · exact fPlain
        · exact fShy
        · exact fShy2
        · exact .non
        · exact .int (by decide)
        · exact fE
      exact k _ w "sort" x y (.inl rfl) fx fy (But.free bag4 but4 bag hw) upd_same ((bag4.keep (same_new hw)).mono (by omega)) (but4.trans (But.of (same_new hw)))
    refine ⟨_, rfl, rfl, _, rfl, ite2 (fun c => ?_) (fun c => ?_)⟩
    · refine ⟨_, rfl, _, rfl, b, n + 9, rfl, bag2, by omega, fun H3 ds N bag3 b23 => ?_⟩
      refine ⟨_, rfl, _, rfl, b, n + 15, q, ls, rfl, bag3, by omega, (L.but bag but2).but bag2 b23, G, fun H4 x2 fx2 bag4 b34 => ?_⟩
      have but4 := (but2.trans b23).trans b34
      refine ⟨_, rfl, by show 4 ≤ sizeLine; decide, fun u hu => ?_⟩
      have su := same_new (o := .lst [.str (numS ds), x2, x, .str "11111"]) hu
      have hu2 : upd H4 u (.lst [.str (numS ds), x2, x, .str "11111"]) u = some (.lst [.str (numS ds), x2, x, .str "11111"]) := upd_same
      have ub := Lm.bag_off bag4 hu
      generalize upd H4 u (.lst [.str (numS ds), x2, x, .str "11111"]) = H5 at *
      have bag5 := bag4.keep su
      refine ⟨_, rfl, b, n + 23, 4, rfl, by decide, by decide, bag5, by omega, fun H6 e e0 e4 bag6 b56 => ?_⟩
      obtain ⟨y, my, hy⟩ := at_list (xs := [.str (numS ds), x2, x, .str "11111"]) e0 e4
      have but6 := (but4.trans (But.of su)).trans b56
      refine ⟨u, _, e, y, rfl, rfl, SqL.of (b56.keep _ _ ub hu2), hy, by show 3 ≤ sizeLine; decide, fun w hw => ?_⟩
      have fy : Fl y := by
        simp only [List.mem_cons, List.not_mem_nil, or_false] at my
        rcases my with rfl | rfl | rfl | rfl
        · exact fl_num N
        · exact fx2
        · exact fx
        · exact f11
      exact k _ w "number" x y (.inr (.inl rfl)) fx fy (But.free bag6 but6 bag hw) upd_same ((bag6.keep (same_new hw)).mono (by omega)) (but6.trans (But.of (same_new hw)))
    · refine ⟨_, rfl, b, n + 9, 8, rfl, by decide, by decide, bag2, by omega, fun H3 d1 p0 p1 bag3 b23 => ⟨_, _, rfl, rfl, ?_⟩⟩
      refine ⟨_, rfl, b, n + 10, 8, rfl, by decide, by decide, bag3, by omega, fun H4 d2 q0 q1 bag4 b34 => ⟨_, _, rfl, rfl, ?_⟩⟩
      refine ⟨by show 4 ≤ sizeLine; decide, fun u hu => ?_⟩
      have su := same_new (o := .lst [.int 0, .int 9, .bl true, .str "2"]) hu
      have hu2 : upd H4 u (.lst [.int 0, .int 9, .bl true, .str "2"]) u = some (.lst [.int 0, .int 9, .bl true, .str "2"]) := upd_same
      have ub := Lm.bag_off bag4 hu
      generalize upd H4 u (.lst [.int 0, .int 9, .bl true, .str "2"]) = H5 at *
      have bag5 := bag4.keep su
      refine ⟨_, rfl, b, n + 11, 4, rfl, by decide, by decide, bag5, by omega, fun H6 e e0 e4 bag6 b56 => ?_⟩
      obtain ⟨y1, m1, hy1⟩ := at_list (xs := [.int 0, .int 9, .bl true, .str "2"]) e0 e4
      have but6 := (((but2.trans b23).trans b34).trans (But.of su)).trans b56
      have fy1 : Fl y1 := by
        simp only [List.mem_cons, List.not_mem_nil, or_false] at m1
        rcases m1 with rfl | rfl | rfl | rfl
        · exact .int (by decide)
        · exact .int (by decide)
        · exact .bl _
        · exact f2
      refine ⟨u, _, e, y1, rfl, rfl, SqL.of (b56.keep _ _ ub hu2), hy1, by show 4 ≤ sizeLine; decide, fun u7 hu7 => ?_⟩
      have su7 := same_new (o := .lst [.non, .int (1 + d1), .int (1 + d2), y1]) hu7
      have hu72 : upd H6 u7 (.lst [.non, .int (1 + d1), .int (1 + d2), y1]) u7 = some (.lst [.non, .int (1 + d1), .int (1 + d2), y1]) := upd_same
      have ub7 := Lm.bag_off bag6 hu7
      generalize upd H6 u7 (.lst [.non, .int (1 + d1), .int (1 + d2), y1]) = H7 at *
      have bag7 := bag6.keep su7
      refine ⟨by show 4 ≤ sizeLine; decide, fun u8 hu8 => ?_⟩
      have su8 := same_new (o := .lst [.int 0, .int 3, .bl true, .str "1"]) hu8
      have hu82 : upd H7 u8 (.lst [.int 0, .int 3, .bl true, .str "1"]) u8 = some (.lst [.int 0, .int 3, .bl true, .str "1"]) := upd_same
      have ub8 := Lm.bag_off bag7 hu8
      generalize upd H7 u8 (.lst [.int 0, .int 3, .bl true, .str "1"]) = H8 at *
      have bag8 := bag7.keep su8
      refine ⟨_, rfl, b, n + 12, 4, rfl, by decide, by decide, bag8, by omega, fun H9 g g0 g4 bag9 b89 => ?_⟩
      obtain ⟨y2, m2, hy2⟩ := at_list (xs := [.int 0, .int 3, .bl true, .str "1"]) g0 g4
      have fy2 : Fl y2 := by
        simp only [List.mem_cons, List.not_mem_nil, or_false] at m2
        rcases m2 with rfl | rfl | rfl | rfl
        · exact .int (by decide)
        · exact .int (by decide)
        · exact .bl _
        · exact f1
      have b69 := ((But.of (b := b) su7).trans (But.of su8)).trans b89
      refine ⟨u8, _, g, y2, rfl, rfl, SqL.of (b89.keep _ _ ub8 hu82), hy2, by show 4 ≤ sizeLine; decide, fun u10 hu10 => ?_⟩
      have su10 := same_new (o := .lst [.non, .int 1, .int 2, y2]) hu10
      have hu102 : upd H9 u10 (.lst [.non, .int 1, .int 2, y2]) u10 = some (.lst [.non, .int 1, .int 2, y2]) := upd_same
      have ub10 := Lm.bag_off bag9 hu10
      generalize upd H9 u10 (.lst [.non, .int 1, .int 2, y2]) = H10 at *
      have bag10 := bag9.keep su10
      have h7 := su10 _ _ (b89.keep _ _ ub7 (su8 _ _ hu72))
      refine ⟨_, rfl, _, rfl, b, n + 13, 4, rfl, by decide, by decide, bag10, by omega, fun H11 f f0 f4 bag11 b1011 => ?_⟩
      obtain ⟨x3, mx3, hx3⟩ := at_list (xs := [.non, .int (1 + d1), .int (1 + d2), y1]) f0 f4
      refine ⟨u7, _, f, x3, rfl, rfl, SqL.of (b1011.keep _ _ ub7 h7), hx3, ?_⟩
      refine ⟨_, rfl, _, rfl, b, n + 14, 4, rfl, by decide, by decide, bag11, by omega, fun H12 f' f0' f4' bag12 b1112 => ?_⟩
      obtain ⟨y3, my3, hy3⟩ := at_list (xs := [.non, .int 1, .int 2, y2]) f0' f4'
      refine ⟨u10, _, f', y3, rfl, rfl, SqL.of (b1112.keep _ _ ub10 (b1011.keep _ _ ub10 hu102)), hy3, by show 3 ≤ sizeLine; decide, fun w hw => ?_⟩
      have but12 := (((but6.trans b69).trans (But.of su10)).trans b1011).trans b1112
      have fx3 : Fl x3 := by
        simp only [List.mem_cons, List.not_mem_nil, or_false] at mx3
        rcases mx3 with rfl | rfl | rfl | rfl
        · exact .non
        · exact .int (by omega)
        · exact .int (by omega)
        · exact fy1
      have fy3 : Fl y3 := by
        simp only [List.mem_cons, List.not_mem_nil, or_false] at my3
        rcases my3 with rfl | rfl | rfl | rfl
        · exact .non
        · exact .int (by decide)
        · exact .int (by decide)
        · exact fy2
      exact k _ w "rules" x3 y3 (.inr (.inr rfl)) fx3 fy3 (But.free bag12 but12 bag hw) upd_same ((bag12.keep (same_new hw)).mono (by omega)) (but12.trans (But.of (same_new hw)))
end
end K08

namespace K08
open PySem L2 Wm TL Dv
section
variable {P : Program} {w : World} {K : PySem.W.Frag} {mg : Str → Option Value} {base : Heap}
theorem strs_fine {ts : List Str} (h : ∀ t ∈ ts, Tx t) : Fine 1 (.list (ts.map .str)) := by
  have q := fine_tup (n := 0) (ds := ts.map PyData.str) fun d m => by
    obtain ⟨t, mt, rfl⟩ := List.mem_map.mp m
    exact Tx.fine (h t mt)
  have q1 := q.1
  have q2 := q.2
  simp only [PyData.canLay0] at q1
  simp only [PyData.depth] at q2
  exact ⟨by simp only [PyData.canLay0]; exact q1, by simp only [PyData.depth]; exact q2⟩
theorem odd_signs {t : Str} (l : List Nat) : ∀ i, (l.take i).filter (fun c => !decide (c ∈ t.cps.toList)) = [] ↔ ∀ c ∈ l.take i, c ∈ t.cps.toList := fun i => by
  rw [List.filter_eq_nil_iff]
  simp
theorem take1 {l : List Nat} {i c : Nat} (h : l[i]? = some c) : l.take (i + 1) = l.take i ++ [c] := by
  rw [List.take_add_one, h]
  rfl
theorem ok_wis_number (T : Txt K mg) : FnOk P w K mg base CX0 1 T.a_wis_number T.d_wis_number ["_law_thing"] (sp_wis_number K) := by
  refine T.F_wis_number.ok sc_wis_number (fun vs H Q E h => ?_) (fun cdv A outer s H vs Q E hr h => ?_)
  · obtain ⟨x, rfl, _⟩ := h
    rfl
  · obtain ⟨x, rfl, fx, kx⟩ := h
    obtain ⟨d, ob⟩ := fx.ob (K := K)
    obtain ⟨n, b0, ty, k1, k2, k3⟩ := tys_of (ob H)
    refine ⟨_, (pss_cons (ps_if (PW.pt (pw_or (pt_not (pt_val (pe_callB call_isi (by rfl) T.z_isinstance (by decide +kernel) (pa_cons (pv 0) (pa_cons (pe_bltn (v := V.ty "str") (by rfl) T.z_str (by decide +kernel) rfl) pa_nil))))) (pw_or (pt_cmpR op_lt (pe_callB call_len_str (by rfl) T.z_len PySem.boot_len (pa_cons (pv 0) pa_nil)) pe_int (nomark _)) (pw_or1 (pt_cmpR op_gt (pe_callB call_len_str (by rfl) T.z_len PySem.boot_len (pa_cons (pv 0) pa_nil)) pe_int (nomark _))))))
        (pss_one (ps_ret pe_bl))
        pss_nil)
      (pss_cons (ps_if (pt_cmpR (op_neD hr.units) (pe_lc (own := [("_law_sign", 1)]) (g := gName 1) rfl sc_wis_number.nd (pi_str (pv 0)) (blkOk_by (own := [("_law_sign", 1)]) (N := nm_wis_number) (sc := (defScope s_wis_number)) (by decide +kernel)) (fun _ _ _ _ _ => pg_name (i := 1) sc_wis_number.nd rfl (Or.inl rfl)) (fun _ _ _ _ _ => (pts_one (pt_cmpR op_notIn_sign (pv 1) pe_str rfl))) (fun _ _ _ _ _ => (pv 1))) (pe_lst pa_nil) (nomark _))
        (pss_one (ps_ret pe_bl))
        pss_nil)
      (pss_one (ps_ret (pe_cmpR op_le (pe_callB (cr_sum rfl) (by rfl) T.z_sum (by decide +kernel) (pa_cons (pe_lc (own := [("_law_sign", 1)]) (g := gName 1) (tt := tYes) rfl sc_wis_number.nd (pi_str (pv 0)) (blkOk_by (own := [("_law_sign", 1)]) (N := nm_wis_number) (sc := (defScope s_wis_number)) (by decide +kernel)) (fun _ _ _ _ _ => pg_name (i := 1) sc_wis_number.nd rfl (Or.inl rfl)) (fun _ _ _ _ _ => pts_nil) (fun _ _ _ _ _ => (pe_callTy call_int_str (by rfl) T.z_int (by decide +kernel) (pa_cons (pv 1) pa_nil)))) pa_nil)) pe_int (nomark _)))))), ?_⟩
    refine ⟨_, rfl, _, _, _, _, b0, rfl, .ty "str", ty, k1, b0, rfl, ?_⟩
    cases b0 with
    | false =>
      refine iteT ?_
      refine iteT ?_
      exact kx _ _ (Same.refl _) ⟨fun z => (by cases z), fun z => absurd z (k3 rfl)⟩
    | true =>
    refine iteF ?_
    obtain ⟨t, rfl, _, tx⟩ := k2 rfl
    have hz : t.length ≤ 100000 := Nat.le_trans tx.len (by decide)
    have k : ∀ H' b, Same H H' → (b = true ↔ IsNum t) → Q (.bl b) H' := fun H' b s e => kx H' b s (e.trans isN_str.symm)
    have hl : t.length = (tl t).length := len_tl t
    have numlen : IsNum t → 1 ≤ t.length ∧ t.length ≤ 4 := fun ⟨ds, N, e⟩ => by
      rw [e, numS_len]
      exact ⟨N.pos, N.len⟩
    refine ⟨_, rfl, _, rfl, small_len hz, _, _, rfl, rfl, _, rfl, ?_⟩
    refine ite2 (fun c1 => ?_) (fun c1 => ?_)
    · have c1' : ((t.length : Nat) : Int) < 1 := of_decide_eq_true c1
      refine iteT ?_
      exact k _ _ (Same.refl _) ⟨fun z => (by cases z), fun z => absurd (numlen z).1 (by omega)⟩
    have c1' : ¬ ((t.length : Nat) : Int) < 1 := fun z => c1 (decide_eq_true z)
    refine ⟨_, rfl, _, rfl, small_len hz, _, _, rfl, rfl, _, rfl, ?_⟩
    refine ite2 (fun c2 => ?_) (fun c2 => ?_)
    · have c2' : ((t.length : Nat) : Int) > 4 := of_decide_eq_true c2
      exact k _ _ (Same.refl _) ⟨fun z => (by cases z), fun z => absurd (numlen z).2 (by omega)⟩
    have c2' : ¬ ((t.length : Nat) : Int) > 4 := fun z => c2 (decide_eq_true z)
    refine ⟨_, rfl, _, rfl, fun D hD => ?_⟩
    have hsz : t.cps.size = (tl t).length := hl
    refine lc_it walk_str (fun i H' => Same H H' ∧ H' D = some (.lst ((((tl t).take i).filter (fun c => !decide (c ∈ ("123456789" : Str).cps.toList))).map fun c => V.str ⟨#[c]⟩))) ⟨same_new hD, upd_same⟩ (fun _ _ _ _ => trivial) (fun i x H1 H' hi hP hY => ?_) (fun H1 hP => ?_)
    · obtain ⟨sm, hL⟩ := hP
      obtain ⟨rfl, c, hc, rfl⟩ := hY
      have e1 := take1 (cps_at hc)
      have lq : (((tl t).take i).filter (fun c => !decide (c ∈ ("123456789" : Str).cps.toList))).length ≤ 100 := Nat.le_trans (List.length_filter_le _ _) (by rw [List.length_take]; omega)
      refine ⟨rfl, ?_⟩
      refine ⟨_, rfl, _, _, rfl, rfl, _, rfl, ite2 (fun c => ?_) (fun c => ?_)⟩
      · refine ⟨_, rfl, _, hL, by rw [List.length_map]; exact small1000 (by omega), same_mut sm hD, ?_⟩
        rw [upd_same, e1, List.filter_append, List.map_append, List.filter_cons_of_pos (by simpa using c)]
        rfl
      · refine ⟨sm, ?_⟩
        rw [hL, e1, List.filter_append, List.filter_cons_of_neg (by simpa using c), List.filter_nil, List.append_nil]
    · obtain ⟨sm, hL⟩ := hP
      rw [hsz, List.take_length] at hL
      refine ⟨by show 0 ≤ sizeLine; decide, fun u hu => ?_⟩
      have su := same_new (o := .lst []) hu
      have hLu := su _ _ hL
      have e0 : ((tl t).filter (fun c => !decide (c ∈ ("123456789" : Str).cps.toList))).map (fun c => V.str ⟨#[c]⟩) = (((tl t).filter (fun c => !decide (c ∈ ("123456789" : Str).cps.toList))).map (fun c => (⟨#[c]⟩ : Str))).map V.str := by rw [List.map_map]; rfl
      rw [e0] at hLu
      have fn := strs_fine (ts := ((tl t).filter (fun c => !decide (c ∈ ("123456789" : Str).cps.toList))).map (fun c => (⟨#[c]⟩ : Str))) fun s m => by
        obtain ⟨c, mc, rfl⟩ := List.mem_map.mp m
        have mc2 := (List.mem_filter.mp mc).1
        exact ⟨by show 1 ≤ 100; decide, fun d md => by
          have md : d ∈ [c] := md
          rw [List.mem_singleton.mp md]
          exact tx.asc c mc2⟩
      have fn0 := strs_fine (ts := []) (fun s m => by cases m)
      refine ⟨_, _, .lst (SqL.of hLu) (dp_strs' _), .lst (SqL.of upd_same) .nil, fn.shaped (by decide), fn0.shaped (by decide), _, rfl, ?_⟩
      have s2 := sm.trans su
      generalize upd H1 u (.lst []) = H2 at *
      by_cases c3 : ∀ c ∈ tl t, c ∈ ("123456789" : Str).cps.toList
      case neg =>
        have ne : (tl t).filter (fun c => !decide (c ∈ ("123456789" : Str).cps.toList)) ≠ [] := fun e => c3 (by
          have q := (odd_signs (t := "123456789") (tl t) (tl t).length).mp (by rw [List.take_length]; exact e)
          rw [List.take_length] at q
          exact q)
        cases e : (tl t).filter (fun c => !decide (c ∈ ("123456789" : Str).cps.toList)) with
        | nil => exact absurd e ne
        | cons c r =>
          refine iteT ?_
          refine k _ _ s2 ⟨fun z => (by cases z), fun ⟨ds, N, e⟩ => absurd (by rw [e]; exact num_codes N.dig) c3⟩
      have e : (tl t).filter (fun c => !decide (c ∈ ("123456789" : Str).cps.toList)) = [] := by
        have q := (odd_signs (t := "123456789") (tl t) (tl t).length).mpr (by rw [List.take_length]; exact c3)
        rw [List.take_length] at q
        exact q
      rw [e]
      refine iteF ?_
      obtain ⟨ds, dig, et⟩ := dig_text t c3
      subst et
      rw [numS_len] at c1' c2'
      refine ⟨_, rfl, _, rfl, fun D2 hD2 => ?_⟩
      refine lc_it walk_str (fun i H' => Same H H' ∧ H' D2 = some (.lst ((ds.take i).map fun (d : Nat) => V.int (d : Int)))) ⟨s2.trans (same_new hD2), upd_same⟩ (fun _ _ _ _ => trivial) (fun i x H2 H' hi hP hY => ?_) (fun H2 hP => ?_)
      · obtain ⟨sm2, hl2⟩ := hP
        obtain ⟨rfl, c, hc, rfl⟩ := hY
        rw [numS_size] at hi
        rw [numS_at ds i hi] at hc
        have hc' := (Option.some.inj hc).symm
        subst hc'
        refine ⟨rfl, yesT ?_⟩
        refine ⟨_, rfl, _, _, rfl, dig_int (dig _ (List.getElem_mem hi)), (by show 1 ≤ 640; decide), _, hl2, by rw [List.length_map, List.length_take]; exact small1000 (by omega), ?_⟩
        refine ⟨same_mut sm2 (s2.free hD2), ?_⟩
        rw [upd_same, take_succ_map _ (List.getElem?_eq_getElem hi)]
      · obtain ⟨sm2, hl2⟩ := hP
        rw [numS_size, List.take_length] at hl2
        refine ⟨D2, ds.map fun (d : Nat) => (d : Int), rfl, SqL.of (by rw [hl2, List.map_map]; rfl), _, _, rfl, rfl, ?_⟩
        rw [sum_cast]
        refine k _ _ sm2 ?_
        rw [isnum_dig]
        constructor
        · intro z
          have z' : ((ds.sum : Nat) : Int) ≤ 24 := of_decide_eq_true z
          exact ⟨by omega, by omega, dig, by omega⟩
        · intro N
          exact decide_eq_true (show ((ds.sum : Nat) : Int) ≤ 24 by have := N.sum; omega)
end
end K08

namespace K08
open PySem L2 Wm TL Dv
section
variable {P : Program} {w : World} {K : PySem.W.Frag} {mg : Str → Option Value} {base : Heap}
def sub1 (t : Str) (c b : Box) : Box := if numS b.1 = t then c else b
theorem ok_with (T : Txt K mg) : FnOk P w K mg base CX0 1 T.a_with T.d_with ["_law_loops_here", "_law_number_here", "_law_box"] (sp_with K) := by
  refine T.F_with.ok sc_with (fun vs H Q E h => ?_) (fun cdv A outer s H vs Q E hr h => ?_)
  · obtain ⟨q, ls, t, p2, c, rfl, _⟩ := h
    rfl
  · obtain ⟨q, ls, t, p2, c, rfl, hL, G, hp2, k⟩ := h
    obtain ⟨xs, hq, el, ha⟩ := id hL
    have g2 := G.l2
    refine ⟨_, (pss_cons (ps_set (i := 3) sc_with.nd rfl (Or.inl rfl) (pe_lst pa_nil))
      (pss_cons (ps_for PassesOwn.never rfl (pi_list (pv 0)) (pg_name (i := 4) sc_with.nd rfl (Or.inl rfl))
        (pss_one (ps_expr (pe_bm PySem.F.plainAttrs_list PySem.F.slot_list_append PySem.F.type_list_append mt_append (pv 3) (pa_cons (pe_lc (own := [("_law_one", 5)]) (g := gName 5) (tt := tYes) rfl sc_with.nd (pi_list (pv 4)) (blkOk_by (own := [("_law_one", 5)]) (N := nm_with) (sc := (defScope s_with)) (by decide +kernel)) (fun _ _ _ _ _ => pg_name (i := 5) sc_with.nd rfl (Or.inl rfl)) (fun _ _ _ _ _ => pts_nil) (fun _ _ _ _ _ => (pe_ifExp (pt_cmpR op_eq (pe_ix (show IxR _ (rIxT K) from ix_tup) (pv 5) pe_int (fun _ _ => rfl)) (pv 1) (nomark _)) (pv 2) (pv 5)))) pa_nil)))))
      (pss_one (ps_ret (pv 3))))), ?_⟩
    refine ⟨Nat.zero_le _, fun f hf => ?_⟩
    have s0 : Same H (upd H f (.lst [])) := same_new hf
    refine ⟨_, rfl, q, rfl, ⟨_, SqL.of (s0 _ _ hq)⟩, ?_⟩
    refine for_list (xs := xs) (fun i σ H' => ∃ v4 v5 acc, σ = [some (.ref q), some (.str t), some (.ref p2), some (.ref f), v4, v5] ∧ H' f = some (.lst acc) ∧ acc.length = i ∧ Same H H' ∧
       ∀ (j : Nat) v, acc[j]? = some v → ∃ l, ls[j]? = some l ∧ ∃ q2 ys, v = .ref q2 ∧ q2 ≠ f ∧ H q2 = none ∧ H' q2 = some (.lst ys) ∧ Dts K H' ys ((l.map (sub1 t c)).map boxD))
      ⟨none, none, [], rfl, upd_same, rfl, s0, fun j v e => by simp at e⟩ (fun i σ H' _ h => let ⟨_, _, _, _, _, _, s, _⟩ := h; SqL.of (s _ _ hq)) (fun i x σ H6 hx hP => ?_) (fun σ H6 hP => ?_)
    · obtain ⟨v4, v5, acc, rfl, hF, la, s1, hA⟩ := hP
      obtain ⟨l, hl, q2, ys, rfl, h2, hd⟩ := ha i x hx
      have b2 := G.b2 l (List.mem_of_getElem? hl)
      have lz := boxes_len hd
      have hi := (List.getElem?_eq_some_iff.mp hl).1
      have h26 := s1 _ _ h2
      have hd6 := hd.k (Kt.same (K := K) s1)
      have hp6 := sameT s1 hp2
      refine ⟨_, rfl, .inl ⟨rfl, _, SqL.of hF⟩, _, rfl, q2, rfl, ⟨_, SqL.of h26⟩, fun D hD => ?_⟩
      refine Lm.lc_map (K := K) walk_list (fun k y H' => ∃ d, ((l.map (sub1 t c)).map boxD)[k]? = some d ∧ Dt K H' y d) (fun _ _ _ _ ⟨d, e, t⟩ kt => ⟨d, e, t.k kt⟩) hD (by omega) (fun H' s => SqL.of (s _ _ h26)) (fun k x H' hk hx sm Q2 Z q9 => ?_) (fun H7 zs s7 hy ly hR => ?_)
      · obtain ⟨b, hb, tb⟩ := boxes_at hd6 hx
        obtain ⟨qb, rfl, hqb⟩ := box_inv tb
        refine ⟨rfl, yesT ?_⟩
        refine ⟨_, rfl, qb, _, 0, _, rfl, rfl, sameT sm hqb, atI_nat (j := 0) rfl, _, rfl, rfl, _, rfl, ite2 (fun c1 => ?_) (fun c1 => ?_)⟩
        · have e1 : numS b.1 = t := V.str.inj (of_decide_eq_true c1)
          refine ⟨_, rfl, q9 _ _ (Same.refl _) ⟨boxD c, ?_, .tup (sameT sm hp6) (.cons (.str _) (.cons (.str _) .nil))⟩⟩
          rw [List.getElem?_map, List.getElem?_map, hb]
          show some (boxD (sub1 t c b)) = _
          unfold sub1
          rw [if_pos e1]
        · have e1 : ¬ numS b.1 = t := fun z => c1 (decide_eq_true (by rw [z]))
          refine ⟨_, rfl, q9 _ _ (Same.refl _) ⟨boxD b, ?_, tb.k (Kt.same sm)⟩⟩
          rw [List.getElem?_map, List.getElem?_map, hb]
          show some (boxD (sub1 t c b)) = _
          unfold sub1
          rw [if_neg e1]
      · have hds := dts_of (by rw [ly, List.length_map, List.length_map]; exact lz) hR
        have fD : D ≠ f := (ne_of_none hF hD).symm
        have hF7 := s7 _ _ hF
        refine ⟨f, _, _, rfl, rfl, hF7, small1000 (by omega), ?_⟩
        refine ⟨_, _, acc ++ [.ref D], rfl, upd_same, by rw [List.length_append, la]; rfl, same_mut (s1.trans s7) hf, fun j v hv => ?_⟩
        by_cases q : j < acc.length
        · rw [List.getElem?_append_left q] at hv
          obtain ⟨m, hm, qm, ym, rfl, n1, n2, n3, n4⟩ := hA j v hv
          exact ⟨m, hm, qm, ym, rfl, n1, n2, by rw [upd_ne n1]; exact s7 _ _ n3, (n4.k (Kt.same s7)).k (Kt.lst hF7)⟩
        · rw [List.getElem?_append_right (by omega)] at hv
          have ej : j - acc.length = 0 := by
            by_cases z : j - acc.length = 0
            · exact z
            · rw [List.getElem?_eq_none (by rw [List.length_singleton]; omega)] at hv
              cases hv
          rw [ej] at hv
          have ev : V.ref D = v := by simpa using hv
          subst ev
          have ei : j = i := by omega
          subst ei
          exact ⟨l, hl, D, zs, rfl, fD, s1.free hD, by rw [upd_ne fD]; exact hy, hds.k (Kt.lst hF7)⟩
    · obtain ⟨v4, v5, acc, rfl, hF, la, s1, hA⟩ := hP
      refine ⟨_, rfl, k _ f s1 ⟨acc, hf, hF, by unfold subst; rw [List.length_map]; omega, fun j v hv => ?_⟩⟩
      obtain ⟨l, hl, q2, ys, rfl, n1, n2, n3, n4⟩ := hA j v hv
      exact ⟨l.map (sub1 t c), by unfold subst; rw [List.getElem?_map, hl]; rfl, q2, ys, rfl, n2, n3, n4⟩
end
end K08

namespace K08
open PySem L2 Wm TL Dv
section
variable {P : Program} {w : World} {K : PySem.W.Frag} {mg : Str → Option Value} {base : Heap}
theorem giv_ex {x : V} {r : Int} (fx : Fl x) (R : r.natAbs < 1000000) : ∃ x', Giv x r x' ∧ Fl x' := by
  cases fx with
  | non => exact ⟨.int r, .inl ⟨rfl, rfl⟩, .int R⟩
  | int h => exact ⟨_, .inr ⟨(fun z => by cases z), rfl⟩, .int h⟩
  | bl b => exact ⟨_, .inr ⟨(fun z => by cases z), rfl⟩, .bl b⟩
  | str h => exact ⟨_, .inr ⟨(fun z => by cases z), rfl⟩, .str h⟩
theorem in12 {j : Int} : inV (.int j) [V.int 1, V.int 2] = true ↔ j = 1 ∨ j = 2 := by
  have e : inV (.int j) [V.int 1, V.int 2] = (((1 : Int) == j) || (((2 : Int) == j) || false)) := rfl
  rw [e, Bool.or_false, Bool.or_eq_true, beq_iff_eq, beq_iff_eq]
  omega
theorem within_iff {lo hi i : Int} : within lo hi (some i) = true ↔ lo ≤ i ∧ i ≤ hi := by
  show (decide (lo ≤ i) && decide (i ≤ hi)) = true ↔ _
  simp
theorem within_not {lo hi i : Int} (h : ¬ (lo ≤ i ∧ i ≤ hi)) : within lo hi (some i) = false := Bool.eq_false_iff.mpr fun z => h (within_iff.mp z)
theorem ok_rules_due (T : Txt K mg) : FnOk P w K mg base CX0 2 T.a_rules_due T.d_rules_due ["_law_change_here", "_law_rules_here"] (sp_rules_due K) := by
  refine T.F_rules_due.ok sc_rules_due (fun vs H Q E h => ?_) (fun cdv A outer s H vs Q E hr h => ?_)
  · obtain ⟨p, t, c, x, y, r, h, rfl, _⟩ := h
    rfl
  · obtain ⟨p, t, c, x, y, r, h, rfl, hp, fx, fy, ht, R, k⟩ := h
    obtain ⟨x', gx, fx'⟩ := giv_ex fx (r := r) (by have := R.r1; have := R.r8; omega)
    obtain ⟨y', gy, fy'⟩ := giv_ex fy (r := h) (by have := R.h1; have := R.h2; omega)
    refine ⟨_, (pss_cons (ps_set (i := 2) sc_rules_due.nd rfl (Or.inl rfl) (pe_ix ix_list (pv 1) pe_int (fun _ _ => rfl)))
      (pss_cons (ps_set (i := 3) sc_rules_due.nd rfl (Or.inl rfl) (pe_ix ix_list (pv 1) pe_int (fun _ _ => rfl)))
      (C8.pss_cut (ps_if (pt_cmpR op_notN (pe_ix ix_list (pv 0) pe_int (fun _ _ => rfl)) pe_non (nomark _))
        (pss_one (ps_set (i := 2) sc_rules_due.nd rfl (Or.inl rfl) (pe_ix ix_list (pv 0) pe_int (fun _ _ => rfl))))
        pss_nil)
      (C8.pss_cut (ps_if (pt_cmpR op_notN (pe_ix ix_list (pv 0) pe_int (fun _ _ => rfl)) pe_non (nomark _))
        (pss_one (ps_set (i := 3) sc_rules_due.nd rfl (Or.inl rfl) (pe_ix ix_list (pv 0) pe_int (fun _ _ => rfl))))
        pss_nil)
      (pss_cons (ps_if (PW.pt (pw_or (pt_not (pt_val (pe_call (ok_whole T) (hr.mono (by decide)) (by rfl) T.g_whole T.F_whole.kp T.b_whole .nil pass0 (pa_cons (pv 2) pa_nil)))) (pw_or (pt_cmpR op_lt (pv 2) pe_int (nomark _)) (pw_or1 (pt_cmpR op_gt (pv 2) pe_int (nomark _))))))
        (pss_one (ps_ret (pe_tup (pa_cons pe_str (pa_cons pe_str pa_nil)))))
        pss_nil)
      (pss_cons (ps_if (PW.pt (pw_or (pt_not (pt_val (pe_call (ok_whole T) (hr.mono (by decide)) (by rfl) T.g_whole T.F_whole.kp T.b_whole .nil pass0 (pa_cons (pv 3) pa_nil)))) (pw_or (pt_cmpR op_notIn_seq (pv 3) (pe_tup (pa_cons pe_int (pa_cons pe_int pa_nil))) rfl) (pw_or1 (pt_cmpR op_gt (pv 3) (pv 2) (nomark _))))))
        (pss_one (ps_ret (pe_tup (pa_cons pe_str (pa_cons pe_str pa_nil)))))
        pss_nil)
      (pss_one (ps_ret (pe_tup (pa_cons pe_str (pa_cons (pe_lst (pa_cons (pv 2) (pa_cons (pv 3) pa_nil))) pa_nil))))))))))), ?_⟩
    refine ⟨_, rfl, t, _, 0, _, rfl, rfl, SqL.of ht, atI_nat (j := 0) rfl, ?_⟩
    refine ⟨_, rfl, t, _, 1, _, rfl, rfl, SqL.of ht, atI_nat (j := 1) rfl, ?_⟩
    refine ⟨fun σ A => σ = [some (.ref p), some (.ref t), some x', some (.int h)] ∧ A = H, ?_, ?_⟩
    · refine ⟨_, rfl, p, _, 1, _, rfl, rfl, SqL.of hp, atI_nat (j := 1) rfl, ?_⟩
      rcases gx with ⟨rfl, rfl⟩ | ⟨nx, rfl⟩
      · exact ⟨rfl, _, rfl, iteF ⟨rfl, rfl⟩⟩
      · cases fx with
        | non => exact absurd rfl nx
        | int _ => exact ⟨rfl, _, rfl, iteT ⟨_, rfl, p, _, 1, _, rfl, rfl, SqL.of hp, atI_nat (j := 1) rfl, rfl, rfl⟩⟩
        | bl _ => exact ⟨rfl, _, rfl, iteT ⟨_, rfl, p, _, 1, _, rfl, rfl, SqL.of hp, atI_nat (j := 1) rfl, rfl, rfl⟩⟩
        | str _ => exact ⟨rfl, _, rfl, iteT ⟨_, rfl, p, _, 1, _, rfl, rfl, SqL.of hp, atI_nat (j := 1) rfl, rfl, rfl⟩⟩
    rintro σ A ⟨rfl, rfl⟩
    refine ⟨fun σ B => σ = [some (.ref p), some (.ref t), some x', some y'] ∧ B = A, ?_, ?_⟩
    · refine ⟨_, rfl, p, _, 2, _, rfl, rfl, SqL.of hp, atI_nat (j := 2) rfl, ?_⟩
      rcases gy with ⟨rfl, rfl⟩ | ⟨ny, rfl⟩
      · exact ⟨rfl, _, rfl, iteF ⟨rfl, rfl⟩⟩
      · cases fy with
        | non => exact absurd rfl ny
        | int _ => exact ⟨rfl, _, rfl, iteT ⟨_, rfl, p, _, 2, _, rfl, rfl, SqL.of hp, atI_nat (j := 2) rfl, rfl, rfl⟩⟩
        | bl _ => exact ⟨rfl, _, rfl, iteT ⟨_, rfl, p, _, 2, _, rfl, rfl, SqL.of hp, atI_nat (j := 2) rfl, rfl, rfl⟩⟩
        | str _ => exact ⟨rfl, _, rfl, iteT ⟨_, rfl, p, _, 2, _, rfl, rfl, SqL.of hp, atI_nat (j := 2) rfl, rfl, rfl⟩⟩
    rintro σ B ⟨rfl, rfl⟩
    refine ⟨_, rfl, x', rfl, fx', _, rfl, ?_⟩
    have bad : ∀ (A : Hp), Same B A → ∀ w : Str, RO x' y' (.bad w) → ∀ u, A u = none → Q (.ref u) (upd A u (.tup [.str "bad", .str w])) := fun A sA w ro u hu => k _ u x' y' (.bad w) (sA.trans (same_new hu)) gx gy fx' fy' ro upd_same (sA.free hu)
    cases hx : fx' with
    | bl b => exact iteT (iteT ⟨by show 2 ≤ sizeLine; decide, fun u hu => bad _ (Same.refl _) _ (.rounds rfl) u hu⟩)
    | non => exact iteT (iteT ⟨by show 2 ≤ sizeLine; decide, fun u hu => bad _ (Same.refl _) _ (.rounds rfl) u hu⟩)
    | str _ => exact iteT (iteT ⟨by show 2 ≤ sizeLine; decide, fun u hu => bad _ (Same.refl _) _ (.rounds rfl) u hu⟩)
    | @int i _ =>
    refine iteF ⟨_, rfl, _, _, rfl, rfl, _, rfl, ite2 (fun c1 => ?_) (fun c1 => ?_)⟩
    · have c1' : i < 1 := of_decide_eq_true c1
      exact iteT ⟨by show 2 ≤ sizeLine; decide, fun u hu => bad _ (Same.refl _) _ (.rounds (within_not (by omega))) u hu⟩
    have c1' : ¬ i < 1 := fun z => c1 (decide_eq_true z)
    refine ⟨_, rfl, _, _, rfl, rfl, _, rfl, ite2 (fun c2 => ?_) (fun c2 => ?_)⟩
    · have c2' : i > 8 := of_decide_eq_true c2
      exact ⟨by show 2 ≤ sizeLine; decide, fun u hu => bad _ (Same.refl _) _ (.rounds (within_not (by omega))) u hu⟩
    have c2' : ¬ i > 8 := fun z => c2 (decide_eq_true z)
    have wi : within 1 8 (wh (.int i)) = true := within_iff.mpr ⟨by omega, by omega⟩
    refine ⟨_, rfl, y', rfl, fy', _, rfl, ?_⟩
    cases hy : fy' with
    | bl b => exact iteT (iteT ⟨by show 2 ≤ sizeLine; decide, fun u hu => bad _ (Same.refl _) _ (.hear rfl wi (.inl rfl)) u hu⟩)
    | non => exact iteT (iteT ⟨by show 2 ≤ sizeLine; decide, fun u hu => bad _ (Same.refl _) _ (.hear rfl wi (.inl rfl)) u hu⟩)
    | str _ => exact iteT (iteT ⟨by show 2 ≤ sizeLine; decide, fun u hu => bad _ (Same.refl _) _ (.hear rfl wi (.inl rfl)) u hu⟩)
    | @int j _ =>
    refine iteF ⟨_, rfl, by show 2 ≤ sizeLine; decide, fun t2 ht2 => ?_⟩
    have s2 := same_new (o := .tup [.int 1, .int 2]) ht2
    refine ⟨t2, _, rfl, .inr (SqT.of upd_same), rfl, rfl, _, rfl, ite2 (fun c3 => ?_) (fun c3 => ?_)⟩
    · have c3' : ¬ (j = 1 ∨ j = 2) := fun z => by
        rw [in12.mpr z] at c3
        simp at c3
      exact iteT ⟨by show 2 ≤ sizeLine; decide, fun u hu => bad _ s2 _ (.hear rfl wi (.inl (within_not (by omega)))) u hu⟩
    have c3' : j = 1 ∨ j = 2 := in12.mp (by simpa using c3)
    refine ⟨_, rfl, _, rfl, _, _, rfl, rfl, _, rfl, ite2 (fun c4 => ?_) (fun c4 => ?_)⟩
    · have c4' : j > i := of_decide_eq_true c4
      exact ⟨by show 2 ≤ sizeLine; decide, fun u hu => bad _ s2 _ (.hear rfl wi (.inr ⟨j, rfl, by omega⟩)) u hu⟩
    have c4' : ¬ j > i := fun z => c4 (decide_eq_true z)
    refine ⟨_, rfl, _, rfl, by show 2 ≤ sizeLine; decide, fun t3 ht3 => ⟨by show 2 ≤ sizeLine; decide, fun u hu => ?_⟩⟩
    have s3 := s2.trans (same_new (o := .lst [.int i, .int j]) ht3)
    exact k _ u _ _ (.rules i j) (s3.trans (same_new hu)) gx gy fx' fy' (.ok rfl rfl ⟨by omega, by omega, by omega, by omega, by omega⟩) ⟨t3, upd_same, s2.free ht3, at_old upd_same hu⟩ (s3.free hu)
end
end K08

namespace K08
open PySem L2 Wm TL Dv
section
variable {P : Program} {w : World} {K : PySem.W.Frag} {mg : Str → Option Value} {base : Heap}
theorem list_set {α : Type} : ∀ {l : List α} {j : Nat} {b : α}, l[j]? = some b → ∃ A B, l = A ++ b :: B ∧ ∀ c, l.set j c = A ++ c :: B
  | [], _, _, h => by simp at h
  | x :: l, 0, b, h => by
    have e : x = b := by simpa using h
    subst e
    exact ⟨[], l, rfl, fun c => rfl⟩
  | x :: l, j + 1, b, h => by
    obtain ⟨A, B, e, f⟩ := list_set (l := l) (j := j) (by simpa using h)
    exact ⟨x :: A, B, by rw [e]; rfl, fun c => by rw [List.set_cons_succ, f c]; rfl⟩
theorem flat_set {α : Type} : ∀ {ls : List (List α)} {i j : Nat} {l : List α} {b : α}, ls[i]? = some l → l[j]? = some b → ∃ A B, ls.flatten = A ++ b :: B ∧ ∀ c, (ls.set i (l.set j c)).flatten = A ++ c :: B
  | [], _, _, _, _, h, _ => by simp at h
  | m :: ls, 0, j, l, b, h, hb => by
    have e : m = l := by simpa using h
    subst e
    obtain ⟨A, B, e, f⟩ := list_set hb
    exact ⟨A, B ++ ls.flatten, by rw [List.flatten_cons, e, List.append_assoc]; rfl, fun c => by rw [List.set_cons_zero, List.flatten_cons, f c, List.append_assoc]; rfl⟩
  | m :: ls, i + 1, j, l, b, h, hb => by
    obtain ⟨A, B, e, f⟩ := flat_set (ls := ls) (i := i) (by simpa using h) hb
    exact ⟨m ++ A, B, by rw [List.flatten_cons, e, List.append_assoc], fun c => by rw [List.set_cons_succ, List.flatten_cons, f c, List.append_assoc]⟩
theorem nodup_mid {α : Type} {A B : List α} {y : α} : (A ++ y :: B).Nodup ↔ (A ++ B).Nodup ∧ y ∉ A ∧ y ∉ B := by
  rw [List.nodup_append, List.nodup_append, List.nodup_cons]
  constructor
  · rintro ⟨h1, ⟨h2, h3⟩, h4⟩
    exact ⟨⟨h1, h3, fun a ha b hb => h4 a ha b (List.mem_cons_of_mem _ hb)⟩, fun m => h4 y m y List.mem_cons_self rfl, h2⟩
  · rintro ⟨⟨h1, h3, h4⟩, n1, n2⟩
    refine ⟨h1, ⟨n2, h3⟩, fun a ha b hb => ?_⟩
    rcases List.mem_cons.mp hb with rfl | hb
    · exact fun e => n1 (e ▸ ha)
    · exact h4 a ha b hb
theorem mem_mid {α : Type} {A B : List α} {x y : α} : x ∈ A ++ y :: B ↔ x = y ∨ x ∈ A ++ B := by
  simp only [List.mem_append, List.mem_cons]
  constructor
  · rintro (h | h | h)
    · exact .inr (.inl h)
    · exact .inl h
    · exact .inr (.inr h)
  · rintro (h | h | h)
    · exact .inr (.inl h)
    · exact .inl h
    · exact .inr (.inr h)
theorem flat_at {α : Type} {ls : List (List α)} {b : α} (h : b ∈ ls.flatten) : ∃ (i j : Nat) (l : List α), ls[i]? = some l ∧ l[j]? = some b := by
  obtain ⟨l, ml, mb⟩ := List.mem_flatten.mp h
  obtain ⟨i, hi⟩ := List.getElem?_of_mem ml
  obtain ⟨j, hj⟩ := List.getElem?_of_mem mb
  exact ⟨i, j, l, hi, hj⟩
theorem len_set {ls : List (List Box)} {i j : Nat} {l : List Box} {c : Box} (hl : ls[i]? = some l) : ∀ m ∈ ls.set i (l.set j c), ∃ k ∈ ls, m.length = k.length := fun m h => by
  rcases List.mem_or_eq_of_mem_set h with h | h
  · exact ⟨m, h, rfl⟩
  · exact ⟨l, List.mem_of_getElem? hl, by rw [h, List.length_set]⟩
theorem good_set {ls : List (List Box)} (G : Good ls) {i j : Nat} {l : List Box} {b c : Box} (hl : ls[i]? = some l) (hb : l[j]? = some b) (N : Num c.1) (h : numS c.1 = numS b.1 ∨ numS c.1 ∉ ls.flatten.map fun b => numS b.1) : Good (ls.set i (l.set j c)) := by
  obtain ⟨A, B, e, f⟩ := flat_set hl hb
  have nd := G.nd
  have num := G.num
  rw [e] at nd h num
  rw [List.map_append, List.map_cons] at nd h
  rw [nodup_mid] at nd
  refine ⟨by rw [List.length_set]; exact G.l1, by rw [List.length_set]; exact G.l2, fun m hm => ?_, fun m hm => ?_, ?_, ?_⟩
  · obtain ⟨k, mk, ek⟩ := len_set hl m hm
    rw [ek]; exact G.b1 k mk
  · obtain ⟨k, mk, ek⟩ := len_set hl m hm
    rw [ek]; exact G.b2 k mk
  · rw [f c]
    intro x m
    rcases mem_mid.mp m with rfl | m
    · exact N
    · exact num x (mem_mid.mpr (.inr m))
  · rw [f c, List.map_append, List.map_cons, nodup_mid]
    rcases h with h | h
    · rw [h]; exact nd
    · rw [mem_mid] at h
      exact ⟨nd.1, fun m => h (.inr (List.mem_append.mpr (.inl m))), fun m => h (.inr (List.mem_append.mpr (.inr m)))⟩
theorem setO_flat {ls : List (List Box)} {i j : Nat} {l : List Box} {b : Box} (hl : ls[i]? = some l) (hb : l[j]? = some b) : ∃ A B : List Box, ls.flatten = A ++ b :: B ∧ ∀ o : OB, (setO ls i j l o).flatten = A.map toOB ++ o :: B.map toOB := by
  obtain ⟨A, B, e, f⟩ := flat_set hl hb
  obtain ⟨A2, B2, e2, f2⟩ := flat_set (ls := ls.map fun m => m.map toOB) (i := i) (j := j) (l := l.map toOB) (b := toOB b) (by rw [List.getElem?_map, hl]; rfl) (by rw [List.getElem?_map, hb]; rfl)
  refine ⟨A, B, e, fun o => ?_⟩
  have m : ∀ c : Box, setO ls i j l (toOB c) = (ls.set i (l.set j c)).map fun m => m.map toOB := fun c => by
    unfold setO
    rw [List.map_set, List.map_set]
  have len : A2.length = A.length := by
    obtain ⟨c, hc⟩ : ∃ c : Box, numS c.1 ≠ numS b.1 := ⟨(b.1 ++ [1], true), fun z => by
      have := congrArg Str.length z
      rw [numS_len, numS_len, List.length_append] at this
      simp at this⟩
    have h1 : (setO ls i j l (toOB c)).flatten = A2 ++ toOB c :: B2 := f2 _
    have h2 : (setO ls i j l (toOB c)).flatten = A.map toOB ++ toOB c :: B.map toOB := by rw [m c, ← List.map_flatten, f c, List.map_append]; rfl
    have h3 : (ls.map fun m => m.map toOB).flatten = A.map toOB ++ toOB b :: B.map toOB := by rw [← List.map_flatten, e, List.map_append]; rfl
    rw [h1] at h2
    rw [e2] at h3
    have ne : toOB c ≠ toOB b := fun z => hc (V.str.inj (congrArg Prod.fst z))
    have t2 := congrArg (fun x : List OB => x[A2.length]?) h2
    have t3 := congrArg (fun x : List OB => x[A2.length]?) h3
    rcases Nat.lt_trichotomy A2.length A.length with q | q | q
    · simp [List.getElem?_append, q] at t2 t3
      rw [← t2] at t3
      exact absurd t3.symm ne
    · exact q
    · have u2 := congrArg (fun x : List OB => x[A.length]?) h2
      have u3 := congrArg (fun x : List OB => x[A.length]?) h3
      simp [List.getElem?_append, q] at u2 u3
      rw [u2] at u3
      exact absurd u3 ne
  have h3 : (ls.map fun m => m.map toOB).flatten = A.map toOB ++ toOB b :: B.map toOB := by rw [← List.map_flatten, e, List.map_append]; rfl
  rw [e2] at h3
  obtain ⟨ea, eb⟩ := List.append_inj h3 (by rw [List.length_map]; exact len)
  have eb := (List.cons.inj eb).2
  have q : (setO ls i j l o).flatten = A2 ++ o :: B2 := f2 o
  rw [q, ea, eb]
end
end K08

namespace K08
open PySem L2 Wm TL Dv
section
variable {P : Program} {w : World} {K : PySem.W.Frag} {mg : Str → Option Value} {base : Heap}
theorem numV_strs (bs : List Box) : bs.map numV = (bs.map fun b => numS b.1).map V.str := by rw [List.map_map]; rfl
theorem LsN.mv {A B H H' : Hp} {p : Addr} {ls : List (List Box)} (h : LsN K A B p ls) (s : Same H A) (s' : Same B H') : LsN K H H' p ls := by
  obtain ⟨xs, h0, h1, el, ha⟩ := h
  refine ⟨xs, s.free h0, s' _ _ h1, el, fun i v hv => ?_⟩
  obtain ⟨l, hl, q2, ys, e, n1, n2, n3⟩ := ha i v hv
  exact ⟨l, hl, q2, ys, e, s.free n1, s' _ _ n2, n3.k (Kt.same s')⟩
theorem subst_eq {ls : List (List Box)} (nd : (ls.flatten.map fun b => numS b.1).Nodup) {i j : Nat} {l : List Box} {b c : Box} (hl : ls[i]? = some l) (hb : l[j]? = some b) : subst ls (numS b.1) c = ls.set i (l.set j c) := by
  have hi := (List.getElem?_eq_some_iff.mp hl).1
  have hj := (List.getElem?_eq_some_iff.mp hb).1
  refine List.ext_getElem? fun k => ?_
  unfold subst
  rw [List.getElem?_map, List.getElem?_set]
  by_cases ek : i = k
  · subst ek
    rw [if_pos rfl, if_pos hi, hl]
    refine congrArg some (List.ext_getElem? fun k => ?_)
    rw [List.getElem?_map, List.getElem?_set]
    by_cases ej : j = k
    · subst ej
      rw [if_pos rfl, if_pos hj, hb]
      exact congrArg some (if_pos rfl)
    · rw [if_neg ej]
      cases e : l[k]? with
      | none => rfl
      | some b2 => exact congrArg some (if_neg fun z => ej (pos_eq nd hl hb hl e z).2.1.symm)
  · rw [if_neg ek]
    cases e : ls[k]? with
    | none => rfl
    | some m =>
      refine congrArg some (List.ext_getElem? fun k2 => ?_)
      rw [List.getElem?_map]
      cases e2 : m[k2]? with
      | none => rfl
      | some b2 => exact congrArg some (if_neg fun z => ek (pos_eq nd hl hb e e2 z).1.symm)
def same1 (t : Str) (b : Box) : Bool := decide (numS b.1 = t)
theorem filt_eq {ls : List (List Box)} (nd : (ls.flatten.map fun b => numS b.1).Nodup) {i j k : Nat} {l m : List Box} {b : Box} (hl : ls[i]? = some l) (hb : l[j]? = some b) (hm : ls[k]? = some m) : m.filter (same1 (numS b.1)) = if k = i then [b] else [] := by
  by_cases ek : k = i
  · subst ek
    rw [hl] at hm
    cases hm
    rw [if_pos rfl]
    have hj := (List.getElem?_eq_some_iff.mp hb).1
    have hb2 := (List.getElem?_eq_some_iff.mp hb).2
    have e : l = l.take j ++ b :: l.drop (j + 1) := by
      conv => lhs; rw [← List.take_append_drop j l, List.drop_eq_getElem_cons hj, hb2]
    rw [e, List.filter_append, List.filter_cons_of_pos (by unfold same1; simp)]
    have e1 : (l.take j).filter (same1 (numS b.1)) = [] := List.filter_eq_nil_iff.mpr fun x mx z => by
      obtain ⟨n, hn⟩ := List.getElem?_of_mem mx
      rw [List.getElem?_take] at hn
      split at hn
      · have := (pos_eq nd hl hb hl hn (of_decide_eq_true z)).2.1
        omega
      · cases hn
    have e2 : (l.drop (j + 1)).filter (same1 (numS b.1)) = [] := List.filter_eq_nil_iff.mpr fun x mx z => by
      obtain ⟨n, hn⟩ := List.getElem?_of_mem mx
      rw [List.getElem?_drop] at hn
      have := (pos_eq nd hl hb hl hn (of_decide_eq_true z)).2.1
      omega
    rw [e1, e2]
    rfl
  · rw [if_neg ek]
    refine List.filter_eq_nil_iff.mpr fun x mx z => ?_
    obtain ⟨n, hn⟩ := List.getElem?_of_mem mx
    exact ek (pos_eq nd hl hb hm hn (of_decide_eq_true z)).1
theorem out_nonstr {s : Str} {x : V} (h : ∀ t, x ≠ .str t) : PyData.eqv (.str s) (dV x) = false := by
  cases x with
  | str t => exact absurd rfl (h t)
  | _ => simp [dV, PyData.eqv]
theorem chg_not {c : Str} (h : IsChg c) (n : c ≠ "rules") : c = "sort" ∨ c = "number" := by
  rcases h with h | h | h
  · exact .inl h
  · exact .inr h
  · exact absurd h n
theorem out_str {ls : List (List Box)} {t : Str} (h : t ∉ ls.flatten.map fun b => numS b.1) : ∀ b ∈ ls.flatten, PyData.eqv (.str (numS b.1)) (dV (.str t)) = false := fun b m => Bool.eq_false_iff.mpr fun z => h (List.mem_map.mpr ⟨b, m, str_eqv z⟩)
theorem row_fine {l : List Box} (h : Bs l) : Fine 6 (.list (l.map boxD)) := by
  have q := fine_tup (n := 5) (ds := l.map boxD) fun d m => by
    obtain ⟨b, mb, rfl⟩ := List.mem_map.mp m
    exact fine_boxD (h b mb)
  have q1 := q.1
  have q2 := q.2
  simp only [PyData.canLay0] at q1
  simp only [PyData.depth] at q2
  exact ⟨by simp only [PyData.canLay0]; exact q1, by simp only [PyData.depth]; exact q2⟩
theorem dts_filt {H : Hp} {t : Str} {l : List Box} {i : Nat} {b : Box} {ys : List V} {v : V} (h : Dts K H ys (((l.take i).filter (same1 t)).map boxD)) (hb : l[i]? = some b) (c : same1 t b = true) (tv : Dt K H v (boxD b)) : Dts K H (ys ++ [v]) (((l.take (i + 1)).filter (same1 t)).map boxD) := by
  rw [List.take_add_one, hb, List.filter_append, List.map_append]
  show Dts K H _ (_ ++ (([b].filter (same1 t)).map boxD))
  rw [List.filter_cons_of_pos c]
  exact h.app (.cons tv .nil)
theorem filt_off {t : Str} {l : List Box} {i : Nat} {b : Box} (hb : l[i]? = some b) (c : ¬ same1 t b = true) : (l.take (i + 1)).filter (same1 t) = (l.take i).filter (same1 t) := by
  rw [List.take_add_one, hb, List.filter_append]
  show _ ++ ([b].filter (same1 t)) = _
  rw [List.filter_cons_of_neg c]
  simp
theorem in_of {p : Prop} [Decidable p] (c : ¬ (if true = true then !decide p else decide p) = true) : p := by
  rw [if_pos rfl] at c
  by_cases q : p
  · exact q
  · exact absurd (by rw [decide_eq_false q]; rfl) c
theorem nin_of {p : Prop} [Decidable p] (c : (if true = true then !decide p else decide p) = true) : ¬ p := fun q => by
  rw [if_pos rfl, decide_eq_true q] at c
  cases c
theorem in_of2 {p : Prop} [Decidable p] (c : (if false = true then !decide p else decide p) = true) : p := by
  rw [if_neg (by decide)] at c
  exact of_decide_eq_true c
theorem nin_of2 {p : Prop} [Decidable p] (c : ¬ (if false = true then !decide p else decide p) = true) : ¬ p := fun q => by
  rw [if_neg (by decide), decide_eq_true q] at c
  exact c rfl
theorem ok_due (T : Txt K mg) : Rp.GOk P w K mg base CX0 3 T.a_due T.d_due ["_law_change_here", "_law_loops_here", "_law_rules_here"] (sp_due K) := by
  refine Rp.gok T.F_due sc_due (fun vs H Q E h => ?_) (fun cdv A outer s H vs Q E hg hr h => ?_)
  · obtain ⟨p, q, t, c, x, y, ls, r, h, rfl, _⟩ := h
    rfl
  · obtain ⟨p, q, t, c, x, y, ls, r, h, rfl, hp, hc, fx, fy, hL, G, ht, R, k⟩ := h
    obtain ⟨xs, hq, el, ha⟩ := id hL
    have g2 := G.l2
    refine ⟨_, (pss_cons (ps_if (pt_cmpR op_eq (pe_ix ix_list (pv 0) pe_int (fun _ _ => rfl)) pe_str (nomark _))
        (pss_one (ps_ret (pe_call (ok_rules_due T) (hr.mono (by decide)) (by rfl) T.g_rules_due T.F_rules_due.kp T.b_rules_due .nil pass0 (pa_cons (pv 0) (pa_cons (pv 2) pa_nil)))))
        pss_nil)
      (pss_cons (ps_set (i := 3) sc_due.nd rfl (Or.inl rfl) (pe_call (ok_names T) (hr.mono (by decide)) (by rfl) T.g_names T.F_names.kp T.b_names .nil pass0 (pa_cons (pv 1) pa_nil)))
      (pss_cons (ps_if (PW.pt (pw_or (pt_not (pt_val (pe_callB call_isi (by rfl) T.z_isinstance (by decide +kernel) (pa_cons (pe_ix ix_list (pv 0) pe_int (fun _ _ => rfl)) (pa_cons (pe_bltn (v := V.ty "str") (by rfl) T.z_str (by decide +kernel) rfl) pa_nil))))) (pw_or1 (pt_cmpR op_notIn_seq (pe_ix ix_list (pv 0) pe_int (fun _ _ => rfl)) (pv 3) rfl))))
        (pss_one (ps_ret (pe_tup (pa_cons pe_str (pa_cons (pe_callB (show CallR _ _ (Rp.rRepr K) from Rp.call_reprD hg hr.units) (by rfl) T.z_repr (by decide +kernel) (pa_cons (pe_ix ix_list (pv 0) pe_int (fun _ _ => rfl)) pa_nil)) pa_nil)))))
        pss_nil)
      (pss_cons (ps_if (pt_cmpR op_eq (pe_ix ix_list (pv 0) pe_int (fun _ _ => rfl)) pe_str (nomark _))
        (pss_cons (ps_if (PW.pt (pw_or (pt_not (pt_val (pe_callB call_isi (by rfl) T.z_isinstance (by decide +kernel) (pa_cons (pe_ix ix_list (pv 0) pe_int (fun _ _ => rfl)) (pa_cons (pe_bltn (v := V.ty "str") (by rfl) T.z_str (by decide +kernel) rfl) pa_nil))))) (pw_or1 (pt_cmpR op_notIn_seq (pe_ix ix_list (pv 0) pe_int (fun _ _ => rfl)) (pe_tup (pa_cons pe_str (pa_cons pe_str pa_nil))) rfl))))
          (pss_one (ps_ret (pe_tup (pa_cons pe_str (pa_cons pe_str pa_nil)))))
          pss_nil)
        (pss_one (ps_ret (pe_tup (pa_cons pe_str (pa_cons (pe_call (ok_with T) (hr.mono (by decide)) (by rfl) T.g_with T.F_with.kp T.b_with .nil pass0 (pa_cons (pv 1) (pa_cons (pe_ix ix_list (pv 0) pe_int (fun _ _ => rfl)) (pa_cons (pe_tup (pa_cons (pe_ix ix_list (pv 0) pe_int (fun _ _ => rfl)) (pa_cons (pe_ix ix_list (pv 0) pe_int (fun _ _ => rfl)) pa_nil))) pa_nil)))) pa_nil))))))
        pss_nil)
      (pss_cons (ps_if (pt_not (pt_val (pe_call (ok_wis_number T) (hr.mono (by decide)) (by rfl) T.g_wis_number T.F_wis_number.kp T.b_wis_number .nil pass0 (pa_cons (pe_ix ix_list (pv 0) pe_int (fun _ _ => rfl)) pa_nil))))
        (pss_one (ps_ret (pe_tup (pa_cons pe_str (pa_cons pe_str pa_nil)))))
        pss_nil)
      (C8.pss_cut (ps_if (PW.pt (pw_and (pt_cmpR op_ne (pe_ix ix_list (pv 0) pe_int (fun _ _ => rfl)) (pe_ix ix_list (pv 0) pe_int (fun _ _ => rfl)) (nomark _)) (pw_and1 (pt_cmpR op_in_seq (pe_ix ix_list (pv 0) pe_int (fun _ _ => rfl)) (pv 3) rfl))))
        (pss_one (ps_ret (pe_tup (pa_cons pe_str (pa_cons pe_str pa_nil)))))
        pss_nil)
      (pss_cons (ps_setLc (i := 4) (own := [("_law_loop", 5)]) (g := gName 5) (tt := tYes) rfl sc_due.nd rfl rfl (sw_true rfl rfl rfl (by decide +kernel)) (pi_list (pv 1)) (blkOk_by (own := [("_law_loop", 5)]) (N := nm_due) (sc := (defScope s_due)) (by decide +kernel)) (fun _ _ _ _ _ => pg_name (i := 5) sc_due.nd rfl (Or.inl rfl)) (fun _ _ _ _ _ => pts_nil) (fun _ _ _ _ _ => (pe_lc (own := [("_law_one", 6)]) (g := gName 6) rfl sc_due.nd (show PI _ _ _ (iList K (tVar 5)) from (pi_list (pv 5))) (blkOk_by (own := [("_law_one", 6)]) (N := nm_due) (sc := ({ kind := .function, names := [(".0", .local), ("_law_loop", .local), ("_law_change_here", .cell)], isGenerator := false, isCoroutine := false } : Scope)) (by decide +kernel)) (fun _ _ _ _ _ => pg_name (i := 6) sc_due.nd rfl (Or.inl rfl)) (fun _ _ _ _ _ => (pts_one (pt_cmpR op_eq (pe_ix (show IxR _ (rIxT K) from ix_tup) (pv 6) pe_int (fun _ _ => rfl)) (pe_ix (show IxR _ (rIxL K) from ix_list) (pv 0) pe_int (fun _ _ => rfl)) (nomark _)))) (fun _ _ _ _ _ => (pv 6)))))
      (pss_cons (ps_setLc (i := 7) (own := [("_law_row", 8)]) (g := gName 8) rfl sc_due.nd rfl rfl (sw_true rfl rfl rfl (by decide +kernel)) (pi_list (pv 4)) (blkOk_by (own := [("_law_row", 8)]) (N := nm_due) (sc := (defScope s_due)) (by decide +kernel)) (fun _ _ _ _ _ => pg_name (i := 8) sc_due.nd rfl (Or.inl rfl)) (fun _ _ _ _ _ => (pts_one (pt_cmpR (show OpR _ _ (rNeD K) from op_neD hr.units) (pv 8) (pe_lst pa_nil) (nomark _)))) (fun _ _ _ _ _ => (pe_ix (show IxR _ (rIxT K) from ix_tup) (pe_ix (show IxR _ (rIxL K) from ix_list) (pv 8) pe_int (fun _ _ => rfl)) pe_int (fun _ _ => rfl))))
      (pss_one (ps_ret (pe_tup (pa_cons pe_str (pa_cons (pe_call (ok_with T) (hr.mono (by decide)) (by rfl) T.g_with T.F_with.kp T.b_with .nil pass0 (pa_cons (pv 1) (pa_cons (pe_ix ix_list (pv 0) pe_int (fun _ _ => rfl)) (pa_cons (pe_tup (pa_cons (pe_ix ix_list (pv 0) pe_int (fun _ _ => rfl)) (pa_cons (pe_ix ix_list (pv 7) pe_int (fun _ _ => rfl)) pa_nil))) pa_nil)))) pa_nil))))))))))))), ?_⟩
    refine ⟨_, rfl, p, _, 0, _, rfl, rfl, SqL.of hp, atI_nat (j := 0) rfl, rfl, _, rfl, ite2 (fun c0 => ?_) (fun c0 => ?_)⟩
    · refine ⟨_, rfl, _, rfl, p, t, c, x, y, r, h, rfl, hp, fx, fy, ht, R, fun H' u x' y' o s gx gy fx' fy' ro to hu => k _ u o s (.rules (V.str.inj (of_decide_eq_true c0)) gx gy fx' fy' ro) to hu⟩
    have nr : c ≠ "rules" := fun z => c0 (decide_eq_true (by rw [z]))
    have hc2 := chg_not hc nr
    refine ⟨_, rfl, q, ls, rfl, hL, G, fun H1 nm s1 f1 h1 => ?_⟩
    rw [numV_strs] at h1
    have hp1 := s1 _ _ hp
    have sh := tg_shows fx.tg
    have non : (∀ b ∈ ls.flatten, PyData.eqv (.str (numS b.1)) (dV x) = false) → ∀ u, H1 u = none → Q (.ref u) (upd H1 u (.tup [.str "none", .str (PyData.shown (dV x))])) := fun no u hu => k _ u (.none x) (s1.trans (same_new hu)) (.none hc2 no) upd_same (s1.free hu)
    refine ⟨_, rfl, p, _, 1, _, rfl, rfl, SqL.of hp1, atI_nat (j := 1) rfl, ?_⟩
    cases hfx : fx with
    | int _ => exact ⟨_, _, _, _, false, rfl, .ty "str", .base (.int _), kit_ty (by decide +kernel), false, rfl, iteT (iteT ⟨_, rfl, p, _, 1, _, rfl, rfl, SqL.of hp1, atI_nat (j := 1) rfl, _, _, rfl, fx.dp, sh.sh, sh.nd, sh.dep, sh.fit, by show 2 ≤ sizeLine; decide, fun u hu => non (fun b _ => out_nonstr fun t z => by cases z) u hu⟩)⟩
    | bl _ => exact ⟨_, _, _, _, false, rfl, .ty "str", .base (.bl _), kit_ty (by decide +kernel), false, rfl, iteT (iteT ⟨_, rfl, p, _, 1, _, rfl, rfl, SqL.of hp1, atI_nat (j := 1) rfl, _, _, rfl, fx.dp, sh.sh, sh.nd, sh.dep, sh.fit, by show 2 ≤ sizeLine; decide, fun u hu => non (fun b _ => out_nonstr fun t z => by cases z) u hu⟩)⟩
    | non => exact ⟨_, _, _, _, false, rfl, .ty "str", .base .non, kit_ty (by decide +kernel), false, rfl, iteT (iteT ⟨_, rfl, p, _, 1, _, rfl, rfl, SqL.of hp1, atI_nat (j := 1) rfl, _, _, rfl, fx.dp, sh.sh, sh.nd, sh.dep, sh.fit, by show 2 ≤ sizeLine; decide, fun u hu => non (fun b _ => out_nonstr fun t z => by cases z) u hu⟩)⟩
    | @str t0 tx =>
    refine ⟨_, _, _, _, true, rfl, .ty "str", .base (.str _), kit_ty (by decide +kernel), true, rfl, iteF ?_⟩
    refine ⟨_, rfl, p, _, 1, _, rfl, rfl, SqL.of hp1, atI_nat (j := 1) rfl, _, rfl, nm, _, rfl, .inl (SqL.of h1), rfl, flat_strs _, _, rfl, ite2 (fun c1 => ?_) (fun c1 => ?_)⟩
    · rw [in_strs] at c1
      exact ⟨_, rfl, p, _, 1, _, rfl, rfl, SqL.of hp1, atI_nat (j := 1) rfl, _, _, rfl, fx.dp, sh.sh, sh.nd, sh.dep, sh.fit, by show 2 ≤ sizeLine; decide, fun u hu => non (out_str (nin_of c1)) u hu⟩
    rw [in_strs] at c1
    have m1 : t0 ∈ ls.flatten.map fun b => numS b.1 := in_of c1
    obtain ⟨b, mb, rfl⟩ := List.mem_map.mp m1
    obtain ⟨i, j, l, hl, hb⟩ := flat_at mb
    have nb := G.num b mb
    refine ⟨_, rfl, p, _, 0, _, rfl, rfl, SqL.of hp1, atI_nat (j := 0) rfl, rfl, _, rfl, ite2 (fun c2 => ?_) (fun c2 => ?_)⟩
    · have ec : c = "sort" := V.str.inj (of_decide_eq_true c2)
      have bad : ¬ IsSt y → ∀ A, Same H A → ∀ u, A u = none → Q (.ref u) (upd A u (.tup [.str "bad", .str "sort"])) := fun ns A sA u hu => k _ u (.bad "sort") (sA.trans (same_new hu)) (.badsort ec hl hb rfl ns) upd_same (sA.free hu)
      refine ⟨_, rfl, p, _, 2, _, rfl, rfl, SqL.of hp1, atI_nat (j := 2) rfl, ?_⟩
      cases hfy : fy with
      | int _ => exact ⟨_, _, _, _, false, rfl, .ty "str", .base (.int _), kit_ty (by decide +kernel), false, rfl, iteT (iteT ⟨by show 2 ≤ sizeLine; decide, fun u hu => bad (fun z => by rcases z with z | z <;> cases z) _ s1 u hu⟩)⟩
      | bl _ => exact ⟨_, _, _, _, false, rfl, .ty "str", .base (.bl _), kit_ty (by decide +kernel), false, rfl, iteT (iteT ⟨by show 2 ≤ sizeLine; decide, fun u hu => bad (fun z => by rcases z with z | z <;> cases z) _ s1 u hu⟩)⟩
      | non => exact ⟨_, _, _, _, false, rfl, .ty "str", .base .non, kit_ty (by decide +kernel), false, rfl, iteT (iteT ⟨by show 2 ≤ sizeLine; decide, fun u hu => bad (fun z => by rcases z with z | z <;> cases z) _ s1 u hu⟩)⟩
      | @str t1 tx1 =>
      refine ⟨_, _, _, _, true, rfl, .ty "str", .base (.str _), kit_ty (by decide +kernel), true, rfl, iteF ?_⟩
      refine ⟨_, rfl, p, _, 2, _, rfl, rfl, SqL.of hp1, atI_nat (j := 2) rfl, by show 2 ≤ sizeLine; decide, fun t2 ht2 => ?_⟩
      have s2 := s1.trans (same_new (o := .tup [V.str "plain", V.str "shy"]) ht2)
      refine ⟨t2, _, rfl, .inr (SqT.of upd_same), rfl, rfl, _, rfl, ite2 (fun c3 => ?_) (fun c3 => ?_)⟩
      · exact ⟨by show 2 ≤ sizeLine; decide, fun u hu => bad (fun z => by
          rw [(inV_st (.str tx1)).mpr z] at c3
          simp at c3) _ s2 u hu⟩
      have st : IsSt (.str t1) := (inV_st (.str tx1)).mp (by simpa using c3)
      obtain ⟨sb, es⟩ : ∃ sb, t1 = sortS sb := by
        rcases st with z | z
        · exact ⟨false, V.str.inj z⟩
        · exact ⟨true, V.str.inj z⟩
      subst es
      have hp2 := s2 _ _ hp
      have L2 := hL
      refine ⟨_, rfl, _, rfl, p, _, 1, _, rfl, rfl, SqL.of hp2, atI_nat (j := 1) rfl, _, rfl, p, _, 1, _, rfl, rfl, SqL.of hp2, atI_nat (j := 1) rfl, _, rfl, p, _, 2, _, rfl, rfl, SqL.of hp2, atI_nat (j := 2) rfl, by show 2 ≤ sizeLine; decide, fun t3 ht3 => ?_⟩
      have s3 := s2.trans (same_new (o := .tup [.str (numS b.1), .str (sortS sb)]) ht3)
      refine ⟨q, ls, numS b.1, t3, (b.1, sb), rfl, hL.keep s3, G, SqT.of upd_same, fun H' pw sw nw => ⟨by show 2 ≤ sizeLine; decide, fun u hu => ?_⟩⟩
      have sF := s3.trans sw
      refine k _ u (.loops (ls.set i (l.set j (b.1, sb)))) (sF.trans (same_new hu)) (.sort ec hl hb rfl rfl) ⟨pw, upd_same, ?_⟩ (sF.free hu)
      rw [subst_eq G.nd hl hb] at nw
      exact nw.mv s3 (same_new hu)
    have ec : c = "number" := by
      rcases hc2 with z | z
      · exact absurd (decide_eq_true (by rw [z])) c2
      · exact z
    refine ⟨_, rfl, p, _, 2, _, rfl, rfl, SqL.of hp1, atI_nat (j := 2) rfl, y, rfl, fy, fun H2 cc s12 ecc => ⟨_, rfl, ?_⟩⟩
    have s2 := s1.trans s12
    have hp2 := s2 _ _ hp
    have h2 := s12 _ _ h1
    cases cc with
    | false =>
      refine iteT ⟨by show 2 ≤ sizeLine; decide, fun u hu => k _ u (.bad "number") (s2.trans (same_new hu)) (.badnum ec hl hb rfl fun z => Bool.noConfusion (ecc.mpr z)) upd_same (s2.free hu)⟩
    | true =>
    refine iteF ?_
    obtain ⟨ds, N, ey⟩ := ecc.mp rfl
    subst ey
    refine ⟨fun σ A => σ = [some (.ref p), some (.ref q), some (.ref t), some (.ref nm), none, none, none, none, none] ∧ A = H2 ∧ (numS ds = numS b.1 ∨ numS ds ∉ ls.flatten.map fun b => numS b.1), ?_, ?_⟩
    · refine ⟨_, rfl, p, _, 2, _, rfl, rfl, SqL.of hp2, atI_nat (j := 2) rfl, _, rfl, p, _, 1, _, rfl, rfl, SqL.of hp2, atI_nat (j := 1) rfl, rfl, _, rfl, ite2 (fun c3 => ?_) (fun c3 => ?_)⟩
      · have ne : numS ds ≠ numS b.1 := fun z => by
          rw [z] at c3
          simp at c3
        refine ⟨_, rfl, p, _, 2, _, rfl, rfl, SqL.of hp2, atI_nat (j := 2) rfl, _, rfl, nm, _, rfl, .inl (SqL.of h2), rfl, flat_strs _, _, rfl, ite2 (fun c4 => ?_) (fun c4 => ?_)⟩
        · rw [in_strs] at c4
          exact ⟨by show 2 ≤ sizeLine; decide, fun u hu => k _ u (.bad "double") (s2.trans (same_new hu)) (.double ec hl hb rfl N rfl ne (in_of2 c4)) upd_same (s2.free hu)⟩
        · rw [in_strs] at c4
          exact ⟨rfl, rfl, .inr (nin_of2 c4)⟩
      · exact ⟨rfl, rfl, .inl (by
          have q : ¬ (!decide (V.str (numS ds) = V.str (numS b.1))) = true := c3
          rw [Bool.not_eq_true', decide_eq_false_iff_not, Classical.not_not] at q
          exact V.str.inj q)⟩
    rintro σ A ⟨rfl, rfl, ok⟩
    have hq2 := s2 _ _ hq
    refine ⟨_, rfl, q, rfl, ⟨_, SqL.of hq2⟩, fun D hD => ?_⟩
    refine Lm.lc_any walk_list (fun n y H' => ∃ m qm zs, ls[n]? = some m ∧ y = .ref qm ∧ qm ≠ D ∧ H' qm = some (.lst zs) ∧ Dts K H' zs ((m.filter (same1 (numS b.1))).map boxD)) (fun n y A B zs hR hy bar => ?_) (fun _ _ _ _ h => Lm.same_at h) hD (by omega) (fun H' s => SqL.of (s _ _ hq2))
      (fun n v B B' hn sm hDl hY Q2 Z q9 => ?_) (fun H3 rs s23 hrs lr hR => ?_)
    · obtain ⟨m, qm, zs, e1, e2, e3, e4, e5⟩ := hR
      exact ⟨m, qm, zs, e1, e2, e3, bar _ _ e3 e4, e5.k (Lm.Bar.kt hy bar)⟩
    · obtain ⟨rfl, hx⟩ := hY
      obtain ⟨m, hm, q5, ys, rfl, h5, hd5⟩ := ha n v hx
      obtain ⟨dl, hDl⟩ := hDl
      have sB := s2.trans sm
      have h5B := sB _ _ h5
      have b2 := G.b2 m (List.mem_of_getElem? hm)
      have lz := boxes_len hd5
      have hdB := hd5.k (Kt.same (K := K) sB)
      have hpB := sm _ _ hp2
      refine ⟨rfl, yesT ⟨_, rfl, q5, rfl, ⟨_, SqL.of h5B⟩, fun D2 hD2 => ?_⟩⟩
      refine lc_list (xs := ys) (fun i H' => Same B' H' ∧ ∃ zs, H' D2 = some (.lst zs) ∧ Dts K H' zs (((m.take i).filter (same1 (numS b.1))).map boxD)) ⟨same_new hD2, [], upd_same, by simp; exact .nil⟩ (fun i H3 _ hP => SqL.of (hP.1 _ _ h5B)) (fun i v H3 hv hP => ?_) (fun H3 hP => ?_)
      · obtain ⟨s3, zs, hz, hdz⟩ := hP
        obtain ⟨bx, hbx, tb⟩ := boxes_at hdB hv
        obtain ⟨q6, rfl, h6⟩ := box_inv tb
        have hi6 := (List.getElem?_eq_some_iff.mp hv).1
        have lzs := boxes_len hdz
        have lf : ((m.take i).filter (same1 (numS b.1))).length ≤ 100 := Nat.le_trans (List.length_filter_le _ _) (by rw [List.length_take]; omega)
        refine ⟨rfl, _, rfl, q6, _, 0, _, rfl, rfl, sameT s3 h6, atI_nat (j := 0) rfl, _, rfl, p, _, 1, _, rfl, rfl, SqL.of (s3 _ _ hpB), atI_nat (j := 1) rfl, rfl, _, rfl, ite2 (fun c5 => ?_) (fun c5 => ?_)⟩
        · have e5 : same1 (numS b.1) bx = true := decide_eq_true (V.str.inj (of_decide_eq_true c5))
          refine ⟨_, rfl, zs, hz, small1000 (by omega), same_mut s3 hD2, zs ++ [.ref q6], upd_same, ?_⟩
          exact dts_filt (hdz.k (Kt.lst hz)) hbx e5 ((tb.k (Kt.same s3)).k (Kt.lst hz))
        · have e5 : ¬ same1 (numS b.1) bx = true := fun z => c5 (decide_eq_true (by rw [of_decide_eq_true z]))
          refine ⟨s3, zs, hz, ?_⟩
          rw [filt_off hbx e5]
          exact hdz
      · obtain ⟨s3, zs, hz, hdz⟩ := hP
        rw [lz, List.take_length] at hdz
        exact q9 _ _ s3 ⟨m, D2, zs, hm, rfl, (ne_of_none hDl hD2).symm, hz, hdz⟩
    have s3 := s2.trans s23
    have hp3 := s3 _ _ hp
    have lsl := (List.getElem?_eq_some_iff.mp hl).1
    refine ⟨_, rfl, D, rfl, ⟨_, SqL.of hrs⟩, fun D3 hD3 => ?_⟩
    refine lc_list (xs := rs) (fun n H' => Same H3 H' ∧ H' D3 = some (.lst (if i < n then [V.str (sortS b.2)] else []))) ⟨same_new hD3, by rw [if_neg (by omega)]; exact upd_same⟩ (fun i H3 _ hP => SqL.of (hP.1 _ _ hrs)) (fun n v H4 hv hP => ?_) (fun H4 hP => ?_)
    · obtain ⟨s34, hz⟩ := hP
      obtain ⟨m, qm, zs, hm, rfl, _, h7, hd7⟩ := hR n v hv
      rw [filt_eq G.nd hl hb hm] at hd7
      refine ⟨rfl, _, rfl, by show 0 ≤ sizeLine; decide, fun u hu => ?_⟩
      have su := same_new (o := .lst []) hu
      have s3u := s34.trans su
      by_cases en : n = i
      · rw [if_pos en] at hd7
        have f := row_fine (l := [b]) fun x mx => by rw [List.mem_singleton.mp mx]; exact nb
        have f0 := row_fine (l := []) fun x mx => by cases mx
        refine ⟨_, _, .lst (SqL.of (s3u _ _ h7)) (hd7.k (Kt.same s3u)).toDp, .lst (SqL.of upd_same) .nil, f.shaped (by decide), f0.shaped (by decide), _, rfl, iteT ?_⟩
        cases hd7 with
        | cons a r =>
        cases r
        obtain ⟨q8, rfl, h8⟩ := box_inv a
        refine ⟨_, rfl, qm, _, 0, _, rfl, rfl, SqL.of (s3u _ _ h7), atI_nat (j := 0) rfl, q8, _, 1, _, rfl, rfl, sameT s3u h8, atI_nat (j := 1) rfl, _, su _ _ hz, ?_, same_mut s3u hD3, ?_⟩
        · rw [if_neg (by omega)]; decide
        · rw [upd_same, if_neg (by omega), if_pos (by omega)]
          rfl
      · rw [if_neg en] at hd7
        have f0 := row_fine (l := []) fun x mx => by cases mx
        refine ⟨_, _, .lst (SqL.of (s3u _ _ h7)) (hd7.k (Kt.same s3u)).toDp, .lst (SqL.of upd_same) .nil, f0.shaped (by decide), f0.shaped (by decide), _, rfl, iteF ⟨s3u, ?_⟩⟩
        rw [su _ _ hz]
        by_cases q1 : i < n
        · rw [if_pos q1, if_pos (by omega)]
        · rw [if_neg q1, if_neg (by omega)]
    obtain ⟨s34, hz⟩ := hP
    rw [if_pos (by omega)] at hz
    have s4 := s3.trans s34
    have hp4 := s4 _ _ hp
    refine ⟨_, rfl, _, rfl, p, _, 1, _, rfl, rfl, SqL.of hp4, atI_nat (j := 1) rfl, _, rfl, p, _, 2, _, rfl, rfl, SqL.of hp4, atI_nat (j := 2) rfl, _, rfl, D3, _, 0, _, rfl, rfl, SqL.of hz, atI_nat (j := 0) rfl, by show 2 ≤ sizeLine; decide, fun t3 ht3 => ?_⟩
    have s5 := s4.trans (same_new (o := .tup [.str (numS ds), .str (sortS b.2)]) ht3)
    refine ⟨q, ls, numS b.1, t3, (ds, b.2), rfl, hL.keep s5, G, SqT.of upd_same, fun H' pw sw nw => ⟨by show 2 ≤ sizeLine; decide, fun u hu => ?_⟩⟩
    have sF := s5.trans sw
    refine k _ u (.loops (ls.set i (l.set j (ds, b.2)))) (sF.trans (same_new hu)) (.number ec hl hb rfl N rfl ok) ⟨pw, upd_same, ?_⟩ (sF.free hu)
    rw [subst_eq G.nd hl hb] at nw
    exact nw.mv s5 (same_new hu)
end
end K08

namespace K08
open PySem L2 Wm TL Dv
section
variable {P : Program} {w : World} {K : PySem.W.Frag} {mg : Str → Option Value} {base : Heap}
theorem st4 {σ : L2.St} (h : σ.length = 4) : ∃ a b c d, σ = [a, b, c, d] := match σ, h with | [a, b, c, d], _ => ⟨a, b, c, d, rfl⟩
theorem num_at {ls : List (List Box)} {i j : Nat} {l : List Box} {b : Box} (G : Good ls) (hl : ls[i]? = some l) (hb : l[j]? = some b) {i2 j2 : Nat} {l2 : List Box} {b2 : Box} (hl2 : ls[i2]? = some l2) (hb2 : l2[j2]? = some b2) (e : PyData.eqv (.str (numS b2.1)) (dV (.str (numS b.1))) = true) : i2 = i ∧ j2 = j ∧ b2 = b ∧ l2 = l := by
  obtain ⟨e1, e2, e3⟩ := pos_eq G.nd hl hb hl2 hb2 (str_eqv e)
  subst e1
  rw [hl] at hl2
  cases hl2
  exact ⟨rfl, e2, e3, rfl⟩
theorem not_in {ls : List (List Box)} (G : Good ls) {i j : Nat} {l : List Box} {b : Box} (hl : ls[i]? = some l) (hb : l[j]? = some b) (no : ∀ c ∈ ls.flatten, PyData.eqv (.str (numS c.1)) (dV (.str (numS b.1))) = false) : False := by
  have z : PyData.eqv (.str (numS b.1)) (.str (numS b.1)) = false := no b (in_flat hl hb)
  have f : Fine 0 (.str (numS b.1)) := fine_num fun d m => ((G.num b (in_flat hl hb)).3 d m).2
  rw [f.refl] at z
  cases z
theorem isSt_sort (s : Bool) : IsSt (.str (sortS s)) := by cases s <;> simp [IsSt, sortS]
theorem isN_ob {ls : List (List Box)} (G : Good ls) {x : Box} (m : x ∈ ls.flatten) : IsN (toOB x).1 := ⟨x.1, G.num x m, rfl⟩
theorem mem_midO {A B : List Box} {o x : OB} (m : x ∈ A.map toOB ++ o :: B.map toOB) (b : Box) : x = o ∨ ∃ c, c ∈ A ++ b :: B ∧ x = toOB c := by
  rcases mem_mid.mp m with h | h
  · exact .inl h
  · rw [← List.map_append] at h
    obtain ⟨c, mc, rfl⟩ := List.mem_map.mp h
    exact .inr ⟨c, mem_mid.mpr (.inr mc), rfl⟩
theorem bad_sort {ls : List (List Box)} (G : Good ls) {i j : Nat} {l : List Box} {b : Box} (hl : ls[i]? = some l) (hb : l[j]? = some b) {y : V} (ns : ¬ IsSt y) : Bad (setO ls i j l (.str (numS b.1), y)).flatten "sort" := by
  obtain ⟨A, B, e, f⟩ := setO_flat hl hb
  rw [f]
  refine .inr (.inl ⟨rfl, fun x m => ?_, _, mem_mid.mpr (.inl rfl), ns⟩)
  rcases mem_midO m b with rfl | ⟨c, mc, rfl⟩
  · exact ⟨b.1, G.num b (in_flat hl hb), rfl⟩
  · exact isN_ob G (e ▸ mc)
theorem bad_num {ls : List (List Box)} {i j : Nat} {l : List Box} {b : Box} (hl : ls[i]? = some l) (hb : l[j]? = some b) {y s : V} (nn : ¬ IsN y) : Bad (setO ls i j l (y, s)).flatten "number" := by
  obtain ⟨A, B, e, f⟩ := setO_flat hl hb
  rw [f]
  exact .inl ⟨rfl, _, mem_mid.mpr (.inl rfl), nn⟩
theorem bad_dbl {ls : List (List Box)} (G : Good ls) {i j : Nat} {l : List Box} {b : Box} (hl : ls[i]? = some l) (hb : l[j]? = some b) {ds : List Nat} (N : Num ds) (ne : numS ds ≠ numS b.1) (m : numS ds ∈ ls.flatten.map fun b => numS b.1) (s : Bool) :
    Bad (setO ls i j l (.str (numS ds), .str (sortS s))).flatten "double" := by
  obtain ⟨A, B, e, f⟩ := setO_flat hl hb
  rw [f]
  refine .inr (.inr ⟨rfl, fun x m => ?_, fun x m => ?_, fun nd => ?_⟩)
  · rcases mem_midO m b with rfl | ⟨c, mc, rfl⟩
    · exact ⟨ds, N, rfl⟩
    · exact isN_ob G (e ▸ mc)
  · rcases mem_midO m b with rfl | ⟨c, mc, rfl⟩
    · exact isSt_sort s
    · exact isSt_sort c.2
  · rw [List.map_append, List.map_cons, nodup_mid] at nd
    rw [e, List.map_append, List.map_cons] at m
    rcases mem_mid.mp m with h | h
    · exact ne h
    · rcases List.mem_append.mp h with h | h
      · obtain ⟨c, mc, ec⟩ := List.mem_map.mp h
        exact nd.2.1 (List.mem_map.mpr ⟨toOB c, List.mem_map.mpr ⟨c, mc, rfl⟩, congrArg V.str ec⟩)
      · obtain ⟨c, mc, ec⟩ := List.mem_map.mp h
        exact nd.2.2 (List.mem_map.mpr ⟨toOB c, List.mem_map.mpr ⟨c, mc, rfl⟩, congrArg V.str ec⟩)
theorem ok_done (T : Txt K mg) : Rp.GOk P w K mg base CX0 10 T.a_done T.d_done ["_law_town", "_law_change_here"] (sp_done K T.C) := by
  refine Rp.gok T.F_done sc_done (fun vs H Q E h => ?_) (fun cdv A outer s H vs Q E hg hr h => ?_)
  · obtain ⟨p, g, c, x, y, ls, r, h, o, rfl, _⟩ := h
    rfl
  · obtain ⟨p, g, c, x, y, ls, r, h, o, rfl, hT, G, R, hg0, hc, fx, fy, ho, k⟩ := h
    obtain ⟨dx, fs, yl, y2, hp, l1, l2, l3, l4, l5, t, t2⟩ := id hT
    have n1 : fs.lookup ("with_sort" : Str) = none := no_meth "with_sort" (by decide +kernel) (by decide +kernel) (by decide +kernel) (by decide +kernel) l5
    have n2 : fs.lookup ("with_number" : Str) = none := no_meth "with_number" (by decide +kernel) (by decide +kernel) (by decide +kernel) (by decide +kernel) l5
    have n3 : fs.lookup ("with_rules" : Str) = none := no_meth "with_rules" (by decide +kernel) (by decide +kernel) (by decide +kernel) (by decide +kernel) l5
    have sh := tg_shows fx.tg
    refine ⟨_, (pss_cons (Ta.ps_try_ass (W := fun _ _ _ _ => False) rfl rfl sc_done.nd takes0 (fun U pn xe tk _ => (pss_one (ps_if (pt_cmpR op_eq (pe_ix (show IxR _ (rIxL K) from ix_list) (pv 1) pe_int (fun _ _ => rfl)) pe_str (nomark _))
          (pss_one (ps_set (i := 2) sc_done.nd rfl (Or.inl rfl) (MS.pe_methS (pv 0) T.clC T.m_with_sort (ok_with_sort T) (hr.mono (by decide)) T.b_with_sort (fun σ => passAt tk σ) (by exact (pa_cons (pe_ix (show IxR _ (rIxL K) from ix_list) (pv 1) pe_int (fun _ _ => rfl)) (pa_cons (pe_ix (show IxR _ (rIxL K) from ix_list) (pv 1) pe_int (fun _ _ => rfl)) pa_nil))))))
          (pss_one (ps_if (pt_cmpR op_eq (pe_ix (show IxR _ (rIxL K) from ix_list) (pv 1) pe_int (fun _ _ => rfl)) pe_str (nomark _))
            (pss_one (ps_set (i := 2) sc_done.nd rfl (Or.inl rfl) (MS.pe_methS (pv 0) T.clC T.m_with_number (ok_with_number T) (hr.mono (by decide)) T.b_with_number (fun σ => passAt tk σ) (by exact (pa_cons (pe_ix (show IxR _ (rIxL K) from ix_list) (pv 1) pe_int (fun _ _ => rfl)) (pa_cons (pe_ix (show IxR _ (rIxL K) from ix_list) (pv 1) pe_int (fun _ _ => rfl)) pa_nil))))))
            (pss_one (ps_if (pt_cmpR op_isN (pe_ix (show IxR _ (rIxL K) from ix_list) (pv 1) pe_int (fun _ _ => rfl)) pe_non (nomark _))
              (pss_one (ps_set (i := 2) sc_done.nd rfl (Or.inl rfl) (Mk1.pe_methN (pv 0) T.clC T.m_with_rules (ok_with_rules T) (hr.mono (by decide)) T.kwR (Po.passL 4 rfl tk) (pk_cons (pe_ix (show IxR _ (rIxL K) from ix_list) (pv 1) pe_int (fun _ _ => rfl)) pk_nil))))
              (pss_one (ps_if (pt_cmpR op_isN (pe_ix (show IxR _ (rIxL K) from ix_list) (pv 1) pe_int (fun _ _ => rfl)) pe_non (nomark _))
                (pss_one (ps_set (i := 2) sc_done.nd rfl (Or.inl rfl) (Mk1.pe_methN (pv 0) T.clC T.m_with_rules (ok_with_rules T) (hr.mono (by decide)) T.kwH (Po.passL 4 rfl tk) (pk_cons (pe_ix (show IxR _ (rIxL K) from ix_list) (pv 1) pe_int (fun _ _ => rfl)) pk_nil))))
                (pss_one (ps_set (i := 2) sc_done.nd rfl (Or.inl rfl) (Mk1.pe_methN (pv 0) T.clC T.m_with_rules (ok_with_rules T) (hr.mono (by decide)) T.kw2 (Po.passL 4 rfl tk) (pk_cons (pe_ix (show IxR _ (rIxL K) from ix_list) (pv 1) pe_int (fun _ _ => rfl)) (pk_cons (pe_ix (show IxR _ (rIxL K) from ix_list) (pv 1) pe_int (fun _ _ => rfl)) pk_nil)))))))))))))) (Ta.Hds.cons (h := ⟨Value.ref T.CB, 3, _⟩) rfl rfl ⟨rfl, by decide, Or.inl T.lowB.gC⟩ (fun a oe cls d pn hz hf => (pss_one (ps_ret (pe_tup (pa_cons pe_str (pa_cons (pe_callB (show CallR _ _ (Rp.rRepr K) from Rp.call_reprD hg hr.units) (by rfl) T.z_repr (by decide +kernel) (pa_cons (pe_byLowB T.lowB hz hf (pv 3)) pa_nil)) pa_nil)))))) (Ta.Hds.cons (h := ⟨Value.ref T.CT, 3, _⟩) rfl rfl ⟨rfl, by decide, Or.inl T.lowT.gC⟩ (fun a oe cls d pn hz hf => (pss_one (ps_ret (pe_tup (pa_cons pe_str (pa_cons (pe_byLowT T.lowT hz hf (pv 3)) pa_nil)))))) Ta.Hds.nil)))
      (pss_one (ps_ret (pe_tup (pa_cons pe_str (pa_cons (pv 2) pa_nil)))))), ?_⟩
    rcases hc with rfl | rfl | rfl
    · refine ⟨_, rfl, g, _, 0, _, rfl, rfl, SqL.of hg0, atI_nat (j := 0) rfl, rfl, _, rfl, ite2 (fun _ => ?_) (fun c0 => absurd (decide_eq_true rfl) c0)⟩
      refine ⟨_, rfl, p, dx, fs, rfl, hp, n1, _, rfl, g, _, 1, _, rfl, rfl, SqL.of hg0, atI_nat (j := 1) rfl, _, rfl, g, _, 2, _, rfl, rfl, SqL.of hg0, atI_nat (j := 2) rfl, ?_⟩
      refine ⟨p, x, dV x, ls, r, h, y, rfl, hT, G, R, fun _ _ => fx.dp, fx.shaped, fx, fy, fun no H' dd s' he => ?_, fun i j l b hl hb e => ?_⟩
      · cases ho with
        | rules e => exact absurd e (by decide +kernel)
        | none _ _ =>
          refine ⟨true, T.lowB.te, fun _ a0 ha0 => ?_, fun q => Bool.noConfusion q⟩
          exact ⟨_, rfl, rfl, rfl, dd, x, rfl, he, x, dV x, rfl, fx.dp, sh.sh, sh.nd, sh.dep, sh.fit, by show 2 ≤ sizeLine; decide, fun q hq => k _ q (s'.trans (same_new hq)) upd_same⟩
        | badsort _ hl hb ex => subst ex; exact (not_in G hl hb no).elim
        | sort _ hl hb ex => subst ex; exact (not_in G hl hb no).elim
        | badnum e => exact absurd e (by decide +kernel)
        | double e => exact absurd e (by decide +kernel)
        | number e => exact absurd e (by decide +kernel)
      · cases ho with
        | rules e => exact absurd e (by decide +kernel)
        | none _ no => exact absurd e (by rw [no b (in_flat hl hb)]; exact Bool.noConfusion)
        | badsort _ hl2 hb2 ex ns =>
          subst ex
          obtain ⟨rfl, rfl, rfl, rfl⟩ := num_at G hl2 hb2 hl hb e
          refine .inr ⟨"sort", bad_sort G hl hb ns, fun H' dd s' he => ?_⟩
          refine ⟨false, T.xTB, fun q => Bool.noConfusion q, fun _ => ⟨true, T.lowT.te, fun _ a0 ha0 => ?_, fun q => Bool.noConfusion q⟩⟩
          exact ⟨_, rfl, rfl, rfl, dd, _, rfl, he, by show 2 ≤ sizeLine; decide, fun q hq => k _ q (s'.trans (same_new hq)) upd_same⟩
        | @sort i2 j2 l0 b0 s0 _ hl2 hb2 ex es =>
          subst ex es
          obtain ⟨rfl, rfl, rfl, rfl⟩ := num_at G hl2 hb2 hl hb e
          refine .inl ⟨(b.1, s0), rfl, rfl, good_set G hl hb (G.num b (in_flat hl hb)) (.inl rfl), fun H' p2 s2 f2 tA => ?_⟩
          exact ⟨_, rfl, by show 2 ≤ sizeLine; decide, fun q hq => k _ q (s2.trans (same_new hq)) ⟨p2, upd_same, tA.keep (same_new hq)⟩⟩
        | badnum e => exact absurd e (by decide +kernel)
        | double e => exact absurd e (by decide +kernel)
        | number e => exact absurd e (by decide +kernel)
    · refine ⟨_, rfl, g, _, 0, _, rfl, rfl, SqL.of hg0, atI_nat (j := 0) rfl, rfl, _, rfl, ite2 (fun c0 => absurd (V.str.inj (of_decide_eq_true c0)) (by decide +kernel)) (fun _ => ?_)⟩
      refine ⟨_, rfl, g, _, 0, _, rfl, rfl, SqL.of hg0, atI_nat (j := 0) rfl, rfl, _, rfl, ite2 (fun _ => ?_) (fun c0 => absurd (decide_eq_true rfl) c0)⟩
      refine ⟨_, rfl, p, dx, fs, rfl, hp, n2, _, rfl, g, _, 1, _, rfl, rfl, SqL.of hg0, atI_nat (j := 1) rfl, _, rfl, g, _, 2, _, rfl, rfl, SqL.of hg0, atI_nat (j := 2) rfl, ?_⟩
      refine ⟨p, x, dV x, ls, r, h, y, rfl, hT, G, R, fun _ _ => fx.dp, fx.shaped, fy, fun no H' dd s' he => ?_, fun i j l b hl hb e => ?_⟩
      · cases ho with
        | rules e => exact absurd e (by decide +kernel)
        | none _ _ =>
          refine ⟨true, T.lowB.te, fun _ a0 ha0 => ?_, fun q => Bool.noConfusion q⟩
          exact ⟨_, rfl, rfl, rfl, dd, x, rfl, he, x, dV x, rfl, fx.dp, sh.sh, sh.nd, sh.dep, sh.fit, by show 2 ≤ sizeLine; decide, fun q hq => k _ q (s'.trans (same_new hq)) upd_same⟩
        | badnum _ hl hb ex => subst ex; exact (not_in G hl hb no).elim
        | double _ hl hb ex => subst ex; exact (not_in G hl hb no).elim
        | number _ hl hb ex => subst ex; exact (not_in G hl hb no).elim
        | badsort e => exact absurd e (by decide +kernel)
        | sort e => exact absurd e (by decide +kernel)
      · have bad : ∀ w, (∀ H' u, Same H H' → DoneO K T.C H' u ls r h (.bad w) → Q (.ref u) H') → True := fun _ _ => trivial
        cases ho with
        | rules e => exact absurd e (by decide +kernel)
        | none _ no => exact absurd e (by rw [no b (in_flat hl hb)]; exact Bool.noConfusion)
        | badnum _ hl2 hb2 ex nn =>
          subst ex
          obtain ⟨rfl, rfl, rfl, rfl⟩ := num_at G hl2 hb2 hl hb e
          refine .inr ⟨"number", bad_num hl hb nn, fun H' dd s' he => ?_⟩
          refine ⟨false, T.xTB, fun q => Bool.noConfusion q, fun _ => ⟨true, T.lowT.te, fun _ a0 ha0 => ?_, fun q => Bool.noConfusion q⟩⟩
          exact ⟨_, rfl, rfl, rfl, dd, _, rfl, he, by show 2 ≤ sizeLine; decide, fun q hq => k _ q (s'.trans (same_new hq)) upd_same⟩
        | double _ hl2 hb2 ex N ey ne m =>
          subst ex ey
          obtain ⟨rfl, rfl, rfl, rfl⟩ := num_at G hl2 hb2 hl hb e
          refine .inr ⟨"double", bad_dbl G hl hb N ne m b.2, fun H' dd s' he => ?_⟩
          refine ⟨false, T.xTB, fun q => Bool.noConfusion q, fun _ => ⟨true, T.lowT.te, fun _ a0 ha0 => ?_, fun q => Bool.noConfusion q⟩⟩
          exact ⟨_, rfl, rfl, rfl, dd, _, rfl, he, by show 2 ≤ sizeLine; decide, fun q hq => k _ q (s'.trans (same_new hq)) upd_same⟩
        | @number i2 j2 l0 b0 ds _ hl2 hb2 ex N ey ok =>
          subst ex ey
          obtain ⟨rfl, rfl, rfl, rfl⟩ := num_at G hl2 hb2 hl hb e
          refine .inl ⟨(ds, b.2), rfl, rfl, good_set G hl hb N ok, fun H' p2 s2 f2 tA => ?_⟩
          exact ⟨_, rfl, by show 2 ≤ sizeLine; decide, fun q hq => k _ q (s2.trans (same_new hq)) ⟨p2, upd_same, tA.keep (same_new hq)⟩⟩
        | badsort e => exact absurd e (by decide +kernel)
        | sort e => exact absurd e (by decide +kernel)
    · obtain ⟨x', y', gx, gy, fx', fy', ro⟩ : ∃ x' y', Giv x r x' ∧ Giv y h y' ∧ Fl x' ∧ Fl y' ∧ RO x' y' o := by
        cases ho with
        | rules _ gx gy fx' fy' ro => exact ⟨_, _, gx, gy, fx', fy', ro⟩
        | none e => exact absurd e (by decide +kernel)
        | badsort e => exact absurd e (by decide +kernel)
        | sort e => exact absurd e (by decide +kernel)
        | badnum e => exact absurd e (by decide +kernel)
        | double e => exact absurd e (by decide +kernel)
        | number e => exact absurd e (by decide +kernel)
      refine ⟨_, rfl, g, _, 0, _, rfl, rfl, SqL.of hg0, atI_nat (j := 0) rfl, rfl, _, rfl, ite2 (fun c0 => absurd (V.str.inj (of_decide_eq_true c0)) (by decide +kernel)) (fun _ => ?_)⟩
      refine ⟨_, rfl, g, _, 0, _, rfl, rfl, SqL.of hg0, atI_nat (j := 0) rfl, rfl, _, rfl, ite2 (fun c0 => absurd (V.str.inj (of_decide_eq_true c0)) (by decide +kernel)) (fun _ => ?_)⟩
      refine ⟨_, rfl, g, _, 2, _, rfl, rfl, SqL.of hg0, atI_nat (j := 2) rfl, rfl, _, rfl, ite2 (fun c1 => ?_) (fun c1 => ?_)⟩
      · have ey : y = .non := of_decide_eq_true c1
        subst ey
        refine ⟨_, rfl, p, dx, fs, rfl, hp, n3, _, rfl, g, _, 1, _, rfl, rfl, SqL.of hg0, atI_nat (j := 1) rfl, rfl, p, ls, r, h, x, .non, x', y', wh x', wh y', rfl, hT, G, R, gx, gy, fx', fy', fx'.thing, fy'.thing, ?_⟩
        cases ro with
        | rounds wf =>
          refine .inr (.inl ⟨wf, fun H' dd s' he σ hσ => ?_⟩)
          obtain ⟨a1, a2, a3, a4, rfl⟩ := st4 hσ
          refine ⟨false, T.xTB, fun q => Bool.noConfusion q, fun _ => ⟨true, T.lowT.te, fun _ a0 ha0 => ?_, fun q => Bool.noConfusion q⟩⟩
          exact ⟨_, rfl, rfl, rfl, dd, _, rfl, he, by show 2 ≤ sizeLine; decide, fun q hq => k _ q (s'.trans (same_new hq)) upd_same⟩
        | hear e1 e2 e3 =>
          refine .inr (.inr ⟨_, e1, e2, e3, fun H' dd s' he σ hσ => ?_⟩)
          obtain ⟨a1, a2, a3, a4, rfl⟩ := st4 hσ
          refine ⟨false, T.xTB, fun q => Bool.noConfusion q, fun _ => ⟨true, T.lowT.te, fun _ a0 ha0 => ?_, fun q => Bool.noConfusion q⟩⟩
          exact ⟨_, rfl, rfl, rfl, dd, _, rfl, he, by show 2 ≤ sizeLine; decide, fun q hq => k _ q (s'.trans (same_new hq)) upd_same⟩
        | ok e1 e2 RR =>
          refine .inl ⟨_, _, e1, e2, RR, fun H' p2 s2 f2 tA => ?_⟩
          exact ⟨_, rfl, by show 2 ≤ sizeLine; decide, fun q hq => k _ q (s2.trans (same_new hq)) ⟨p2, upd_same, tA.keep (same_new hq)⟩⟩
      refine ⟨_, rfl, g, _, 1, _, rfl, rfl, SqL.of hg0, atI_nat (j := 1) rfl, rfl, _, rfl, ite2 (fun c2 => ?_) (fun c2 => ?_)⟩
      · have ex : x = .non := of_decide_eq_true c2
        subst ex
        refine ⟨_, rfl, p, dx, fs, rfl, hp, n3, _, rfl, g, _, 2, _, rfl, rfl, SqL.of hg0, atI_nat (j := 2) rfl, rfl, p, ls, r, h, .non, y, x', y', wh x', wh y', rfl, hT, G, R, gx, gy, fx', fy', fx'.thing, fy'.thing, ?_⟩
        cases ro with
        | rounds wf =>
          refine .inr (.inl ⟨wf, fun H' dd s' he σ hσ => ?_⟩)
          obtain ⟨a1, a2, a3, a4, rfl⟩ := st4 hσ
          refine ⟨false, T.xTB, fun q => Bool.noConfusion q, fun _ => ⟨true, T.lowT.te, fun _ a0 ha0 => ?_, fun q => Bool.noConfusion q⟩⟩
          exact ⟨_, rfl, rfl, rfl, dd, _, rfl, he, by show 2 ≤ sizeLine; decide, fun q hq => k _ q (s'.trans (same_new hq)) upd_same⟩
        | hear e1 e2 e3 =>
          refine .inr (.inr ⟨_, e1, e2, e3, fun H' dd s' he σ hσ => ?_⟩)
          obtain ⟨a1, a2, a3, a4, rfl⟩ := st4 hσ
          refine ⟨false, T.xTB, fun q => Bool.noConfusion q, fun _ => ⟨true, T.lowT.te, fun _ a0 ha0 => ?_, fun q => Bool.noConfusion q⟩⟩
          exact ⟨_, rfl, rfl, rfl, dd, _, rfl, he, by show 2 ≤ sizeLine; decide, fun q hq => k _ q (s'.trans (same_new hq)) upd_same⟩
        | ok e1 e2 RR =>
          refine .inl ⟨_, _, e1, e2, RR, fun H' p2 s2 f2 tA => ?_⟩
          exact ⟨_, rfl, by show 2 ≤ sizeLine; decide, fun q hq => k _ q (s2.trans (same_new hq)) ⟨p2, upd_same, tA.keep (same_new hq)⟩⟩
      · refine ⟨_, rfl, p, dx, fs, rfl, hp, n3, _, rfl, g, _, 1, _, rfl, rfl, SqL.of hg0, atI_nat (j := 1) rfl, _, rfl, g, _, 2, _, rfl, rfl, SqL.of hg0, atI_nat (j := 2) rfl, rfl, p, ls, r, h, x, y, x', y', wh x', wh y', rfl, hT, G, R, gx, gy, fx', fy', fx'.thing, fy'.thing, ?_⟩
        cases ro with
        | rounds wf =>
          refine .inr (.inl ⟨wf, fun H' dd s' he σ hσ => ?_⟩)
          obtain ⟨a1, a2, a3, a4, rfl⟩ := st4 hσ
          refine ⟨false, T.xTB, fun q => Bool.noConfusion q, fun _ => ⟨true, T.lowT.te, fun _ a0 ha0 => ?_, fun q => Bool.noConfusion q⟩⟩
          exact ⟨_, rfl, rfl, rfl, dd, _, rfl, he, by show 2 ≤ sizeLine; decide, fun q hq => k _ q (s'.trans (same_new hq)) upd_same⟩
        | hear e1 e2 e3 =>
          refine .inr (.inr ⟨_, e1, e2, e3, fun H' dd s' he σ hσ => ?_⟩)
          obtain ⟨a1, a2, a3, a4, rfl⟩ := st4 hσ
          refine ⟨false, T.xTB, fun q => Bool.noConfusion q, fun _ => ⟨true, T.lowT.te, fun _ a0 ha0 => ?_, fun q => Bool.noConfusion q⟩⟩
          exact ⟨_, rfl, rfl, rfl, dd, _, rfl, he, by show 2 ≤ sizeLine; decide, fun q hq => k _ q (s'.trans (same_new hq)) upd_same⟩
        | ok e1 e2 RR =>
          refine .inl ⟨_, _, e1, e2, RR, fun H' p2 s2 f2 tA => ?_⟩
          exact ⟨_, rfl, by show 2 ≤ sizeLine; decide, fun q hq => k _ q (s2.trans (same_new hq)) ⟨p2, upd_same, tA.keep (same_new hq)⟩⟩
end
end K08

namespace K08
open PySem L2 Wm TL Dv
section
variable {P : Program} {w : World} {K : PySem.W.Frag} {mg : Str → Option Value} {base : Heap}
theorem iteN {c : Bool} {A B : Prop} (e : c = false) (h : B) : if c = true then A else B := by
  rw [e]
  exact iteF h
theorem iteY {c : Bool} {A B : Prop} (e : c = true) (h : A) : if c = true then A else B := by
  rw [e]
  exact iteT h
theorem fine_loop {l : List Box} (h : Bs l) : Fine 6 (loopD l) := fine_tup (n := 5) fun d m => by
  obtain ⟨b, mb, rfl⟩ := List.mem_map.mp m
  exact fine_boxD (h b mb)
theorem fine_nums {l : List Box} (h : Bs l) : Fine 1 (.tuple (l.map numD)) := fine_tup (n := 0) fun d m => by
  obtain ⟨b, mb, rfl⟩ := List.mem_map.mp m
  exact fine_num fun d m => ((h b mb).3 d m).2
theorem Good.loop {ls : List (List Box)} (G : Good ls) {i : Nat} {l : List Box} (hl : ls[i]? = some l) : Bs l := fun b m => G.num b (List.mem_flatten.mpr ⟨l, List.mem_of_getElem? hl, m⟩)
theorem fine_lst {n : Nat} {ds : List PyData} (h : ∀ d ∈ ds, Fine n d) : Fine (n + 1) (.list ds) := by
  have q := fine_tup h
  have q1 := q.1
  have q2 := q.2
  simp only [PyData.canLay0] at q1
  simp only [PyData.depth] at q2
  exact ⟨by simp only [PyData.canLay0]; exact q1, by simp only [PyData.depth]; exact q2⟩
theorem fine_place (i j : Nat) (s : Bool) : Fine 1 (.list [.str (sortS s), .int (i : Nat), .int (j : Nat)]) := fine_lst (n := 0) fun d m => by
  simp only [List.mem_cons, List.not_mem_nil, or_false] at m
  rcases m with rfl | rfl | rfl
  · exact fine_str (by cases s <;> decide +kernel)
  · exact fine_int _
  · exact fine_int _
theorem fine_rules (i j : Int) : Fine 1 (.list [.int i, .int j]) := fine_lst (n := 0) fun d m => by
  simp only [List.mem_cons, List.not_mem_nil, or_false] at m
  rcases m with rfl | rfl
  · exact fine_int _
  · exact fine_int _
theorem LsAt.at {H : Hp} {xs : List V} {ls : List (List Box)} {i : Nat} (el : xs.length = ls.length) (ha : ∀ (i : Nat) v, xs[i]? = some v → ∃ l, ls[i]? = some l ∧ ∃ q2 ys, v = .ref q2 ∧ H q2 = some (.lst ys) ∧ Dts K H ys (l.map boxD)) (hi : i < ls.length) :
    ∃ l q2 ys, ls[i]? = some l ∧ xs[i]? = some (.ref q2) ∧ H q2 = some (.lst ys) ∧ Dts K H ys (l.map boxD) ∧ ys.length = l.length := by
  have hx := List.getElem?_eq_getElem (l := xs) (i := i) (by omega)
  obtain ⟨l, hl, q2, ys, e, h2, hd⟩ := ha i _ hx
  exact ⟨l, q2, ys, hl, by rw [hx, e], h2, hd, boxes_len hd⟩
theorem ins_ty {C : Addr} (cl : Cls K C) (isi : SlX.SIsi K C) {H : Hp} {p dx : Addr} {fs : List (Str × V)} (hp : H p = some (.ins C dx fs)) : TyX K H (.ref p) (.ref C) := .base (.ins hp cl isi.ca isi.cn isi.ct isi.cm)
theorem ok_boxes_told (T : Txt K mg) : FnOk P w K mg base CX0 5 T.a_boxes_told T.d_boxes_told ["_law_town", "_law_loops_here"] (sp_boxes_told K T.C) := by
  refine T.F_boxes_told.ok sc_boxes_told (fun vs H Q E h => ?_) (fun cdv A outer s H vs Q E hr h => ?_)
  · obtain ⟨p, q, ls, r, h, rfl, _⟩ := h
    rfl
  · obtain ⟨p, q, ls, r, h, rfl, hT, G, hL, k⟩ := h
    obtain ⟨xs, hq, el, ha⟩ := id hL
    obtain ⟨dx, fs, y, y2, hp, l1, l2, l3, l4, l5, t, t2⟩ := id hT
    have g2 := G.l2
    have n1 : fs.lookup ("wire" : Str) = none := no_meth "wire" (by decide +kernel) (by decide +kernel) (by decide +kernel) (by decide +kernel) l5
    have n2 : fs.lookup ("sort_of" : Str) = none := no_meth "sort_of" (by decide +kernel) (by decide +kernel) (by decide +kernel) (by decide +kernel) l5
    have n3 : fs.lookup ("loop_of" : Str) = none := no_meth "loop_of" (by decide +kernel) (by decide +kernel) (by decide +kernel) (by decide +kernel) l5
    have n4 : fs.lookup ("place_of" : Str) = none := no_meth "place_of" (by decide +kernel) (by decide +kernel) (by decide +kernel) (by decide +kernel) l5
    have one : ∀ (i : Nat) (l : List Box), ls[i]? = some l → ∀ H1, Same H H1 → ∀ (Q : VK) (E : XK), (∀ H2 qy zs, Same H1 H2 → SqT K H2 qy zs → Dts K H2 zs (l.map boxD) → Q (.ref qy) H2) → sp_wire K T.C T.CL [.ref p, .int (i : Nat)] H1 Q E := fun i l hl H1 s1 Q E hQ =>
      ⟨p, _, some (i : Int), ls, r, h, rfl, hT.keep s1, G, .int _, fun e => (by cases e), fun i2 l2 e hl2 H2 y s2 d => (by
        have e : (i : Int) = (i2 : Nat) := Option.some.inj e
        have e : i = i2 := by omega
        subst e
        rw [hl] at hl2
        cases hl2
        obtain ⟨qy, zs, rfl, h1, h2⟩ := d.inv
        exact hQ _ _ _ s2 h1 h2), fun _ no => (by
        have := no i rfl
        have := (List.getElem?_eq_some_iff.mp hl).1
        omega)⟩
    have all : ∀ H1, Same H H1 → ∀ (Q : VK) (E : XK), (∀ H2 qy zs, Same H1 H2 → SqT K H2 qy zs → Dts K H2 zs (ls.flatten.map boxD) → Q (.ref qy) H2) → sp_wire K T.C T.CL [.ref p, .non] H1 Q E := fun H1 s1 Q E hQ =>
      ⟨p, _, none, ls, r, h, rfl, hT.keep s1, G, .non, fun _ H2 y s2 d => (by
        obtain ⟨qy, zs, rfl, h1, h2⟩ := d.inv
        exact hQ _ _ _ s2 h1 h2), fun i l e => (by cases e), fun z => absurd rfl z⟩
    refine ⟨_, (pss_cons (ps_set (i := 2) sc_boxes_told.nd rfl (Or.inl rfl) (pe_lst pa_nil))
      (pss_cons (ps_for PassesOwn.never rfl (pi_range1 (by rfl) T.z_range (pa_cons (pe_callB call_len_seq (by rfl) T.z_len PySem.boot_len (pa_cons (pv 1) pa_nil)) pa_nil)) (pg_name (i := 3) sc_boxes_told.nd rfl (Or.inl rfl))
        (pss_cons (ps_set (i := 2) sc_boxes_told.nd rfl (Or.inl rfl) (pe_op op_cat (pv 2) (pe_callTy call_list_of (by rfl) T.z_list (by decide +kernel) (pa_cons (pe_ix ix_list (pv 1) (pv 3) (fun _ _ => rfl)) pa_nil))))
        (pss_cons (ps_if (pt_cmpR (op_neD hr.units) (pe_meth (pv 0) T.clC T.m_wire (ok_wire T) (hr.mono (by decide)) T.b_wire .nil Mk1.passF (pa_cons (pv 3) pa_nil)) (pe_callTy call_tuple_of (by rfl) T.z_tuple (by decide +kernel) (pa_cons (pe_ix ix_list (pv 1) (pv 3) (fun _ _ => rfl)) pa_nil)) (nomark _))
          (pss_one (ps_ret pe_bl))
          pss_nil)
        (pss_one (ps_for PassesOwn.never rfl (pi_range1 (by rfl) T.z_range (pa_cons (pe_callB call_len_seq (by rfl) T.z_len PySem.boot_len (pa_cons (pe_ix ix_list (pv 1) (pv 3) (fun _ _ => rfl)) pa_nil)) pa_nil)) (pg_name (i := 4) sc_boxes_told.nd rfl (Or.inl rfl))
          (pss_cons (ps_asg (pe_ix ix_list (pe_ix ix_list (pv 1) (pv 3) (fun _ _ => rfl)) (pv 4) (fun _ _ => rfl)) (pg_tup rfl (pgs_cons (pg_name (i := 5) sc_boxes_told.nd rfl (Or.inl rfl)) (pgs_cons (pg_name (i := 6) sc_boxes_told.nd rfl (Or.inl rfl)) pgs_nil))))
          (pss_one (ps_if (pt_cmpR (op_neD hr.units) (pe_lst (pa_cons (pe_meth (pv 0) T.clC T.m_sort_of (ok_sort_of T) (hr.mono (by decide)) T.b_sort_of .nil Mk1.passF (pa_cons (pv 5) pa_nil)) (pa_cons (pe_meth (pv 0) T.clC T.m_loop_of (ok_loop_of T) (hr.mono (by decide)) T.b_loop_of .nil Mk1.passF (pa_cons (pv 5) pa_nil)) (pa_cons (pe_meth (pv 0) T.clC T.m_place_of (ok_place_of T) (hr.mono (by decide)) T.b_place_of .nil Mk1.passF (pa_cons (pv 5) pa_nil)) pa_nil)))) (pe_lst (pa_cons (pv 6) (pa_cons (pv 3) (pa_cons (pv 4) pa_nil)))) (nomark _))
            (pss_one (ps_ret pe_bl))
            pss_nil))))))))
      (pss_one (ps_ret (pe_cmpR (op_eqD hr.units) (pe_meth0 (pv 0) T.clC T.m_wire (ok_wire T) (hr.mono (by decide)) T.b0_wire T.r_wire Mk1.passF) (pe_callTy call_tuple_of (by rfl) T.z_tuple (by decide +kernel) (pa_cons (pv 2) pa_nil)) (nomark _)))))), ?_⟩
    refine ⟨Nat.zero_le _, fun j0 hj0 => ?_⟩
    have s0 : Same H (upd H j0 (.lst [])) := same_new hj0
    refine ⟨_, rfl, q, xs, rfl, .inl (SqL.of (s0 _ _ hq)), _, rfl, by omega, by omega, ?_⟩
    rw [Int.toNat_natCast]
    refine for_range (fun i σ H' => ∃ jp js v3 v4 v5 v6, σ = [some (.ref p), some (.ref q), some (.ref jp), v3, v4, v5, v6] ∧ H' jp = some (.lst js) ∧ Dts K H' js ((ls.take i).flatten.map boxD) ∧ Same H H') ⟨j0, [], none, none, none, none, rfl, upd_same, by simp; exact .nil, s0⟩ (fun i σ H1 hi hP => ?_) (fun σ H1 hP => ?_)
    · obtain ⟨jp, js, v3, v4, v5, v6, rfl, hj, hjs, s1⟩ := hP
      obtain ⟨l, q2, ys, hl, hx, hq2, hz, ly⟩ := LsAt.at el ha (i := i) (by omega)
      have b2 := G.b2 l (List.mem_of_getElem? hl)
      have fl := flat_le ls i G.b2
      have lj := boxes_len hjs
      have ii : (0 : Int) + (i : Nat) = ((i : Nat) : Int) := Int.zero_add _
      have f := fine_loop (G.loop hl)
      have fe : PyData.eqv (loopD l) (loopD l) = true := f.refl
      have fs' := f.shaped (by decide)
      rw [ii]
      refine ⟨_, rfl, _, rfl, _, rfl, q, xs, ((i : Nat) : Int), _, rfl, rfl, SqL.of (s1 _ _ hq), atI_nat hx, q2, ys, rfl, .inl (SqL.of (s1 _ _ hq2)), fun u0 hu0 => ?_⟩
      have su := same_new (o := .lst ys) hu0
      refine ⟨jp, u0, js, ys, rfl, rfl, su _ _ hj, upd_same, Nat.le_of_lt (small1000 (by omega)), fun n hn => ?_⟩
      have s2 := (s1.trans su).trans (same_new (o := .lst (js ++ ys)) hn)
      have s12 := su.trans (same_new (o := .lst (js ++ ys)) hn)
      have hjs2 : Dts K (upd (upd H1 u0 (.lst ys)) n (.lst (js ++ ys))) (js ++ ys) ((ls.take (i + 1)).flatten.map boxD) := by
        rw [flat_succ hl, List.map_append]
        exact (hjs.k (Kt.same s12)).app ((hz.k (Kt.same s1)).k (Kt.same s12))
      have hn2 : upd (upd H1 u0 (.lst ys)) n (.lst (js ++ ys)) n = some (.lst (js ++ ys)) := upd_same
      generalize upd (upd H1 u0 (.lst ys)) n (.lst (js ++ ys)) = H2 at *
      refine ⟨_, rfl, p, dx, fs, rfl, s2 _ _ hp, n1, _, rfl, ?_⟩
      refine one i l hl _ s2 _ _ fun H3 qy zs s3 hqy hzs => ?_
      have s3' := s2.trans s3
      refine ⟨_, rfl, _, rfl, q, xs, ((i : Nat) : Int), _, rfl, rfl, SqL.of (s3' _ _ hq), atI_nat hx, q2, ys, rfl, .inl ⟨SqL.of (s3' _ _ hq2), fun u hu => ?_⟩⟩
      have s4 := same_new (o := .tup ys) hu
      have hu2 : Dt K (upd H3 u (.tup ys)) (.ref u) (loopD l) := dt_tup upd_same ((hz.k (Kt.same s3')).k (Kt.same s4))
      have hqy4 := sameT s4 hqy
      have hzs4 := hzs.k (Kt.same (K := K) s4)
      generalize upd H3 u (.tup ys) = H4 at *
      have s4' := s3'.trans s4
      have dq : Dt K H4 (.ref qy) (loopD l) := .tup hqy4 hzs4
      refine ⟨_, _, dq.toDp, hu2.toDp, fs', fs', _, rfl, iteN (by rw [fe]; rfl) ?_⟩
      have hn4 := s4 _ _ (s3 _ _ hn2)
      have hjs4 := hjs2.k (Kt.same (K := K) (s3.trans s4))
      refine ⟨_, rfl, _, rfl, q, xs, ((i : Nat) : Int), _, rfl, rfl, SqL.of (s4' _ _ hq), atI_nat hx, q2, ys, rfl, .inl (SqL.of (s4' _ _ hq2)), _, rfl, by omega, by omega, ?_⟩
      rw [Int.toNat_natCast]
      refine for_range (fun j σ H' => ∃ v4 v5 v6, σ = [some (.ref p), some (.ref q), some (.ref n), some (.int (i : Nat)), v4, v5, v6] ∧ Same H4 H') ⟨v4, v5, v6, rfl, Same.refl _⟩ (fun j σ H8 hj hP => ?_) (fun σ H8 hP => ?_)
      · obtain ⟨v4, v5, v6, rfl, s48⟩ := hP
        have s8 := s4'.trans s48
        have jj : (0 : Int) + (j : Nat) = ((j : Nat) : Int) := Int.zero_add _
        have hjy := List.getElem?_eq_getElem (l := ys) (i := j) hj
        obtain ⟨b, hb, tb⟩ := boxes_at hz hjy
        obtain ⟨q3, e3, hq3⟩ := box_inv tb
        rw [e3] at hjy
        have nb := G.num b (in_flat hl hb)
        rw [jj]
        refine ⟨_, rfl, _, rfl, q, xs, ((i : Nat) : Int), _, rfl, rfl, SqL.of (s8 _ _ hq), atI_nat hx, _, rfl, q2, ys, ((j : Nat) : Int), _, rfl, rfl, SqL.of (s8 _ _ hq2), atI_nat hjy, ?_⟩
        refine ⟨q3, _, rfl, sameT s8 hq3, rfl, _, _, rfl, _, _, rfl, rfl, ?_⟩
        refine ⟨_, rfl, p, dx, fs, rfl, s8 _ _ hp, n2, _, rfl, p, _, .str (numS b.1), ls, r, h, rfl, hT.keep s8, G, fun _ _ => .str _, shaped_num nb, fun i2 j2 l2 b2 hl2 hb2 e H9 s9 => ?_, fun no => (not_in G hl hb no).elim⟩
        rw [(pos_eq G.nd hl hb hl2 hb2 (str_eqv e)).2.2]
        have s9' := s8.trans s9
        refine ⟨_, rfl, p, dx, fs, rfl, s9' _ _ hp, n3, _, rfl, p, _, .str (numS b.1), ls, r, h, rfl, hT.keep s9', G, fun _ _ => .str _, shaped_num nb, fun i3 j3 l3 b3 hl3 hb3 e3 H10 s10 => ?_, fun no => (not_in G hl hb no).elim⟩
        rw [(pos_eq G.nd hl hb hl3 hb3 (str_eqv e3)).1]
        have s10' := s9'.trans s10
        refine ⟨_, rfl, p, dx, fs, rfl, s10' _ _ hp, n4, _, rfl, p, _, .str (numS b.1), ls, r, h, rfl, hT.keep s10', G, fun _ _ => .str _, shaped_num nb, fun i5 j5 l6 b5 hl5 hb5 e5 H11 s11 => ?_, fun no => (not_in G hl hb no).elim⟩
        rw [(pos_eq G.nd hl hb hl5 hb5 (str_eqv e5)).2.1]
        have s11' := ((s48.trans s9).trans s10).trans s11
        refine ⟨by show 3 ≤ sizeLine; decide, fun u1 hu1 => ?_⟩
        have s12 := s11'.trans (same_new (o := .lst [V.str (sortS b.2), V.int (i : Nat), V.int (j : Nat)]) hu1)
        have h1 : upd H11 u1 (.lst [V.str (sortS b.2), V.int (i : Nat), V.int (j : Nat)]) u1 = some (.lst [V.str (sortS b.2), V.int (i : Nat), V.int (j : Nat)]) := upd_same
        generalize upd H11 u1 (.lst [V.str (sortS b.2), V.int (i : Nat), V.int (j : Nat)]) = H12 at *
        refine ⟨_, rfl, _, rfl, _, rfl, by show 3 ≤ sizeLine; decide, fun u2 hu2 => ?_⟩
        have f := fine_place i j b.2
        exact ⟨.list [.str (sortS b.2), .int (i : Nat), .int (j : Nat)], .list [.str (sortS b.2), .int (i : Nat), .int (j : Nat)], .lst (SqL.of (at_old h1 hu2)) (.cons (.str _) (.cons (.int _) (.cons (.int _) .nil))), .lst (SqL.of upd_same) (.cons (.str _) (.cons (.int _) (.cons (.int _) .nil))), f.shaped (by decide), f.shaped (by decide), _, rfl, iteN (by rw [show PyData.eqv (.list [.str (sortS b.2), .int (i : Nat), .int (j : Nat)]) (.list [.str (sortS b.2), .int (i : Nat), .int (j : Nat)]) = true from f.refl]; rfl) ⟨_, _, _, rfl, s12.trans (same_new hu2)⟩⟩
      · obtain ⟨v4, v5, v6, rfl, s48⟩ := hP
        exact ⟨n, js ++ ys, _, _, _, _, rfl, s48 _ _ hn4, hjs4.k (Kt.same s48), s4'.trans s48⟩
    · obtain ⟨jp, js, v3, v4, v5, v6, rfl, hj, hjs, s1⟩ := hP
      rw [el, List.take_length] at hjs
      have f := fine_loop (l := ls.flatten) G.num
      have fe : PyData.eqv (loopD ls.flatten) (loopD ls.flatten) = true := f.refl
      have fs' := f.shaped (by decide)
      refine ⟨_, rfl, p, dx, fs, rfl, s1 _ _ hp, n1, ?_⟩
      refine all _ s1 _ _ fun H3 qy zs s3 hqy hzs => ?_
      have s3' := s1.trans s3
      refine ⟨_, rfl, jp, js, rfl, .inl ⟨SqL.of (s3 _ _ hj), fun u hu => ?_⟩⟩
      have s4 := same_new (o := .tup js) hu
      have hu2 : Dt K (upd H3 u (.tup js)) (.ref u) (loopD ls.flatten) := dt_tup upd_same ((hjs.k (Kt.same s3)).k (Kt.same s4))
      have dq : Dt K (upd H3 u (.tup js)) (.ref qy) (loopD ls.flatten) := .tup (sameT s4 hqy) (hzs.k (Kt.same s4))
      refine ⟨_, _, dq.toDp, hu2.toDp, fs', fs', ?_⟩
      rw [fe]
      exact k _ (s3'.trans s4)
theorem ls_ins {H : Hp} {xs : List V} {ls : List (List Box)} (ha : ∀ (i : Nat) v, xs[i]? = some v → ∃ l, ls[i]? = some l ∧ ∃ q2 ys, v = .ref q2 ∧ H q2 = some (.lst ys) ∧ Dts K H ys (l.map boxD)) (i : Nat) (v : V) (hv : xs[i]? = some v) : ∃ l, ls[i]? = some l ∧ LoopIn K H v l := by
  obtain ⟨l, hl, q2, ys2, e, h2, hd⟩ := ha i v hv
  exact ⟨l, hl, q2, ys2, false, e, Kd.Is.lst (SqL.of h2), hd⟩
theorem ok_is (T : Txt K mg) : FnOk P w K mg base CX0 7 T.a_is T.d_is ["_law_town", "_law_loops_here", "_law_rules_here"] (sp_is K T.C) := by
  refine T.F_is.ok sc_is (fun vs H Q E h => ?_) (fun cdv A outer s H vs Q E hr h => ?_)
  · obtain ⟨p, q, t, ls, r, h, rfl, _⟩ := h
    rfl
  · obtain ⟨p, q, t, ls, r, h, rfl, hT, G, R, hL, ht, k⟩ := h
    obtain ⟨dx, fs, y, y2, hp, l1, l2, l3, l4, l5, tt, tt2⟩ := id hT
    have g2 := G.l2
    have fT := fine_town G
    have fs' := fT.shaped (by decide)
    have fN := fine_nums (l := ls.flatten) G.num
    have fi := fine_rules r h
    refine ⟨_, (pss_cons (ps_if (PW.pt (pw_or (pt_not (pt_val (pe_callB call_isi (by rfl) T.z_isinstance (by decide +kernel) (pa_cons (pv 0) (pa_cons (pe_glob (v := V.ref T.C) rfl T.gC rfl) pa_nil))))) (pw_or1 (pt_cmpR (On.op_ne T.ne ((ok_eq T).raw T.b_eq .nil) (hr.mono (by decide)) hr.units pass0) (pv 0) (pe_makeK T.mk_init (ok_init T) (hr.mono (by decide)) (by rfl) T.gC T.kb2 Mk1.passF (pa_cons (pv 1) pa_nil) (pk_cons (pe_ix ix_list (pv 2) pe_int (fun _ _ => rfl)) (pk_cons (pe_ix ix_list (pv 2) pe_int (fun _ _ => rfl)) pk_nil))) (nomark _)))))
        (pss_one (ps_ret pe_bl))
        pss_nil)
      (pss_cons (ps_if (PW.pt (pw_or (pt_cmpR (op_neD hr.units) (pe_fld (pv 0) rfl) (pe_call (ok_told T) (hr.mono (by decide)) (by rfl) T.g_told T.F_told.kp T.b_told .nil pass0 (pa_cons (pv 1) pa_nil)) (nomark _)) (pw_or1 (pt_cmpR (op_neD hr.units) (pe_fld (pv 0) rfl) (pe_callTy call_tuple_of (by rfl) T.z_tuple (by decide +kernel) (pa_cons (pe_call (ok_names T) (hr.mono (by decide)) (by rfl) T.g_names T.F_names.kp T.b_names .nil pass0 (pa_cons (pv 1) pa_nil)) pa_nil)) (nomark _)))))
        (pss_one (ps_ret pe_bl))
        pss_nil)
      (pss_one (ps_ret (pe_and (pe_cmpR (op_eqD hr.units) (pe_lst (pa_cons (pe_fld (pv 0) rfl) (pa_cons (pe_fld (pv 0) rfl) pa_nil))) (pv 2) (nomark _)) (pe_one (pe_call (ok_boxes_told T) (hr.mono (by decide)) (by rfl) T.g_boxes_told T.F_boxes_told.kp T.b_boxes_told .nil pass0 (pa_cons (pv 0) (pa_cons (pv 1) pa_nil))))))))), ?_⟩
    refine ⟨_, rfl, _, _, _, _, true, rfl, .own T.C, ins_ty T.clC T.isi hp, T.kS, true, rfl, iteF ?_⟩
    refine ⟨_, rfl, _, rfl, _, rfl, t, _, 0, _, rfl, rfl, SqL.of ht, atI_nat (j := 0) rfl, _, rfl, t, _, 1, _, rfl, rfl, SqL.of ht, atI_nat (j := 1) rfl, rfl, rfl, fun pA dy hpA hdy ne => ?_⟩
    have sm := made (C := T.C) hpA hdy ne
    refine .inl ⟨pA, dy, .ref q, ls, r, h, rfl, upd_same, (hL.keep sm).inTown, G, R.r1, R.r8, R.h1, R.h2, R.hr, fun H1 off tA => ⟨rfl, ?_⟩⟩
    have s1 := made_off hpA hdy ne off
    obtain ⟨dxA, fsA, yA, yA2, hpA1, _⟩ := id tA
    have te : (PyData.eqv (townD ls) (townD ls) && (decide (V.int r = V.int r) && decide (V.int h = V.int h))) = true := by
      rw [fT.refl, decide_eq_true rfl, decide_eq_true rfl]
      rfl
    refine ⟨p, dx, fs, pA, dxA, fsA, rfl, rfl, s1 _ _ hp, hpA1, p, .ref pA, ls, r, h, rfl, hT.keep s1, G, .inl ⟨pA, ls, r, h, rfl, tA, G, _, rfl, _, rfl, iteN (by rw [te]; rfl) ?_⟩⟩
    obtain ⟨xs, hq, el, ha⟩ := hL.keep s1
    refine ⟨_, rfl, p, T.C, dx, fs, _, rfl, s1 _ _ hp, T.clC, T.nL, l1, _, rfl, q, xs, ls, rfl, SqL.of hq, el, ls_ins ha, by omega, fun H2 y5 s2 d5 => ?_⟩
    have s12 := s1.trans s2
    refine ⟨_, _, (tt.k (Kt.same s12)).toDp, d5.toDp, fs', fs', _, rfl, iteN (by rw [fT.refl]; rfl) ?_⟩
    refine ⟨_, rfl, p, T.C, dx, fs, _, rfl, s12 _ _ hp, T.clC, T.nN, l4, _, rfl, q, ls, rfl, hL.keep s12, G, fun H3 nm s3 f3 h3 => ⟨nm, _, rfl, .inl ⟨SqL.of h3, fun u hu => ?_⟩⟩⟩
    have s13 := s12.trans s3
    have s4 := same_new (o := .tup (ls.flatten.map numV)) hu
    have s14 := s13.trans s4
    refine ⟨_, _, (tt2.k (Kt.same s14)).toDp, (Dt.tup (SqT.of upd_same) (dts_nums _)).toDp, fN.shaped (by decide), fN.shaped (by decide), _, rfl, iteN (by rw [fN.refl]; rfl) ?_⟩
    generalize upd H3 u (.tup (ls.flatten.map numV)) = H4 at *
    refine ⟨_, rfl, p, T.C, dx, fs, _, rfl, s14 _ _ hp, T.clC, T.nR, l2, _, rfl, p, T.C, dx, fs, _, rfl, s14 _ _ hp, T.clC, T.nH, l3, by show 2 ≤ sizeLine; decide, fun u1 hu1 => ?_⟩
    have s5 := s14.trans (same_new (o := .lst [.int r, .int h]) hu1)
    refine ⟨_, rfl, .list [.int r, .int h], .list [.int r, .int h], .lst (SqL.of upd_same) (.cons (.int _) (.cons (.int _) .nil)), .lst (SqL.of (s5 _ _ ht)) (.cons (.int _) (.cons (.int _) .nil)), fi.shaped (by decide), fi.shaped (by decide), _, rfl, iteY (by rw [show PyData.eqv (.list [.int r, .int h]) (.list [.int r, .int h]) = true from fi.refl]) ?_⟩
    exact ⟨_, rfl, _, rfl, p, q, ls, r, h, rfl, hT.keep s5, G, hL.keep s5, fun H' s' => k _ (s5.trans s')⟩
end
end K08

namespace K08
open PySem L2 Wm TL Dv
section
variable {P : Program} {w : World} {K : PySem.W.Frag} {mg : Str → Option Value} {base : Heap}
theorem do_good {c : Str} {x y : V} {ls ls2 : List (List Box)} {r h : Int} (G : Good ls) (d : DO c x y ls r h (.loops ls2)) : Good ls2 := by
  cases d with
  | rules _ _ _ _ _ ro => cases ro
  | @sort i j l b s _ hl hb _ _ => exact good_set (c := (b.1, s)) G hl hb (G.num b (in_flat hl hb)) (.inl rfl)
  | number _ hl hb _ N _ ok => exact good_set G hl hb N ok
theorem do_rul {c : Str} {x y : V} {ls : List (List Box)} {r h i j : Int} (d : DO c x y ls r h (.rules i j)) : Rul i j := by
  cases d with
  | rules _ _ _ _ _ ro =>
    cases ro with
    | ok _ _ R => exact R
theorem TownAt.but {C : Addr} {H H' : Hp} {p b : Addr} {n : Nat} {ls : List (List Box)} {r h : Int} (bag : Bag H b n) (e : But b H H') (q : TownAt K C H p ls r h) : TownAt K C H' p ls r h := by
  obtain ⟨dx, fs, y, y2, hp, l1, l2, l3, l4, l5, t, t2⟩ := q
  have pb : p ≠ b := fun z => by
    obtain ⟨_, _, _, _, _, _, hb, _⟩ := bag
    rw [z, hb] at hp
    cases hp
  exact ⟨dx, fs, y, y2, e.keep _ _ pb hp, l1, l2, l3, l4, l5, t.k (Lm.kt_but bag e), t2.k (Lm.kt_but bag e)⟩
theorem LsO.same {H H' : Hp} {q b : Addr} {n : Nat} {ls : List (List Box)} (bag : Bag H b n) (h : LsO K b H q ls) (s : Same H H') : LsO K b H' q ls := h.but bag (But.of s)
/-- what the law holds at the top of its loop -/
structure Stt (K : PySem.W.Frag) (C b q t p : Addr) (ls : List (List Box)) (r h : Int) (H : Hp) : Prop where
  g : Good ls
  R : Rul r h
  tA : TownAt K C H p ls r h
  l : LsO K b H q ls
  n : t ≠ b
  e : H t = some (.lst [.int r, .int h])
theorem Stt.but {C b q t p : Addr} {ls : List (List Box)} {r h : Int} {H H' : Hp} {n : Nat} (s : Stt K C b q t p ls r h H) (bag : Bag H b n) (e : But b H H') : Stt K C b q t p ls r h H' :=
  ⟨s.g, s.R, s.tA.but bag e, s.l.but bag e, s.n, e.keep _ _ s.n s.e⟩
theorem ok_law (T : Txt K mg) : Rp.GOk P w K mg base CX0 11 T.a_law T.d_law ["_law_script"] (sp_law K) := by
  refine Rp.gok T.F_law sc_law (fun vs H Q E h => ?_) (fun cdv A outer s H vs Q E hg hr h => ?_)
  · obtain ⟨a, ns, rfl, _⟩ := h
    rfl
  · obtain ⟨a, ns, rfl, hS, hl, k⟩ := h
    refine ⟨_, (pss_cons (ps_set (i := 1) sc_law.nd rfl (Or.inl rfl) (pe_call (ok_bag T) (hr.mono (by decide)) (by rfl) T.g_bag T.F_bag.kp T.b_bag .nil pass0 (pa_cons (pv 0) pa_nil)))
      (pss_cons (ps_set (i := 2) sc_law.nd rfl (Or.inl rfl) (pe_call (ok_loops T) (hr.mono (by decide)) (by rfl) T.g_loops T.F_loops.kp T.b_loops .nil pass0 (pa_cons (pv 1) pa_nil)))
      (pss_cons (ps_set (i := 3) sc_law.nd rfl (Or.inl rfl) (pe_call (ok_rules T) (hr.mono (by decide)) (by rfl) T.g_rules T.F_rules.kp T.b_rules .nil pass0 (pa_cons (pv 1) pa_nil)))
      (pss_cons (ps_set (i := 4) sc_law.nd rfl (Or.inl rfl) (pe_makeK T.mk_init (ok_init T) (hr.mono (by decide)) (by rfl) T.gC T.kb2 Mk1.passF (pa_cons (pv 2) pa_nil) (pk_cons (pe_ix ix_list (pv 3) pe_int (fun _ _ => rfl)) (pk_cons (pe_ix ix_list (pv 3) pe_int (fun _ _ => rfl)) pk_nil))))
      (pss_cons (ps_for PassesOwn.never rfl (pi_range1 (by rfl) T.z_range (pa_cons (pe_op op_add pe_int (pe_call (ok_draw T) (hr.mono (by decide)) (by rfl) T.g_draw T.F_draw.kp T.b_draw .nil pass0 (pa_cons (pv 1) (pa_cons pe_int pa_nil)))) pa_nil)) (pg_name (i := 5) sc_law.nd rfl (Or.inl rfl))
        (pss_cons (ps_set (i := 6) sc_law.nd rfl (Or.inl rfl) (pe_call (ok_change T) (hr.mono (by decide)) (by rfl) T.g_change T.F_change.kp T.b_change .nil pass0 (pa_cons (pv 1) (pa_cons (pv 2) pa_nil))))
        (pss_cons (ps_set (i := 7) sc_law.nd rfl (Or.inl rfl) (Rp.pe_gcall (ok_due T) hg (hr.mono (by decide)) rfl T.g_due T.F_due.kp T.b_due .nil pass0 (pa_cons (pv 6) (pa_cons (pv 2) (pa_cons (pv 3) pa_nil)))))
        (pss_cons (ps_set (i := 8) sc_law.nd rfl (Or.inl rfl) (Rp.pe_gcall (ok_done T) hg (hr.mono (by decide)) rfl T.g_done T.F_done.kp T.b_done .nil pass0 (pa_cons (pv 4) (pa_cons (pv 6) pa_nil))))
        (pss_cons (ps_if (pt_not (pt_val (pe_call (ok_is T) (hr.mono (by decide)) (by rfl) T.g_is T.F_is.kp T.b_is .nil pass0 (pa_cons (pv 4) (pa_cons (pv 2) (pa_cons (pv 3) pa_nil))))))
          (pss_one (ps_ret pe_bl))
          pss_nil)
        (pss_one (ps_if (PW.pt (pw_or (pt_cmpR op_eq (pe_ix ix_tup (pv 7) pe_int (fun _ _ => rfl)) pe_str (nomark _)) (pw_or1 (pt_cmpR op_eq (pe_ix ix_tup (pv 7) pe_int (fun _ _ => rfl)) pe_str (nomark _)))))
          (pss_one (ps_if (pt_cmpR (Ne2.op_ne2 hr.units) (pv 8) (pv 7) (nomark _))
            (pss_one (ps_ret pe_bl))
            pss_nil))
          (pss_cons (ps_if (pt_cmpR op_ne (pe_ix ix_tup (pv 8) pe_int (fun _ _ => rfl)) pe_str (nomark _))
            (pss_one (ps_ret pe_bl))
            pss_nil)
          (pss_cons (ps_set (i := 9) sc_law.nd rfl (Or.inl rfl) (pe_lst (pa_cons (pv 2) (pa_cons (pv 3) pa_nil))))
          (C8.pss_cut (ps_if (pt_cmpR op_eq (pe_ix ix_tup (pv 7) pe_int (fun _ _ => rfl)) pe_str (nomark _))
            (pss_one (ps_set (i := 3) sc_law.nd rfl (Or.inl rfl) (pe_ix ix_tup (pv 7) pe_int (fun _ _ => rfl))))
            (pss_one (ps_set (i := 2) sc_law.nd rfl (Or.inl rfl) (pe_ix ix_tup (pv 7) pe_int (fun _ _ => rfl)))))
          (pss_cons (ps_if (PW.pt (pw_or (pt_not (pt_val (pe_call (ok_is T) (hr.mono (by decide)) (by rfl) T.g_is T.F_is.kp T.b_is .nil pass0 (pa_cons (pe_ix ix_tup (pv 8) pe_int (fun _ _ => rfl)) (pa_cons (pv 2) (pa_cons (pv 3) pa_nil)))))) (pw_or1 (pt_not (pt_val (pe_call (ok_is T) (hr.mono (by decide)) (by rfl) T.g_is T.F_is.kp T.b_is .nil pass0 (pa_cons (pv 4) (pa_cons (pe_ix ix_list (pv 9) pe_int (fun _ _ => rfl)) (pa_cons (pe_ix ix_list (pv 9) pe_int (fun _ _ => rfl)) pa_nil)))))))))
            (pss_one (ps_ret pe_bl))
            pss_nil)
          (pss_one (ps_set (i := 4) sc_law.nd rfl (Or.inl rfl) (pe_ix ix_tup (pv 8) pe_int (fun _ _ => rfl)))))))))))))))
      (pss_one (ps_ret (pe_call (ok_is T) (hr.mono (by decide)) (by rfl) T.g_is T.F_is.kp T.b_is .nil pass0 (pa_cons (Mk1.pe_methN (pv 4) T.clC T.m_with_rules (ok_with_rules T) (hr.mono (by decide)) T.kw0 Mk1.passF pk_nil) (pa_cons (pv 2) (pa_cons (pv 3) pa_nil))))))))))), ?_⟩
    refine ⟨_, rfl, a, ns, rfl, hS, hl, fun H1 b s1 bag1 => ?_⟩
    refine ⟨_, rfl, b, 0, rfl, bag1, by omega, fun H2 q1 xs1 ls1 G1 f1 hq1 el1 ha1 bag2 but2 => ?_⟩
    have L1 := lsN_new bag1 ⟨xs1, f1, hq1, el1, ha1⟩
    refine ⟨_, rfl, b, _, rfl, bag2, by omega, fun H3 r1 ra ha ra1 ra8 hb1 hb2 hbr f3 h3 bag3 but3 => ?_⟩
    have L1 := L1.but bag2 but3
    have r1b := Lm.bag_off bag2 f3
    refine ⟨_, rfl, _, rfl, r1, _, 0, _, rfl, rfl, SqL.of h3, atI_nat (j := 0) rfl, _, rfl, r1, _, 1, _, rfl, rfl, SqL.of h3, atI_nat (j := 1) rfl, rfl, rfl, fun pA dx hp hd ne => ?_⟩
    have sm := made (C := T.C) hp hd ne
    refine .inl ⟨pA, dx, .ref q1, ls1, ra, ha, rfl, upd_same, (L1.at.keep sm).inTown, G1, ra1, ra8, hb1, hb2, hbr, fun H7 off tA => ⟨rfl, ?_⟩⟩
    have s7 := made_off hp hd ne off
    have st : Stt K T.C b q1 r1 pA ls1 ra ha H7 := ⟨G1, ⟨ra1, ra8, hb1, hb2, hbr⟩, tA, L1.same bag3 s7, r1b, s7 _ _ h3⟩
    have bag7 := bag3.keep s7
    refine ⟨_, rfl, b, _, 8, rfl, by decide, by decide, bag7, by omega, fun H8 d d0 d8 bag8 but8 => ?_⟩
    obtain ⟨m, rfl⟩ : ∃ m : Nat, d = (m : Int) := ⟨d.toNat, by omega⟩
    refine ⟨_, _, rfl, rfl, _, rfl, by omega, by omega, ?_⟩
    rw [show ((1 : Int) + (m : Int)).toNat = m + 1 by omega]
    refine for_range (fun i σ H' => ∃ q t p ls r h v5 v6 v7 v8 v9, σ = [some (.ref a), some (.ref b), some (.ref q), some (.ref t), some (.ref p), v5, v6, v7, v8, v9] ∧ Stt K T.C b q t p ls r h H' ∧ Bag H' b (2000 + 100 * i))
      ⟨q1, r1, pA, ls1, ra, ha, none, none, none, none, none, rfl, st.but bag7 but8, bag8.mono (by omega)⟩ (fun i σ H9 hi hP => ?_) (fun σ H9 hP => ?_)
    · obtain ⟨q, t, p, ls, r, h, v5, v6, v7, v8, v9, rfl, st, bag9⟩ := hP
      refine ⟨_, rfl, _, rfl, b, _, q, ls, rfl, bag9, by omega, st.l, st.g, fun H10 g c x y hc fx fy fg hg bag10 but10 => ?_⟩
      have st := st.but bag9 but10
      refine ⟨_, rfl, _, rfl, _, rfl, g, q, t, c, x, y, ls, r, h, rfl, hg, hc, fx, fy, st.l.at, st.g, st.e, st.R, fun H11 u o s11 dO to fu => ?_⟩
      have st0 := st
      have st := st.but bag10 (But.of s11)
      have bag11 := bag10.keep s11
      refine ⟨_, rfl, _, rfl, p, g, c, x, y, ls, r, h, o, rfl, st.tA, st.g, st.R, s11 _ _ hg, hc, fx, fy, dO, fun H12 w s12 dn => ?_⟩
      have st := st.but bag11 (But.of s12)
      have bag12 := bag11.keep s12
      refine ⟨_, rfl, _, rfl, _, rfl, p, q, t, ls, r, h, rfl, st.tA, st.g, st.R, st.l.at, st.e, fun H13 s13 => ⟨true, rfl, iteF ?_⟩⟩
      have st := st.but bag12 (But.of s13)
      have bag13 := bag12.keep s13
      have s1213 := s12.trans s13
      cases o with
      | none xx =>
        have hu := SqT.of (K := K) (s1213 _ _ to)
        have hw := SqT.of (K := K) (s13 _ _ dn)
        refine ⟨_, rfl, u, _, 0, _, rfl, rfl, hu, atI_nat (j := 0) rfl, rfl, _, rfl, ite2 (fun _ => iteT ?_) (fun c => absurd (decide_eq_true rfl) c)⟩
        exact ⟨_, rfl, _, rfl, w, u, _, _, rfl, rfl, hw, hu, _, rfl, iteF ⟨q, t, p, ls, r, h, _, _, _, _, _, rfl, st, bag13.mono (by omega)⟩⟩
      | bad ww =>
        have hu := SqT.of (K := K) (s1213 _ _ to)
        have hw := SqT.of (K := K) (s13 _ _ dn)
        refine ⟨_, rfl, u, _, 0, _, rfl, rfl, hu, atI_nat (j := 0) rfl, rfl, _, rfl, ite2 (fun c0 => absurd (V.str.inj (of_decide_eq_true c0)) (by decide +kernel)) (fun _ => ?_)⟩
        refine ⟨_, rfl, u, _, 0, _, rfl, rfl, hu, atI_nat (j := 0) rfl, rfl, _, rfl, ite2 (fun _ => ?_) (fun c => absurd (decide_eq_true rfl) c)⟩
        exact ⟨_, rfl, _, rfl, w, u, _, _, rfl, rfl, hw, hu, _, rfl, iteF ⟨q, t, p, ls, r, h, _, _, _, _, _, rfl, st, bag13.mono (by omega)⟩⟩
      | loops ls2 =>
        obtain ⟨q2, to1, to2⟩ := to
        obtain ⟨p2, dn1, dn2⟩ := dn
        have G2 := do_good st.g dO
        have hu := SqT.of (K := K) (s1213 _ _ to1)
        have hw := SqT.of (K := K) (s13 _ _ dn1)
        have L2 := (lsN_new bag10 to2).same bag11 s1213
        have t2 := dn2.keep s13
        refine ⟨_, rfl, u, _, 0, _, rfl, rfl, hu, atI_nat (j := 0) rfl, rfl, _, rfl, ite2 (fun c0 => absurd (V.str.inj (of_decide_eq_true c0)) (by decide +kernel)) (fun _ => ?_)⟩
        refine ⟨_, rfl, u, _, 0, _, rfl, rfl, hu, atI_nat (j := 0) rfl, rfl, _, rfl, ite2 (fun c0 => absurd (V.str.inj (of_decide_eq_true c0)) (by decide +kernel)) (fun _ => ?_)⟩
        refine ⟨_, rfl, w, _, 0, _, rfl, rfl, hw, atI_nat (j := 0) rfl, rfl, _, rfl, ite2 (fun c => absurd c (by simp)) (fun _ => ?_)⟩
        refine ⟨_, rfl, _, rfl, by show 2 ≤ sizeLine; decide, fun v hv => ?_⟩
        have s14 := same_new (o := .lst [.ref q, .ref t]) hv
        have hv2 : upd H13 v (.lst [.ref q, .ref t]) v = some (.lst [.ref q, .ref t]) := upd_same
        generalize upd H13 v (.lst [.ref q, .ref t]) = H14 at *
        have st := st.but bag13 (But.of s14)
        have bag14 := bag13.keep s14
        have hu := sameT s14 hu
        have hw := sameT s14 hw
        have L2 := L2.same bag13 s14
        have t2 := t2.keep s14
        refine ⟨fun σ A => σ = [some (.ref a), some (.ref b), some (.ref q2), some (.ref t), some (.ref p), some (.int (0 + (i : Nat))), some (.ref g), some (.ref u), some (.ref w), some (.ref v)] ∧ A = H14, ?_, ?_⟩
        · refine ⟨_, rfl, u, _, 0, _, rfl, rfl, hu, atI_nat (j := 0) rfl, rfl, _, rfl, ite2 (fun c0 => absurd (V.str.inj (of_decide_eq_true c0)) (by decide +kernel)) (fun _ => ?_)⟩
          exact ⟨_, rfl, u, _, 1, _, rfl, rfl, hu, atI_nat (j := 1) rfl, rfl, rfl⟩
        rintro σ A ⟨rfl, rfl⟩
        refine ⟨_, rfl, w, _, 1, _, rfl, rfl, hw, atI_nat (j := 1) rfl, _, rfl, _, rfl, p2, q2, t, ls2, r, h, rfl, t2, G2, st.R, L2.at, st.e, fun H15 s15 => ⟨true, rfl, iteF ?_⟩⟩
        have st := st.but bag14 (But.of s15)
        have bag15 := bag14.keep s15
        refine ⟨_, rfl, _, rfl, v, _, 0, _, rfl, rfl, SqL.of (s15 _ _ hv2), atI_nat (j := 0) rfl, _, rfl, v, _, 1, _, rfl, rfl, SqL.of (s15 _ _ hv2), atI_nat (j := 1) rfl, p, q, t, ls, r, h, rfl, st.tA, st.g, st.R, st.l.at, st.e, fun H16 s16 => ⟨true, rfl, iteF ?_⟩⟩
        have st := st.but bag15 (But.of s16)
        have bag16 := bag15.keep s16
        have s1416 := s15.trans s16
        refine ⟨_, rfl, w, _, 1, _, rfl, rfl, sameT s1416 hw, atI_nat (j := 1) rfl, ?_⟩
        exact ⟨q2, t, p2, ls2, r, h, _, _, _, _, _, rfl, ⟨G2, st.R, t2.keep s1416, L2.same bag14 s1416, st.n, st.e⟩, bag16.mono (by omega)⟩
      | rules i2 j2 =>
        obtain ⟨r2, to1, to2, to3⟩ := to
        obtain ⟨p2, dn1, dn2⟩ := dn
        have R2 := do_rul dO
        have hu := SqT.of (K := K) (s1213 _ _ to1)
        have hw := SqT.of (K := K) (s13 _ _ dn1)
        have e2 := s1213 _ _ to3
        have r2b := Lm.bag_off bag10 to2
        have t2 := dn2.keep s13
        refine ⟨_, rfl, u, _, 0, _, rfl, rfl, hu, atI_nat (j := 0) rfl, rfl, _, rfl, ite2 (fun c0 => absurd (V.str.inj (of_decide_eq_true c0)) (by decide +kernel)) (fun _ => ?_)⟩
        refine ⟨_, rfl, u, _, 0, _, rfl, rfl, hu, atI_nat (j := 0) rfl, rfl, _, rfl, ite2 (fun c0 => absurd (V.str.inj (of_decide_eq_true c0)) (by decide +kernel)) (fun _ => ?_)⟩
        refine ⟨_, rfl, w, _, 0, _, rfl, rfl, hw, atI_nat (j := 0) rfl, rfl, _, rfl, ite2 (fun c => absurd c (by simp)) (fun _ => ?_)⟩
        refine ⟨_, rfl, _, rfl, by show 2 ≤ sizeLine; decide, fun v hv => ?_⟩
        have s14 := same_new (o := .lst [.ref q, .ref t]) hv
        have hv2 : upd H13 v (.lst [.ref q, .ref t]) v = some (.lst [.ref q, .ref t]) := upd_same
        generalize upd H13 v (.lst [.ref q, .ref t]) = H14 at *
        have st := st.but bag13 (But.of s14)
        have bag14 := bag13.keep s14
        have hu := sameT s14 hu
        have hw := sameT s14 hw
        have e2 := s14 _ _ e2
        have t2 := t2.keep s14
        refine ⟨fun σ A => σ = [some (.ref a), some (.ref b), some (.ref q), some (.ref r2), some (.ref p), some (.int (0 + (i : Nat))), some (.ref g), some (.ref u), some (.ref w), some (.ref v)] ∧ A = H14, ?_, ?_⟩
        · refine ⟨_, rfl, u, _, 0, _, rfl, rfl, hu, atI_nat (j := 0) rfl, rfl, _, rfl, ite2 (fun _ => ?_) (fun c => absurd (decide_eq_true rfl) c)⟩
          exact ⟨_, rfl, u, _, 1, _, rfl, rfl, hu, atI_nat (j := 1) rfl, rfl, rfl⟩
        rintro σ A ⟨rfl, rfl⟩
        refine ⟨_, rfl, w, _, 1, _, rfl, rfl, hw, atI_nat (j := 1) rfl, _, rfl, _, rfl, p2, q, r2, ls, i2, j2, rfl, t2, st.g, R2, st.l.at, e2, fun H15 s15 => ⟨true, rfl, iteF ?_⟩⟩
        have st := st.but bag14 (But.of s15)
        have bag15 := bag14.keep s15
        refine ⟨_, rfl, _, rfl, v, _, 0, _, rfl, rfl, SqL.of (s15 _ _ hv2), atI_nat (j := 0) rfl, _, rfl, v, _, 1, _, rfl, rfl, SqL.of (s15 _ _ hv2), atI_nat (j := 1) rfl, p, q, t, ls, r, h, rfl, st.tA, st.g, st.R, st.l.at, st.e, fun H16 s16 => ⟨true, rfl, iteF ?_⟩⟩
        have st := st.but bag15 (But.of s16)
        have bag16 := bag15.keep s16
        have s1416 := s15.trans s16
        refine ⟨_, rfl, w, _, 1, _, rfl, rfl, sameT s1416 hw, atI_nat (j := 1) rfl, ?_⟩
        exact ⟨q, r2, p2, ls, i2, j2, _, _, _, _, _, rfl, ⟨st.g, R2, t2.keep s1416, st.l, r2b, s1416 _ _ e2⟩, bag16.mono (by omega)⟩
    · obtain ⟨q, t, p, ls, r, h, v5, v6, v7, v8, v9, rfl, st, bag9⟩ := hP
      obtain ⟨dx, fs, yl, y2, hp, l1, l2, l3, l4, l5, tt, tt2⟩ := id st.tA
      have n3 : fs.lookup ("with_rules" : Str) = none := no_meth "with_rules" (by decide +kernel) (by decide +kernel) (by decide +kernel) (by decide +kernel) l5
      have R := st.R
      refine ⟨_, rfl, p, dx, fs, rfl, hp, n3, rfl, p, ls, r, h, .non, .non, .int r, .int h, some r, some h, rfl, st.tA, st.g, R, .inl ⟨rfl, rfl⟩, .inl ⟨rfl, rfl⟩, .int (by have := R.r1; have := R.r8; omega), .int (by have := R.h1; have := R.h2; omega), .int _, .int _, .inl ⟨r, h, rfl, rfl, R, fun H' p2 s' f' tA => ?_⟩⟩
      exact ⟨_, rfl, _, rfl, p2, q, t, ls, r, h, rfl, tA, st.g, R, st.l.at.keep s', s' _ _ st.e, fun H'' s'' => k _⟩
end
end K08

namespace K08
open PySem L2 Wm TL Dv PySem.W
theorem ns_ok {K : PySem.W.Frag} {oN : Addr} {oc1 : Value} {od1 : Option Addr} {oes : Array DictEntry} {oex : Nat} {osl : Array (Option Value)} (ol : K.lookup oN = some ⟨oc1, od1, .dict oes oex, osl⟩) (on : (oes.toList.all fun e => match e.key with | .str _ _ => true | _ => false) = true) : PySem.W.nsOkIn K oN = true := by
  unfold PySem.W.nsOkIn
  rw [ol]
  show (oes.all fun e => match e.key with | .str _ _ => true | _ => false) = true
  rw [← Array.all_toList]
  exact on
theorem all_mk {l : PySem.W.OpenLaw} {w : World} {K : PySem.W.Frag} {h : Heap} {mg : Str → Option Value} {fa : Addr} (X : K.In h) (G : h.Ns mainGlobals mg) (hfa : mg "law" = some (.ref fa))
    {xC : Addr}
    (axC : PySem.W.nsIn K mainGlobals "Town" = some (some (.ref xC)))
    {x_is_whole : Addr} {od_is_whole an_is_whole : Option Addr} {sl_is_whole : Array (Option Value)} {oc_is_whole dc_is_whole pm_is_whole cd_is_whole ct_is_whole : Value}
    {kV_is_whole : Value}
    (a_is_whole : PySem.W.nsIn K mainGlobals "is_whole" = some (some (.ref x_is_whole)))
    (l_is_whole : K.lookup x_is_whole = some ⟨oc_is_whole, od_is_whole, .func (PySem.W.fnOf "is_whole" "is_whole" (defArgs s_is_whole) (defBody s_is_whole) (defScope s_is_whole) .none kV_is_whole dc_is_whole pm_is_whole an_is_whole cd_is_whole ct_is_whole), sl_is_whole⟩)
    (c_is_whole : PySem.W.codeIn K cd_is_whole "is_whole" = true)
    (k_is_whole : PySem.W.keepIn K (.ref x_is_whole) = true)
    {x_is_whole_within : Addr} {od_is_whole_within an_is_whole_within : Option Addr} {sl_is_whole_within : Array (Option Value)} {oc_is_whole_within dc_is_whole_within pm_is_whole_within cd_is_whole_within ct_is_whole_within : Value}
    {kV_is_whole_within : Value}
    (a_is_whole_within : PySem.W.nsIn K mainGlobals "is_whole_within" = some (some (.ref x_is_whole_within)))
    (l_is_whole_within : K.lookup x_is_whole_within = some ⟨oc_is_whole_within, od_is_whole_within, .func (PySem.W.fnOf "is_whole_within" "is_whole_within" (defArgs s_is_whole_within) (defBody s_is_whole_within) (defScope s_is_whole_within) .none kV_is_whole_within dc_is_whole_within pm_is_whole_within an_is_whole_within cd_is_whole_within ct_is_whole_within), sl_is_whole_within⟩)
    (c_is_whole_within : PySem.W.codeIn K cd_is_whole_within "is_whole_within" = true)
    (k_is_whole_within : PySem.W.keepIn K (.ref x_is_whole_within) = true)
    {x_is_sequence : Addr} {od_is_sequence an_is_sequence : Option Addr} {sl_is_sequence : Array (Option Value)} {oc_is_sequence dc_is_sequence pm_is_sequence cd_is_sequence ct_is_sequence : Value}
    {kV_is_sequence : Value}
    (a_is_sequence : PySem.W.nsIn K mainGlobals "is_sequence" = some (some (.ref x_is_sequence)))
    (l_is_sequence : K.lookup x_is_sequence = some ⟨oc_is_sequence, od_is_sequence, .func (PySem.W.fnOf "is_sequence" "is_sequence" (defArgs s_is_sequence) (defBody s_is_sequence) (defScope s_is_sequence) .none kV_is_sequence dc_is_sequence pm_is_sequence an_is_sequence cd_is_sequence ct_is_sequence), sl_is_sequence⟩)
    (c_is_sequence : PySem.W.codeIn K cd_is_sequence "is_sequence" = true)
    (k_is_sequence : PySem.W.keepIn K (.ref x_is_sequence) = true)
    {x_is_number : Addr} {od_is_number an_is_number : Option Addr} {sl_is_number : Array (Option Value)} {oc_is_number dc_is_number pm_is_number cd_is_number ct_is_number : Value}
    {kV_is_number : Value}
    (a_is_number : PySem.W.nsIn K mainGlobals "is_number" = some (some (.ref x_is_number)))
    (l_is_number : K.lookup x_is_number = some ⟨oc_is_number, od_is_number, .func (PySem.W.fnOf "is_number" "is_number" (defArgs s_is_number) (defBody s_is_number) (defScope s_is_number) .none kV_is_number dc_is_number pm_is_number an_is_number cd_is_number ct_is_number), sl_is_number⟩)
    (c_is_number : PySem.W.codeIn K cd_is_number "is_number" = true)
    (k_is_number : PySem.W.keepIn K (.ref x_is_number) = true)
    {x_is_sort : Addr} {od_is_sort an_is_sort : Option Addr} {sl_is_sort : Array (Option Value)} {oc_is_sort dc_is_sort pm_is_sort cd_is_sort ct_is_sort : Value}
    {kV_is_sort : Value}
    (a_is_sort : PySem.W.nsIn K mainGlobals "is_sort" = some (some (.ref x_is_sort)))
    (l_is_sort : K.lookup x_is_sort = some ⟨oc_is_sort, od_is_sort, .func (PySem.W.fnOf "is_sort" "is_sort" (defArgs s_is_sort) (defBody s_is_sort) (defScope s_is_sort) .none kV_is_sort dc_is_sort pm_is_sort an_is_sort cd_is_sort ct_is_sort), sl_is_sort⟩)
    (c_is_sort : PySem.W.codeIn K cd_is_sort "is_sort" = true)
    (k_is_sort : PySem.W.keepIn K (.ref x_is_sort) = true)
    {x_has_double : Addr} {od_has_double an_has_double : Option Addr} {sl_has_double : Array (Option Value)} {oc_has_double dc_has_double pm_has_double cd_has_double ct_has_double : Value}
    {kV_has_double : Value}
    (a_has_double : PySem.W.nsIn K mainGlobals "has_double" = some (some (.ref x_has_double)))
    (l_has_double : K.lookup x_has_double = some ⟨oc_has_double, od_has_double, .func (PySem.W.fnOf "has_double" "has_double" (defArgs s_has_double) (defBody s_has_double) (defScope s_has_double) .none kV_has_double dc_has_double pm_has_double an_has_double cd_has_double ct_has_double), sl_has_double⟩)
    (c_has_double : PySem.W.codeIn K cd_has_double "has_double" = true)
    (k_has_double : PySem.W.keepIn K (.ref x_has_double) = true)
    {x_are_loops : Addr} {od_are_loops an_are_loops : Option Addr} {sl_are_loops : Array (Option Value)} {oc_are_loops dc_are_loops pm_are_loops cd_are_loops ct_are_loops : Value}
    {kV_are_loops : Value}
    (a_are_loops : PySem.W.nsIn K mainGlobals "are_loops" = some (some (.ref x_are_loops)))
    (l_are_loops : K.lookup x_are_loops = some ⟨oc_are_loops, od_are_loops, .func (PySem.W.fnOf "are_loops" "are_loops" (defArgs s_are_loops) (defBody s_are_loops) (defScope s_are_loops) .none kV_are_loops dc_are_loops pm_are_loops an_are_loops cd_are_loops ct_are_loops), sl_are_loops⟩)
    (c_are_loops : PySem.W.codeIn K cd_are_loops "are_loops" = true)
    (k_are_loops : PySem.W.keepIn K (.ref x_are_loops) = true)
    {x_check_boxes : Addr} {od_check_boxes an_check_boxes : Option Addr} {sl_check_boxes : Array (Option Value)} {oc_check_boxes dc_check_boxes pm_check_boxes cd_check_boxes ct_check_boxes : Value}
    {kV_check_boxes : Value}
    (a_check_boxes : PySem.W.nsIn K mainGlobals "check_boxes" = some (some (.ref x_check_boxes)))
    (l_check_boxes : K.lookup x_check_boxes = some ⟨oc_check_boxes, od_check_boxes, .func (PySem.W.fnOf "check_boxes" "check_boxes" (defArgs s_check_boxes) (defBody s_check_boxes) (defScope s_check_boxes) .none kV_check_boxes dc_check_boxes pm_check_boxes an_check_boxes cd_check_boxes ct_check_boxes), sl_check_boxes⟩)
    (c_check_boxes : PySem.W.codeIn K cd_check_boxes "check_boxes" = true)
    (k_check_boxes : PySem.W.keepIn K (.ref x_check_boxes) = true)
    {x_check_town : Addr} {od_check_town an_check_town : Option Addr} {sl_check_town : Array (Option Value)} {oc_check_town dc_check_town pm_check_town cd_check_town ct_check_town : Value}
    {kV_check_town : Value}
    (a_check_town : PySem.W.nsIn K mainGlobals "check_town" = some (some (.ref x_check_town)))
    (l_check_town : K.lookup x_check_town = some ⟨oc_check_town, od_check_town, .func (PySem.W.fnOf "check_town" "check_town" (defArgs s_check_town) (defBody s_check_town) (defScope s_check_town) .none kV_check_town dc_check_town pm_check_town an_check_town cd_check_town ct_check_town), sl_check_town⟩)
    (c_check_town : PySem.W.codeIn K cd_check_town "check_town" = true)
    (k_check_town : PySem.W.keepIn K (.ref x_check_town) = true)
    {x_init : Addr} {od_init an_init : Option Addr} {sl_init : Array (Option Value)} {oc_init dc_init pm_init cd_init ct_init : Value}
    {xD : Addr} {tD : Tok}
    (a_init : PySem.W.findIn K (.ref xC) "__init__" = some (some (.ref x_init)))
    (i_init : PySem.W.isFn K (.ref x_init) = true)
    (l_init : K.lookup x_init = some ⟨oc_init, od_init, .func (PySem.W.fnOf "__init__" "Town.__init__" (defArgs s_init) (defBody s_init) (defScope s_init) .none (.ref xD) dc_init pm_init an_init cd_init ct_init), sl_init⟩)
    (c_init : PySem.W.codeIn K cd_init "Town.__init__" = true)
    (k_init : PySem.W.keepIn K (.ref x_init) = true)
    (e_init : PySem.W.nsIn K xD "hear" = some (some (.int 1 tD)))
    {x_site_of : Addr} {od_site_of an_site_of : Option Addr} {sl_site_of : Array (Option Value)} {oc_site_of dc_site_of pm_site_of cd_site_of ct_site_of : Value}
    {kV_site_of : Value}
    (a_site_of : PySem.W.findIn K (.ref xC) "site_of" = some (some (.ref x_site_of)))
    (i_site_of : PySem.W.isFn K (.ref x_site_of) = true)
    (l_site_of : K.lookup x_site_of = some ⟨oc_site_of, od_site_of, .func (PySem.W.fnOf "site_of" "Town.site_of" (defArgs s_site_of) (defBody s_site_of) (defScope s_site_of) .none kV_site_of dc_site_of pm_site_of an_site_of cd_site_of ct_site_of), sl_site_of⟩)
    (c_site_of : PySem.W.codeIn K cd_site_of "Town.site_of" = true)
    (k_site_of : PySem.W.keepIn K (.ref x_site_of) = true)
    {x_sort_of : Addr} {od_sort_of an_sort_of : Option Addr} {sl_sort_of : Array (Option Value)} {oc_sort_of dc_sort_of pm_sort_of cd_sort_of ct_sort_of : Value}
    {kV_sort_of : Value}
    (a_sort_of : PySem.W.findIn K (.ref xC) "sort_of" = some (some (.ref x_sort_of)))
    (i_sort_of : PySem.W.isFn K (.ref x_sort_of) = true)
    (l_sort_of : K.lookup x_sort_of = some ⟨oc_sort_of, od_sort_of, .func (PySem.W.fnOf "sort_of" "Town.sort_of" (defArgs s_sort_of) (defBody s_sort_of) (defScope s_sort_of) .none kV_sort_of dc_sort_of pm_sort_of an_sort_of cd_sort_of ct_sort_of), sl_sort_of⟩)
    (c_sort_of : PySem.W.codeIn K cd_sort_of "Town.sort_of" = true)
    (k_sort_of : PySem.W.keepIn K (.ref x_sort_of) = true)
    {x_loop_of : Addr} {od_loop_of an_loop_of : Option Addr} {sl_loop_of : Array (Option Value)} {oc_loop_of dc_loop_of pm_loop_of cd_loop_of ct_loop_of : Value}
    {kV_loop_of : Value}
    (a_loop_of : PySem.W.findIn K (.ref xC) "loop_of" = some (some (.ref x_loop_of)))
    (i_loop_of : PySem.W.isFn K (.ref x_loop_of) = true)
    (l_loop_of : K.lookup x_loop_of = some ⟨oc_loop_of, od_loop_of, .func (PySem.W.fnOf "loop_of" "Town.loop_of" (defArgs s_loop_of) (defBody s_loop_of) (defScope s_loop_of) .none kV_loop_of dc_loop_of pm_loop_of an_loop_of cd_loop_of ct_loop_of), sl_loop_of⟩)
    (c_loop_of : PySem.W.codeIn K cd_loop_of "Town.loop_of" = true)
    (k_loop_of : PySem.W.keepIn K (.ref x_loop_of) = true)
    {x_place_of : Addr} {od_place_of an_place_of : Option Addr} {sl_place_of : Array (Option Value)} {oc_place_of dc_place_of pm_place_of cd_place_of ct_place_of : Value}
    {kV_place_of : Value}
    (a_place_of : PySem.W.findIn K (.ref xC) "place_of" = some (some (.ref x_place_of)))
    (i_place_of : PySem.W.isFn K (.ref x_place_of) = true)
    (l_place_of : K.lookup x_place_of = some ⟨oc_place_of, od_place_of, .func (PySem.W.fnOf "place_of" "Town.place_of" (defArgs s_place_of) (defBody s_place_of) (defScope s_place_of) .none kV_place_of dc_place_of pm_place_of an_place_of cd_place_of ct_place_of), sl_place_of⟩)
    (c_place_of : PySem.W.codeIn K cd_place_of "Town.place_of" = true)
    (k_place_of : PySem.W.keepIn K (.ref x_place_of) = true)
    {x_wire : Addr} {od_wire an_wire : Option Addr} {sl_wire : Array (Option Value)} {oc_wire dc_wire pm_wire cd_wire ct_wire : Value}
    {kV_wire : Value}
    {xT : Addr} {ocT : Value} {odT : Option Addr} {nT : Nat} {slT : Array (Option Value)}
    (a_wire : PySem.W.findIn K (.ref xC) "wire" = some (some (.ref x_wire)))
    (i_wire : PySem.W.isFn K (.ref x_wire) = true)
    (l_wire : K.lookup x_wire = some ⟨oc_wire, od_wire, .func (PySem.W.fnOf "wire" "Town.wire" (defArgs s_wire) (defBody s_wire) (defScope s_wire) (.ref xT) kV_wire dc_wire pm_wire an_wire cd_wire ct_wire), sl_wire⟩)
    (c_wire : PySem.W.codeIn K cd_wire "Town.wire" = true)
    (k_wire : PySem.W.keepIn K (.ref x_wire) = true)
    (e_wire : K.lookup xT = some ⟨ocT, odT, .seq #[.none] nT, slT⟩)
    {x_eq : Addr} {od_eq an_eq : Option Addr} {sl_eq : Array (Option Value)} {oc_eq dc_eq pm_eq cd_eq ct_eq : Value}
    {kV_eq : Value}
    (a_eq : PySem.W.findIn K (.ref xC) "__eq__" = some (some (.ref x_eq)))
    (i_eq : PySem.W.isFn K (.ref x_eq) = true)
    (l_eq : K.lookup x_eq = some ⟨oc_eq, od_eq, .func (PySem.W.fnOf "__eq__" "Town.__eq__" (defArgs s_eq) (defBody s_eq) (defScope s_eq) .none kV_eq dc_eq pm_eq an_eq cd_eq ct_eq), sl_eq⟩)
    (c_eq : PySem.W.codeIn K cd_eq "Town.__eq__" = true)
    (k_eq : PySem.W.keepIn K (.ref x_eq) = true)
    {x_with_box : Addr} {od_with_box an_with_box : Option Addr} {sl_with_box : Array (Option Value)} {oc_with_box dc_with_box pm_with_box cd_with_box ct_with_box : Value}
    {kV_with_box : Value}
    (a_with_box : PySem.W.findIn K (.ref xC) "with_box" = some (some (.ref x_with_box)))
    (i_with_box : PySem.W.isFn K (.ref x_with_box) = true)
    (l_with_box : K.lookup x_with_box = some ⟨oc_with_box, od_with_box, .func (PySem.W.fnOf "with_box" "Town.with_box" (defArgs s_with_box) (defBody s_with_box) (defScope s_with_box) .none kV_with_box dc_with_box pm_with_box an_with_box cd_with_box ct_with_box), sl_with_box⟩)
    (c_with_box : PySem.W.codeIn K cd_with_box "Town.with_box" = true)
    (k_with_box : PySem.W.keepIn K (.ref x_with_box) = true)
    {x_with_sort : Addr} {od_with_sort an_with_sort : Option Addr} {sl_with_sort : Array (Option Value)} {oc_with_sort dc_with_sort pm_with_sort cd_with_sort ct_with_sort : Value}
    {kV_with_sort : Value}
    (a_with_sort : PySem.W.findIn K (.ref xC) "with_sort" = some (some (.ref x_with_sort)))
    (i_with_sort : PySem.W.isFn K (.ref x_with_sort) = true)
    (l_with_sort : K.lookup x_with_sort = some ⟨oc_with_sort, od_with_sort, .func (PySem.W.fnOf "with_sort" "Town.with_sort" (defArgs s_with_sort) (defBody s_with_sort) (defScope s_with_sort) .none kV_with_sort dc_with_sort pm_with_sort an_with_sort cd_with_sort ct_with_sort), sl_with_sort⟩)
    (c_with_sort : PySem.W.codeIn K cd_with_sort "Town.with_sort" = true)
    (k_with_sort : PySem.W.keepIn K (.ref x_with_sort) = true)
    {x_with_number : Addr} {od_with_number an_with_number : Option Addr} {sl_with_number : Array (Option Value)} {oc_with_number dc_with_number pm_with_number cd_with_number ct_with_number : Value}
    {kV_with_number : Value}
    (a_with_number : PySem.W.findIn K (.ref xC) "with_number" = some (some (.ref x_with_number)))
    (i_with_number : PySem.W.isFn K (.ref x_with_number) = true)
    (l_with_number : K.lookup x_with_number = some ⟨oc_with_number, od_with_number, .func (PySem.W.fnOf "with_number" "Town.with_number" (defArgs s_with_number) (defBody s_with_number) (defScope s_with_number) .none kV_with_number dc_with_number pm_with_number an_with_number cd_with_number ct_with_number), sl_with_number⟩)
    (c_with_number : PySem.W.codeIn K cd_with_number "Town.with_number" = true)
    (k_with_number : PySem.W.keepIn K (.ref x_with_number) = true)
    {x_with_rules : Addr} {od_with_rules an_with_rules : Option Addr} {sl_with_rules : Array (Option Value)} {oc_with_rules dc_with_rules pm_with_rules cd_with_rules ct_with_rules : Value}
    {xR : Addr}
    (a_with_rules : PySem.W.findIn K (.ref xC) "with_rules" = some (some (.ref x_with_rules)))
    (i_with_rules : PySem.W.isFn K (.ref x_with_rules) = true)
    (l_with_rules : K.lookup x_with_rules = some ⟨oc_with_rules, od_with_rules, .func (PySem.W.fnOf "with_rules" "Town.with_rules" (defArgs s_with_rules) (defBody s_with_rules) (defScope s_with_rules) .none (.ref xR) dc_with_rules pm_with_rules an_with_rules cd_with_rules ct_with_rules), sl_with_rules⟩)
    (c_with_rules : PySem.W.codeIn K cd_with_rules "Town.with_rules" = true)
    (k_with_rules : PySem.W.keepIn K (.ref x_with_rules) = true)
    (e_wr : PySem.W.nsIn K xR "rounds" = some (some .none))
    (e_wr2 : PySem.W.nsIn K xR "hear" = some (some .none))
    {x_bag : Addr} {od_bag an_bag : Option Addr} {sl_bag : Array (Option Value)} {oc_bag dc_bag pm_bag cd_bag ct_bag : Value}
    {kV_bag : Value}
    (a_bag : PySem.W.nsIn K mainGlobals "_law_bag" = some (some (.ref x_bag)))
    (l_bag : K.lookup x_bag = some ⟨oc_bag, od_bag, .func (PySem.W.fnOf "_law_bag" "_law_bag" (defArgs s_bag) (defBody s_bag) (defScope s_bag) .none kV_bag dc_bag pm_bag an_bag cd_bag ct_bag), sl_bag⟩)
    (c_bag : PySem.W.codeIn K cd_bag "_law_bag" = true)
    (k_bag : PySem.W.keepIn K (.ref x_bag) = true)
    {x_draw : Addr} {od_draw an_draw : Option Addr} {sl_draw : Array (Option Value)} {oc_draw dc_draw pm_draw cd_draw ct_draw : Value}
    {kV_draw : Value}
    (a_draw : PySem.W.nsIn K mainGlobals "_law_draw" = some (some (.ref x_draw)))
    (l_draw : K.lookup x_draw = some ⟨oc_draw, od_draw, .func (PySem.W.fnOf "_law_draw" "_law_draw" (defArgs s_draw) (defBody s_draw) (defScope s_draw) .none kV_draw dc_draw pm_draw an_draw cd_draw ct_draw), sl_draw⟩)
    (c_draw : PySem.W.codeIn K cd_draw "_law_draw" = true)
    (k_draw : PySem.W.keepIn K (.ref x_draw) = true)
    {x_number : Addr} {od_number an_number : Option Addr} {sl_number : Array (Option Value)} {oc_number dc_number pm_number cd_number ct_number : Value}
    {kV_number : Value}
    (a_number : PySem.W.nsIn K mainGlobals "_law_number" = some (some (.ref x_number)))
    (l_number : K.lookup x_number = some ⟨oc_number, od_number, .func (PySem.W.fnOf "_law_number" "_law_number" (defArgs s_number) (defBody s_number) (defScope s_number) .none kV_number dc_number pm_number an_number cd_number ct_number), sl_number⟩)
    (c_number : PySem.W.codeIn K cd_number "_law_number" = true)
    (k_number : PySem.W.keepIn K (.ref x_number) = true)
    {x_numbers : Addr} {od_numbers an_numbers : Option Addr} {sl_numbers : Array (Option Value)} {oc_numbers dc_numbers pm_numbers cd_numbers ct_numbers : Value}
    {kV_numbers : Value}
    (a_numbers : PySem.W.nsIn K mainGlobals "_law_numbers" = some (some (.ref x_numbers)))
    (l_numbers : K.lookup x_numbers = some ⟨oc_numbers, od_numbers, .func (PySem.W.fnOf "_law_numbers" "_law_numbers" (defArgs s_numbers) (defBody s_numbers) (defScope s_numbers) .none kV_numbers dc_numbers pm_numbers an_numbers cd_numbers ct_numbers), sl_numbers⟩)
    (c_numbers : PySem.W.codeIn K cd_numbers "_law_numbers" = true)
    (k_numbers : PySem.W.keepIn K (.ref x_numbers) = true)
    {x_loops : Addr} {od_loops an_loops : Option Addr} {sl_loops : Array (Option Value)} {oc_loops dc_loops pm_loops cd_loops ct_loops : Value}
    {kV_loops : Value}
    (a_loops : PySem.W.nsIn K mainGlobals "_law_loops" = some (some (.ref x_loops)))
    (l_loops : K.lookup x_loops = some ⟨oc_loops, od_loops, .func (PySem.W.fnOf "_law_loops" "_law_loops" (defArgs s_loops) (defBody s_loops) (defScope s_loops) .none kV_loops dc_loops pm_loops an_loops cd_loops ct_loops), sl_loops⟩)
    (c_loops : PySem.W.codeIn K cd_loops "_law_loops" = true)
    (k_loops : PySem.W.keepIn K (.ref x_loops) = true)
    {x_rules : Addr} {od_rules an_rules : Option Addr} {sl_rules : Array (Option Value)} {oc_rules dc_rules pm_rules cd_rules ct_rules : Value}
    {kV_rules : Value}
    (a_rules : PySem.W.nsIn K mainGlobals "_law_rules" = some (some (.ref x_rules)))
    (l_rules : K.lookup x_rules = some ⟨oc_rules, od_rules, .func (PySem.W.fnOf "_law_rules" "_law_rules" (defArgs s_rules) (defBody s_rules) (defScope s_rules) .none kV_rules dc_rules pm_rules an_rules cd_rules ct_rules), sl_rules⟩)
    (c_rules : PySem.W.codeIn K cd_rules "_law_rules" = true)
    (k_rules : PySem.W.keepIn K (.ref x_rules) = true)
    {x_told : Addr} {od_told an_told : Option Addr} {sl_told : Array (Option Value)} {oc_told dc_told pm_told cd_told ct_told : Value}
    {kV_told : Value}
    (a_told : PySem.W.nsIn K mainGlobals "_law_told" = some (some (.ref x_told)))
    (l_told : K.lookup x_told = some ⟨oc_told, od_told, .func (PySem.W.fnOf "_law_told" "_law_told" (defArgs s_told) (defBody s_told) (defScope s_told) .none kV_told dc_told pm_told an_told cd_told ct_told), sl_told⟩)
    (c_told : PySem.W.codeIn K cd_told "_law_told" = true)
    (k_told : PySem.W.keepIn K (.ref x_told) = true)
    {x_whole : Addr} {od_whole an_whole : Option Addr} {sl_whole : Array (Option Value)} {oc_whole dc_whole pm_whole cd_whole ct_whole : Value}
    {kV_whole : Value}
    (a_whole : PySem.W.nsIn K mainGlobals "_law_whole" = some (some (.ref x_whole)))
    (l_whole : K.lookup x_whole = some ⟨oc_whole, od_whole, .func (PySem.W.fnOf "_law_whole" "_law_whole" (defArgs s_whole) (defBody s_whole) (defScope s_whole) .none kV_whole dc_whole pm_whole an_whole cd_whole ct_whole), sl_whole⟩)
    (c_whole : PySem.W.codeIn K cd_whole "_law_whole" = true)
    (k_whole : PySem.W.keepIn K (.ref x_whole) = true)
    {x_names : Addr} {od_names an_names : Option Addr} {sl_names : Array (Option Value)} {oc_names dc_names pm_names cd_names ct_names : Value}
    {kV_names : Value}
    (a_names : PySem.W.nsIn K mainGlobals "_law_names" = some (some (.ref x_names)))
    (l_names : K.lookup x_names = some ⟨oc_names, od_names, .func (PySem.W.fnOf "_law_names" "_law_names" (defArgs s_names) (defBody s_names) (defScope s_names) .none kV_names dc_names pm_names an_names cd_names ct_names), sl_names⟩)
    (c_names : PySem.W.codeIn K cd_names "_law_names" = true)
    (k_names : PySem.W.keepIn K (.ref x_names) = true)
    {x_number_of : Addr} {od_number_of an_number_of : Option Addr} {sl_number_of : Array (Option Value)} {oc_number_of dc_number_of pm_number_of cd_number_of ct_number_of : Value}
    {kV_number_of : Value}
    (a_number_of : PySem.W.nsIn K mainGlobals "_law_number_of" = some (some (.ref x_number_of)))
    (l_number_of : K.lookup x_number_of = some ⟨oc_number_of, od_number_of, .func (PySem.W.fnOf "_law_number_of" "_law_number_of" (defArgs s_number_of) (defBody s_number_of) (defScope s_number_of) .none kV_number_of dc_number_of pm_number_of an_number_of cd_number_of ct_number_of), sl_number_of⟩)
    (c_number_of : PySem.W.codeIn K cd_number_of "_law_number_of" = true)
    (k_number_of : PySem.W.keepIn K (.ref x_number_of) = true)
    {x_change : Addr} {od_change an_change : Option Addr} {sl_change : Array (Option Value)} {oc_change dc_change pm_change cd_change ct_change : Value}
    {kV_change : Value}
    (a_change : PySem.W.nsIn K mainGlobals "_law_change" = some (some (.ref x_change)))
    (l_change : K.lookup x_change = some ⟨oc_change, od_change, .func (PySem.W.fnOf "_law_change" "_law_change" (defArgs s_change) (defBody s_change) (defScope s_change) .none kV_change dc_change pm_change an_change cd_change ct_change), sl_change⟩)
    (c_change : PySem.W.codeIn K cd_change "_law_change" = true)
    (k_change : PySem.W.keepIn K (.ref x_change) = true)
    {x_wis_number : Addr} {od_wis_number an_wis_number : Option Addr} {sl_wis_number : Array (Option Value)} {oc_wis_number dc_wis_number pm_wis_number cd_wis_number ct_wis_number : Value}
    {kV_wis_number : Value}
    (a_wis_number : PySem.W.nsIn K mainGlobals "_law_is_number" = some (some (.ref x_wis_number)))
    (l_wis_number : K.lookup x_wis_number = some ⟨oc_wis_number, od_wis_number, .func (PySem.W.fnOf "_law_is_number" "_law_is_number" (defArgs s_wis_number) (defBody s_wis_number) (defScope s_wis_number) .none kV_wis_number dc_wis_number pm_wis_number an_wis_number cd_wis_number ct_wis_number), sl_wis_number⟩)
    (c_wis_number : PySem.W.codeIn K cd_wis_number "_law_is_number" = true)
    (k_wis_number : PySem.W.keepIn K (.ref x_wis_number) = true)
    {x_with : Addr} {od_with an_with : Option Addr} {sl_with : Array (Option Value)} {oc_with dc_with pm_with cd_with ct_with : Value}
    {kV_with : Value}
    (a_with : PySem.W.nsIn K mainGlobals "_law_with" = some (some (.ref x_with)))
    (l_with : K.lookup x_with = some ⟨oc_with, od_with, .func (PySem.W.fnOf "_law_with" "_law_with" (defArgs s_with) (defBody s_with) (defScope s_with) .none kV_with dc_with pm_with an_with cd_with ct_with), sl_with⟩)
    (c_with : PySem.W.codeIn K cd_with "_law_with" = true)
    (k_with : PySem.W.keepIn K (.ref x_with) = true)
    {x_rules_due : Addr} {od_rules_due an_rules_due : Option Addr} {sl_rules_due : Array (Option Value)} {oc_rules_due dc_rules_due pm_rules_due cd_rules_due ct_rules_due : Value}
    {kV_rules_due : Value}
    (a_rules_due : PySem.W.nsIn K mainGlobals "_law_rules_due" = some (some (.ref x_rules_due)))
    (l_rules_due : K.lookup x_rules_due = some ⟨oc_rules_due, od_rules_due, .func (PySem.W.fnOf "_law_rules_due" "_law_rules_due" (defArgs s_rules_due) (defBody s_rules_due) (defScope s_rules_due) .none kV_rules_due dc_rules_due pm_rules_due an_rules_due cd_rules_due ct_rules_due), sl_rules_due⟩)
    (c_rules_due : PySem.W.codeIn K cd_rules_due "_law_rules_due" = true)
    (k_rules_due : PySem.W.keepIn K (.ref x_rules_due) = true)
    {x_due : Addr} {od_due an_due : Option Addr} {sl_due : Array (Option Value)} {oc_due dc_due pm_due cd_due ct_due : Value}
    {kV_due : Value}
    (a_due : PySem.W.nsIn K mainGlobals "_law_due" = some (some (.ref x_due)))
    (l_due : K.lookup x_due = some ⟨oc_due, od_due, .func (PySem.W.fnOf "_law_due" "_law_due" (defArgs s_due) (defBody s_due) (defScope s_due) .none kV_due dc_due pm_due an_due cd_due ct_due), sl_due⟩)
    (c_due : PySem.W.codeIn K cd_due "_law_due" = true)
    (k_due : PySem.W.keepIn K (.ref x_due) = true)
    {x_done : Addr} {od_done an_done : Option Addr} {sl_done : Array (Option Value)} {oc_done dc_done pm_done cd_done ct_done : Value}
    {kV_done : Value}
    (a_done : PySem.W.nsIn K mainGlobals "_law_done" = some (some (.ref x_done)))
    (l_done : K.lookup x_done = some ⟨oc_done, od_done, .func (PySem.W.fnOf "_law_done" "_law_done" (defArgs s_done) (defBody s_done) (defScope s_done) .none kV_done dc_done pm_done an_done cd_done ct_done), sl_done⟩)
    (c_done : PySem.W.codeIn K cd_done "_law_done" = true)
    (k_done : PySem.W.keepIn K (.ref x_done) = true)
    {x_boxes_told : Addr} {od_boxes_told an_boxes_told : Option Addr} {sl_boxes_told : Array (Option Value)} {oc_boxes_told dc_boxes_told pm_boxes_told cd_boxes_told ct_boxes_told : Value}
    {kV_boxes_told : Value}
    (a_boxes_told : PySem.W.nsIn K mainGlobals "_law_boxes_told" = some (some (.ref x_boxes_told)))
    (l_boxes_told : K.lookup x_boxes_told = some ⟨oc_boxes_told, od_boxes_told, .func (PySem.W.fnOf "_law_boxes_told" "_law_boxes_told" (defArgs s_boxes_told) (defBody s_boxes_told) (defScope s_boxes_told) .none kV_boxes_told dc_boxes_told pm_boxes_told an_boxes_told cd_boxes_told ct_boxes_told), sl_boxes_told⟩)
    (c_boxes_told : PySem.W.codeIn K cd_boxes_told "_law_boxes_told" = true)
    (k_boxes_told : PySem.W.keepIn K (.ref x_boxes_told) = true)
    {x_is : Addr} {od_is an_is : Option Addr} {sl_is : Array (Option Value)} {oc_is dc_is pm_is cd_is ct_is : Value}
    {kV_is : Value}
    (a_is : PySem.W.nsIn K mainGlobals "_law_is" = some (some (.ref x_is)))
    (l_is : K.lookup x_is = some ⟨oc_is, od_is, .func (PySem.W.fnOf "_law_is" "_law_is" (defArgs s_is) (defBody s_is) (defScope s_is) .none kV_is dc_is pm_is an_is cd_is ct_is), sl_is⟩)
    (c_is : PySem.W.codeIn K cd_is "_law_is" = true)
    (k_is : PySem.W.keepIn K (.ref x_is) = true)
    {x_law : Addr} {od_law an_law : Option Addr} {sl_law : Array (Option Value)} {oc_law dc_law pm_law cd_law ct_law : Value}
    {kV_law : Value}
    (a_law : PySem.W.nsIn K mainGlobals "law" = some (some (.ref x_law)))
    (l_law : K.lookup x_law = some ⟨oc_law, od_law, .func (PySem.W.fnOf "law" "law" (defArgs s_law) (defBody s_law) (defScope s_law) .none kV_law dc_law pm_law an_law cd_law ct_law), sl_law⟩)
    (c_law : PySem.W.codeIn K cd_law "law" = true)
    (k_law : PySem.W.keepIn K (.ref x_law) = true)
    (pg : PySem.W.plainGet K xC Str.empty = true)
    (hd : PySem.W.hasDictIn K xC = true)
    (po : PySem.W.plainOver K xC = true)
    (sa : PySem.W.findIn K (.ref xC) "__setattr__" = some (some (.builtin "object.__setattr__")))
    (mk : PySem.W.makesIn K xC = true)
    (kc : PySem.W.keepIn K (.ref xC) = true)
    (nL : PySem.W.findIn K (.ref xC) "loops" = some none)
    (nR : PySem.W.findIn K (.ref xC) "rounds" = some none)
    (nH : PySem.W.findIn K (.ref xC) "hear" = some none)
    (nN : PySem.W.findIn K (.ref xC) "numbers" = some none)
    (ica : PySem.W.findIn K (.ref xC) "__class__" = some (some (.builtin "object.__class__")))
    (icn : PySem.W.specialIn K (.builtin "object.__class__") "__get__" = some (some (.builtin "getset_descriptor.__get__")))
    (ict : PySem.W.takesIn K (.builtin "object.__class__") = some true)
    (icm : PySem.W.mroIn K xC (.type "object") = some true)
    (kS : PySem.W.kitOne K (.ref xC) (.ref xC) = some true)
    (rd : PySem.W.readsIn K xC (.type "type") = true)
    (ga : PySem.W.specialIn K (.ref xC) "__getattribute__" = some (some (.builtin "type.__getattribute__")))
    (kT : PySem.W.kitOne K (.type "tuple") (.ref xC) = some false)
    (sT : PySem.W.subIn K (.type "tuple") (.ref xC) = some false)
    {tP tS : Tok}
    (vP : PySem.W.findCls K (.ref xC) (.type "type") "PLAIN" = some (.val (.str "plain" tP)))
    (vS : PySem.W.findCls K (.ref xC) (.type "type") "SHY" = some (.val (.str "shy" tS)))
    {onm oq : Str} {oN : Addr} {obs : List Value} {ohd : Bool} {osn : List Str} {osub : List Value} {oab : Bool} {ocol : Option Bool} {odd : Option Addr} {ok0 ok1 ok2 ok3 ok5 : Option Value} (ox : K.lookup xC = some (excClassObj onm oq xC oN obs [.type "object"] ohd osn osub oab ocol odd ok0 ok1 ok2 ok3 ok5 "object.__new__")) {oc1 : Value} {od1 : Option Addr} {oes : Array DictEntry} {oex : Nat} {osl : Array (Option Value)} (ol : K.lookup oN = some ⟨oc1, od1, .dict oes oex, osl⟩) (on : (oes.toList.all fun e => match e.key with | .str _ _ => true | _ => false) = true) (oe : PySem.W.nsIn K oN "__eq__" = some (some (.ref x_eq))) (oz : PySem.W.nsIn K oN "__ne__" = some none)
    {eCL eIL : Addr} {enmL eqL : Str} {eNL : Addr} {ebsL ebmL : List Value} {esnL : List Str} {esubL : List Value} {eabL : Bool} {ecolL : Option Bool} {eddL : Option Addr} {em0L em1L em2L em3L em5L : Option Value}
    {eocL edcL epmL ecdL ectL : Value} {eodL eanL : Option Addr} {eslL : Array (Option Value)} {ep1L ep2L eq1L eq2L eq3L eq4L : Pos}
    (e_aL : PySem.W.nsIn K mainGlobals "NoLoop" = some (some (.ref eCL)))
    (e_xL : K.lookup eCL = some (excClassObj enmL eqL eCL eNL ebsL ebmL true esnL esubL eabL ecolL eddL em0L em1L em2L em3L em5L "ValueError.__new__"))
    (e_bL : PySem.HandSPX.refsVE ebmL = true)
    (e_sL : PySem.W.findIn K (.ref eCL) "__setattr__" = some (some (.builtin "object.__setattr__"))) (e_gL : PySem.W.findIn K (.ref eCL) "__getattribute__" = some (some (.builtin "BaseException.__getattribute__"))) (e_hL : PySem.W.findIn K (.ref eCL) "__getattr__" = some none) (e_nL : PySem.W.findIn K (.ref eCL) "loop" = some none)
    (e_iL : PySem.W.findIn K (.ref eCL) "__init__" = some (some (.ref eIL))) (e_tL : PySem.W.typeIn K (.ref eIL) = some (.type "function"))
    (e_lL : K.lookup eIL = some ⟨eocL, eodL, .func (PySem.W.fnOf "__init__" "NoLoop.__init__" (PySem.LowL.iA ep1L ep2L) (PySem.LowL.iB eq1L eq2L eq3L eq4L) PySem.LowL.iS .none .none edcL epmL eanL ecdL ectL), eslL⟩) (e_cL : PySem.W.codeIn K ecdL "NoLoop.__init__" = true)
    (e_kL : PySem.W.keepIn K (.ref eCL) = true) (e_eL : PySem.W.subIn K (.ref eCL) (.type "BaseException") = some true) (e_tyL : PySem.W.typeIn K (.ref eCL) = some (.type "type")) (e_dL : PySem.W.hasDictIn K eCL = true) (e_scL : PySem.W.subIn K (.ref eCL) (.ref eCL) = some true)
    {eCB eIB : Addr} {enmB eqB : Str} {eNB : Addr} {ebsB ebmB : List Value} {esnB : List Str} {esubB : List Value} {eabB : Bool} {ecolB : Option Bool} {eddB : Option Addr} {em0B em1B em2B em3B em5B : Option Value}
    {eocB edcB epmB ecdB ectB : Value} {eodB eanB : Option Addr} {eslB : Array (Option Value)} {ep1B ep2B eq1B eq2B eq3B eq4B : Pos}
    (e_aB : PySem.W.nsIn K mainGlobals "NoBox" = some (some (.ref eCB)))
    (e_xB : K.lookup eCB = some (excClassObj enmB eqB eCB eNB ebsB ebmB true esnB esubB eabB ecolB eddB em0B em1B em2B em3B em5B "ValueError.__new__"))
    (e_bB : PySem.HandSPX.refsVE ebmB = true)
    (e_sB : PySem.W.findIn K (.ref eCB) "__setattr__" = some (some (.builtin "object.__setattr__"))) (e_gB : PySem.W.findIn K (.ref eCB) "__getattribute__" = some (some (.builtin "BaseException.__getattribute__"))) (e_hB : PySem.W.findIn K (.ref eCB) "__getattr__" = some none) (e_nB : PySem.W.findIn K (.ref eCB) "number" = some none)
    (e_iB : PySem.W.findIn K (.ref eCB) "__init__" = some (some (.ref eIB))) (e_tB : PySem.W.typeIn K (.ref eIB) = some (.type "function"))
    (e_lB : K.lookup eIB = some ⟨eocB, eodB, .func (PySem.W.fnOf "__init__" "NoBox.__init__" (PySem.LowB.iA ep1B ep2B) (PySem.LowB.iB eq1B eq2B eq3B eq4B) PySem.LowB.iS .none .none edcB epmB eanB ecdB ectB), eslB⟩) (e_cB : PySem.W.codeIn K ecdB "NoBox.__init__" = true)
    (e_kB : PySem.W.keepIn K (.ref eCB) = true) (e_eB : PySem.W.subIn K (.ref eCB) (.type "BaseException") = some true) (e_tyB : PySem.W.typeIn K (.ref eCB) = some (.type "type")) (e_dB : PySem.W.hasDictIn K eCB = true) (e_scB : PySem.W.subIn K (.ref eCB) (.ref eCB) = some true)
    {eCT eIT : Addr} {enmT eqT : Str} {eNT : Addr} {ebsT ebmT : List Value} {esnT : List Str} {esubT : List Value} {eabT : Bool} {ecolT : Option Bool} {eddT : Option Addr} {em0T em1T em2T em3T em5T : Option Value}
    {eocT edcT epmT ecdT ectT : Value} {eodT eanT : Option Addr} {eslT : Array (Option Value)} {ep1T ep2T eq1T eq2T eq3T eq4T : Pos}
    (e_aT : PySem.W.nsIn K mainGlobals "BadTown" = some (some (.ref eCT)))
    (e_xT : K.lookup eCT = some (excClassObj enmT eqT eCT eNT ebsT ebmT true esnT esubT eabT ecolT eddT em0T em1T em2T em3T em5T "ValueError.__new__"))
    (e_bT : PySem.HandSPX.refsVE ebmT = true)
    (e_sT : PySem.W.findIn K (.ref eCT) "__setattr__" = some (some (.builtin "object.__setattr__"))) (e_gT : PySem.W.findIn K (.ref eCT) "__getattribute__" = some (some (.builtin "BaseException.__getattribute__"))) (e_hT : PySem.W.findIn K (.ref eCT) "__getattr__" = some none) (e_nT : PySem.W.findIn K (.ref eCT) "what" = some none)
    (e_iT : PySem.W.findIn K (.ref eCT) "__init__" = some (some (.ref eIT))) (e_tT : PySem.W.typeIn K (.ref eIT) = some (.type "function"))
    (e_lT : K.lookup eIT = some ⟨eocT, eodT, .func (PySem.W.fnOf "__init__" "BadTown.__init__" (PySem.LowT.iA ep1T ep2T) (PySem.LowT.iB eq1T eq2T eq3T eq4T) PySem.LowT.iS .none .none edcT epmT eanT ecdT ectT), eslT⟩) (e_cT : PySem.W.codeIn K ecdT "BadTown.__init__" = true)
    (e_kT : PySem.W.keepIn K (.ref eCT) = true) (e_eT : PySem.W.subIn K (.ref eCT) (.type "BaseException") = some true) (e_tyT : PySem.W.typeIn K (.ref eCT) = some (.type "type")) (e_dT : PySem.W.hasDictIn K eCT = true) (e_scT : PySem.W.subIn K (.ref eCT) (.ref eCT) = some true)
    (x_TB : PySem.W.subIn K (.ref eCT) (.ref eCB) = some false)
    {t_DIGITS : Tok}
    (n_DIGITS : PySem.W.nsIn K mainGlobals "DIGITS" = some (some (.str "123456789" t_DIGITS)))
    {t_MOST_DIGITS : Tok}
    (n_MOST_DIGITS : PySem.W.nsIn K mainGlobals "MOST_DIGITS" = some (some (.int 4 t_MOST_DIGITS)))
    {t_GREATEST_SUM : Tok}
    (n_GREATEST_SUM : PySem.W.nsIn K mainGlobals "GREATEST_SUM" = some (some (.int 24 t_GREATEST_SUM)))
    {t_MOST_LOOPS : Tok}
    (n_MOST_LOOPS : PySem.W.nsIn K mainGlobals "MOST_LOOPS" = some (some (.int 3 t_MOST_LOOPS)))
    {t_MOST_BOXES : Tok}
    (n_MOST_BOXES : PySem.W.nsIn K mainGlobals "MOST_BOXES" = some (some (.int 10 t_MOST_BOXES)))
    {t_MOST_ROUNDS : Tok}
    (n_MOST_ROUNDS : PySem.W.nsIn K mainGlobals "MOST_ROUNDS" = some (some (.int 8 t_MOST_ROUNDS)))
    (z_all : PySem.W.nsIn K mainGlobals "all" = some none)
    (z_bool : PySem.W.nsIn K mainGlobals "bool" = some none)
    (z_enumerate : PySem.W.nsIn K mainGlobals "enumerate" = some none)
    (z_int : PySem.W.nsIn K mainGlobals "int" = some none)
    (z_isinstance : PySem.W.nsIn K mainGlobals "isinstance" = some none)
    (z_len : PySem.W.nsIn K mainGlobals "len" = some none)
    (z_list : PySem.W.nsIn K mainGlobals "list" = some none)
    (z_min : PySem.W.nsIn K mainGlobals "min" = some none)
    (z_range : PySem.W.nsIn K mainGlobals "range" = some none)
    (z_repr : PySem.W.nsIn K mainGlobals "repr" = some none)
    (z_set : PySem.W.nsIn K mainGlobals "set" = some none)
    (z_str : PySem.W.nsIn K mainGlobals "str" = some none)
    (z_sum : PySem.W.nsIn K mainGlobals "sum" = some none)
    (z_tuple : PySem.W.nsIn K mainGlobals "tuple" = some none)
    : ∃ fd : FuncData, (∀ (s : Shared) (v : Value), BindsTo s fd ⟨[v], []⟩ [("_law_script", v)]) ∧ ∀ base : Heap, K.In base → base.Ns mainGlobals mg → Rp.GOk l.prog w K mg base CX0 11 fa fd ["_law_script"] (sp_law K) := by
  have e := hfa.symm.trans (PySem.W.mg_of X G a_law)
  cases e
  have F_is_whole := fun_mk (st := s_is_whole) l_is_whole c_is_whole k_is_whole
  have b_is_whole := F_is_whole.binds (ps := ["thing"]) fun _ _ _ _ _ _ us hl => match us, hl with | [_], _ => rfl
  have F_is_whole_within := fun_mk (st := s_is_whole_within) l_is_whole_within c_is_whole_within k_is_whole_within
  have b_is_whole_within := F_is_whole_within.binds (ps := ["thing", "low", "high"]) fun _ _ _ _ _ _ us hl => match us, hl with | [_, _, _], _ => rfl
  have F_is_sequence := fun_mk (st := s_is_sequence) l_is_sequence c_is_sequence k_is_sequence
  have b_is_sequence := F_is_sequence.binds (ps := ["thing"]) fun _ _ _ _ _ _ us hl => match us, hl with | [_], _ => rfl
  have F_is_number := fun_mk (st := s_is_number) l_is_number c_is_number k_is_number
  have b_is_number := F_is_number.binds (ps := ["thing"]) fun _ _ _ _ _ _ us hl => match us, hl with | [_], _ => rfl
  have F_is_sort := fun_mk (st := s_is_sort) l_is_sort c_is_sort k_is_sort
  have b_is_sort := F_is_sort.binds (ps := ["thing"]) fun _ _ _ _ _ _ us hl => match us, hl with | [_], _ => rfl
  have F_has_double := fun_mk (st := s_has_double) l_has_double c_has_double k_has_double
  have b_has_double := F_has_double.binds (ps := ["boxes"]) fun _ _ _ _ _ _ us hl => match us, hl with | [_], _ => rfl
  have F_are_loops := fun_mk (st := s_are_loops) l_are_loops c_are_loops k_are_loops
  have b_are_loops := F_are_loops.binds (ps := ["thing"]) fun _ _ _ _ _ _ us hl => match us, hl with | [_], _ => rfl
  have F_check_boxes := fun_mk (st := s_check_boxes) l_check_boxes c_check_boxes k_check_boxes
  have b_check_boxes := F_check_boxes.binds (ps := ["boxes"]) fun _ _ _ _ _ _ us hl => match us, hl with | [_], _ => rfl
  have F_check_town := fun_mk (st := s_check_town) l_check_town c_check_town k_check_town
  have b_check_town := F_check_town.binds (ps := ["loops", "rounds", "hear"]) fun _ _ _ _ _ _ us hl => match us, hl with | [_, _, _], _ => rfl
  have F_init : FunD K "__init__" "Town.__init__" (defArgs s_init) (defBody s_init) (defScope s_init) [] [("hear", V.int 1)] x_init _ := ⟨⟨_, _, _, _, _, _, _, _, _, _, rfl, l_init, c_init, .inl ⟨rfl, rfl⟩, .inr ⟨xD, rfl, fun q m => by rw [List.mem_singleton.mp m]; exact ⟨_, e_init, ⟨_, rfl⟩⟩⟩⟩, k_init⟩
  have kb := F_init.kbinds0 (ps := ["self", "loops", "rounds", "hear"]) 2 ["rounds"] [("hear", V.int 1)] (fun vs mz zs => vs ++ zs ++ mz) (by decide) (fun _ h => h) (fun a b c => (a.append c).append b) fun D doc pm an cdv ct us mv ws h1 h2 h3 => match us, mv, ws, h1, h2, h3 with | [_, _], [_], [_], _, _, _ => ⟨_, _, _, _, _, _, rfl, rfl, rfl⟩
  obtain ⟨mv, kb⟩ := kb
  have kb2 := F_init.kbinds0 (ps := ["self", "loops", "rounds", "hear"]) 2 ["rounds", "hear"] [] (fun vs mz zs => vs ++ zs) (by decide) (fun _ h => absurd h (by simp)) (fun a b c => a.append c) fun D doc pm an cdv ct us mv ws h1 h2 h3 => match us, mv, ws, h1, h2, h3 with | [_, _], [], [_, _], _, _, _ => rfl
  obtain ⟨_, kb2⟩ := kb2
  have F_site_of := fun_mk (st := s_site_of) l_site_of c_site_of k_site_of
  have b_site_of := F_site_of.binds (ps := ["self", "number"]) fun _ _ _ _ _ _ us hl => match us, hl with | [_, _], _ => rfl
  have F_sort_of := fun_mk (st := s_sort_of) l_sort_of c_sort_of k_sort_of
  have b_sort_of := F_sort_of.binds (ps := ["self", "number"]) fun _ _ _ _ _ _ us hl => match us, hl with | [_, _], _ => rfl
  have F_loop_of := fun_mk (st := s_loop_of) l_loop_of c_loop_of k_loop_of
  have b_loop_of := F_loop_of.binds (ps := ["self", "number"]) fun _ _ _ _ _ _ us hl => match us, hl with | [_, _], _ => rfl
  have F_place_of := fun_mk (st := s_place_of) l_place_of c_place_of k_place_of
  have b_place_of := F_place_of.binds (ps := ["self", "number"]) fun _ _ _ _ _ _ us hl => match us, hl with | [_, _], _ => rfl
  have F_wire : FunD K "wire" "Town.wire" (defArgs s_wire) (defBody s_wire) (defScope s_wire) [V.non] [] x_wire _ := ⟨⟨_, _, _, _, _, _, _, _, _, _, rfl, l_wire, c_wire, .inr ⟨by decide, xT, _, [.none], _, rfl, e_wire, rfl, .cons rfl .nil⟩, .inl rfl⟩, k_wire⟩
  have b_wire := F_wire.binds1 (ps := ["self", "loop"]) 2 1 (by decide) rfl fun T kV doc pm an cdv ct us its h1 h2 => match us, its, h1, h2 with | [_, _], [_], _, _ => ⟨_, rfl, rfl⟩
  obtain ⟨ds_wire, rd_wire, b_wire⟩ := b_wire
  cases rd_wire
  have b0_wire := F_wire.binds1 (ps := ["self", "loop"]) 1 0 (by decide) rfl fun T kV doc pm an cdv ct us its h1 h2 => match us, its, h1, h2 with | [_], [_], _, _ => ⟨_, rfl, rfl⟩
  obtain ⟨dw, r_wire, b0_wire⟩ := b0_wire
  have q_wire := F_wire.kbindsD (ps := ["self", "loop"]) 1 ["loop"] (fun vs ds zs => vs ++ zs) (by decide) (fun a b c => a.append c) fun T kV doc pm an cdv ct us its ws h1 h2 h3 => match us, its, ws, h1, h2, h3 with | [_], [_], [_], _, _, _ => ⟨_, rfl, rfl⟩
  obtain ⟨_, q_wire⟩ := q_wire
  have F_eq := fun_mk (st := s_eq) l_eq c_eq k_eq
  have b_eq := F_eq.binds (ps := ["self", "other"]) fun _ _ _ _ _ _ us hl => match us, hl with | [_, _], _ => rfl
  have F_with_box := fun_mk (st := s_with_box) l_with_box c_with_box k_with_box
  have b_with_box := F_with_box.binds (ps := ["self", "number", "box"]) fun _ _ _ _ _ _ us hl => match us, hl with | [_, _, _], _ => rfl
  have F_with_sort := fun_mk (st := s_with_sort) l_with_sort c_with_sort k_with_sort
  have b_with_sort := F_with_sort.binds (ps := ["self", "number", "sort"]) fun _ _ _ _ _ _ us hl => match us, hl with | [_, _, _], _ => rfl
  have F_with_number := fun_mk (st := s_with_number) l_with_number c_with_number k_with_number
  have b_with_number := F_with_number.binds (ps := ["self", "old", "new"]) fun _ _ _ _ _ _ us hl => match us, hl with | [_, _, _], _ => rfl
  have F_with_rules : FunD K "with_rules" "Town.with_rules" (defArgs s_with_rules) (defBody s_with_rules) (defScope s_with_rules) [] [("rounds", V.non), ("hear", V.non)] x_with_rules _ := ⟨⟨_, _, _, _, _, _, _, _, _, _, rfl, l_with_rules, c_with_rules, .inl ⟨rfl, rfl⟩, .inr ⟨xR, rfl, fun q m => by
    rcases List.mem_cons.mp m with rfl | m
    · exact ⟨_, e_wr, rfl⟩
    · rw [List.mem_singleton.mp m]; exact ⟨_, e_wr2, rfl⟩⟩⟩, k_with_rules⟩
  have kw0 := F_with_rules.kbinds0 (ps := ["self", "rounds", "hear"]) 1 [] [("rounds", V.non), ("hear", V.non)] (fun vs mz zs => vs ++ mz) (by decide) (fun _ h => h) (fun a b c => a.append b) fun D doc pm an cdv ct us mv ws h1 h2 h3 => match us, mv, ws, h1, h2, h3 with | [_], [_, _], [], _, _, _ => ⟨_, _, _, _, _, _, rfl, rfl, _, _, _, _, _, _, rfl, rfl, rfl⟩
  obtain ⟨w0, kw0⟩ := kw0
  have kwR := F_with_rules.kbinds0 (ps := ["self", "rounds", "hear"]) 1 ["rounds"] [("hear", V.non)] (fun vs mz zs => vs ++ zs ++ mz) (by decide) (fun _ h => List.mem_cons_of_mem _ h) (fun a b c => (a.append c).append b) fun D doc pm an cdv ct us mv ws h1 h2 h3 => match us, mv, ws, h1, h2, h3 with | [_], [_], [_], _, _, _ => ⟨_, _, _, _, _, _, rfl, rfl, rfl⟩
  obtain ⟨wR, kwR⟩ := kwR
  have kwH := F_with_rules.kbinds0 (ps := ["self", "rounds", "hear"]) 1 ["hear"] [("rounds", V.non)] (fun vs mz zs => vs ++ mz ++ zs) (by decide) (fun _ h => by rw [List.mem_singleton.mp h]; exact List.mem_cons_self) (fun a b c => (a.append b).append c) fun D doc pm an cdv ct us mv ws h1 h2 h3 => match us, mv, ws, h1, h2, h3 with | [_], [_], [_], _, _, _ => ⟨_, _, _, _, _, _, rfl, rfl, rfl⟩
  obtain ⟨wH, kwH⟩ := kwH
  have kw2 := F_with_rules.kbinds0 (ps := ["self", "rounds", "hear"]) 1 ["rounds", "hear"] [] (fun vs mz zs => vs ++ zs) (by decide) (fun _ h => absurd h (by simp)) (fun a b c => a.append c) fun D doc pm an cdv ct us mv ws h1 h2 h3 => match us, mv, ws, h1, h2, h3 with | [_], [], [_, _], _, _, _ => rfl
  obtain ⟨_, kw2⟩ := kw2
  have F_bag := fun_mk (st := s_bag) l_bag c_bag k_bag
  have b_bag := F_bag.binds (ps := ["_law_script"]) fun _ _ _ _ _ _ us hl => match us, hl with | [_], _ => rfl
  have F_draw := fun_mk (st := s_draw) l_draw c_draw k_draw
  have b_draw := F_draw.binds (ps := ["_law_bag_here", "_law_limit"]) fun _ _ _ _ _ _ us hl => match us, hl with | [_, _], _ => rfl
  have F_number := fun_mk (st := s_number) l_number c_number k_number
  have b_number := F_number.binds (ps := ["_law_bag_here"]) fun _ _ _ _ _ _ us hl => match us, hl with | [_], _ => rfl
  have F_numbers := fun_mk (st := s_numbers) l_numbers c_numbers k_numbers
  have b_numbers := F_numbers.binds (ps := ["_law_bag_here", "_law_many"]) fun _ _ _ _ _ _ us hl => match us, hl with | [_, _], _ => rfl
  have F_loops := fun_mk (st := s_loops) l_loops c_loops k_loops
  have b_loops := F_loops.binds (ps := ["_law_bag_here"]) fun _ _ _ _ _ _ us hl => match us, hl with | [_], _ => rfl
  have F_rules := fun_mk (st := s_rules) l_rules c_rules k_rules
  have b_rules := F_rules.binds (ps := ["_law_bag_here"]) fun _ _ _ _ _ _ us hl => match us, hl with | [_], _ => rfl
  have F_told := fun_mk (st := s_told) l_told c_told k_told
  have b_told := F_told.binds (ps := ["_law_loops_here"]) fun _ _ _ _ _ _ us hl => match us, hl with | [_], _ => rfl
  have F_whole := fun_mk (st := s_whole) l_whole c_whole k_whole
  have b_whole := F_whole.binds (ps := ["_law_thing"]) fun _ _ _ _ _ _ us hl => match us, hl with | [_], _ => rfl
  have F_names := fun_mk (st := s_names) l_names c_names k_names
  have b_names := F_names.binds (ps := ["_law_loops_here"]) fun _ _ _ _ _ _ us hl => match us, hl with | [_], _ => rfl
  have F_number_of := fun_mk (st := s_number_of) l_number_of c_number_of k_number_of
  have b_number_of := F_number_of.binds (ps := ["_law_bag_here", "_law_loops_here"]) fun _ _ _ _ _ _ us hl => match us, hl with | [_, _], _ => rfl
  have F_change := fun_mk (st := s_change) l_change c_change k_change
  have b_change := F_change.binds (ps := ["_law_bag_here", "_law_loops_here"]) fun _ _ _ _ _ _ us hl => match us, hl with | [_, _], _ => rfl
  have F_wis_number := fun_mk (st := s_wis_number) l_wis_number c_wis_number k_wis_number
  have b_wis_number := F_wis_number.binds (ps := ["_law_thing"]) fun _ _ _ _ _ _ us hl => match us, hl with | [_], _ => rfl
  have F_with := fun_mk (st := s_with) l_with c_with k_with
  have b_with := F_with.binds (ps := ["_law_loops_here", "_law_number_here", "_law_box"]) fun _ _ _ _ _ _ us hl => match us, hl with | [_, _, _], _ => rfl
  have F_rules_due := fun_mk (st := s_rules_due) l_rules_due c_rules_due k_rules_due
  have b_rules_due := F_rules_due.binds (ps := ["_law_change_here", "_law_rules_here"]) fun _ _ _ _ _ _ us hl => match us, hl with | [_, _], _ => rfl
  have F_due := fun_mk (st := s_due) l_due c_due k_due
  have b_due := F_due.binds (ps := ["_law_change_here", "_law_loops_here", "_law_rules_here"]) fun _ _ _ _ _ _ us hl => match us, hl with | [_, _, _], _ => rfl
  have F_done := fun_mk (st := s_done) l_done c_done k_done
  have b_done := F_done.binds (ps := ["_law_town", "_law_change_here"]) fun _ _ _ _ _ _ us hl => match us, hl with | [_, _], _ => rfl
  have F_boxes_told := fun_mk (st := s_boxes_told) l_boxes_told c_boxes_told k_boxes_told
  have b_boxes_told := F_boxes_told.binds (ps := ["_law_town", "_law_loops_here"]) fun _ _ _ _ _ _ us hl => match us, hl with | [_, _], _ => rfl
  have F_is := fun_mk (st := s_is) l_is c_is k_is
  have b_is := F_is.binds (ps := ["_law_town", "_law_loops_here", "_law_rules_here"]) fun _ _ _ _ _ _ us hl => match us, hl with | [_, _, _], _ => rfl
  have F_law := fun_mk (st := s_law) l_law c_law k_law
  have b_law := F_law.binds (ps := ["_law_script"]) fun _ _ _ _ _ _ us hl => match us, hl with | [_], _ => rfl
  have lowL : PySem.LowL.LowTxt K mg eCL eIL :=
    { gC := PySem.W.mg_of X G e_aL, cls := ⟨enmL, eqL, eNL, ebsL, _, esnL, esubL, eabL, ecolL, eddL, em0L, em1L, em2L, em3L, em5L, e_xL, e_bL⟩, sa := e_sL, ga := e_gL, gg := e_hL, noN := e_nL, iC := e_iL, tC := e_tL, kC := e_kL, exC := e_eL, tyC := e_tyL, hdC := e_dL, te := PySem.W.exm_ref e_eL e_dL e_tyL e_scL,
      fn := ⟨_, _, _, _, _, _, _, _, _, _, _, _, _, _, e_lL, e_cL⟩ }
  have lowB : PySem.LowB.LowTxt K mg eCB eIB :=
    { gC := PySem.W.mg_of X G e_aB, cls := ⟨enmB, eqB, eNB, ebsB, _, esnB, esubB, eabB, ecolB, eddB, em0B, em1B, em2B, em3B, em5B, e_xB, e_bB⟩, sa := e_sB, ga := e_gB, gg := e_hB, noN := e_nB, iC := e_iB, tC := e_tB, kC := e_kB, exC := e_eB, tyC := e_tyB, hdC := e_dB, te := PySem.W.exm_ref e_eB e_dB e_tyB e_scB,
      fn := ⟨_, _, _, _, _, _, _, _, _, _, _, _, _, _, e_lB, e_cB⟩ }
  have lowT : PySem.LowT.LowTxt K mg eCT eIT :=
    { gC := PySem.W.mg_of X G e_aT, cls := ⟨enmT, eqT, eNT, ebsT, _, esnT, esubT, eabT, ecolT, eddT, em0T, em1T, em2T, em3T, em5T, e_xT, e_bT⟩, sa := e_sT, ga := e_gT, gg := e_hT, noN := e_nT, iC := e_iT, tC := e_tT, kC := e_kT, exC := e_eT, tyC := e_tyT, hdC := e_dT, te := PySem.W.exm_ref e_eT e_dT e_tyT e_scT,
      fn := ⟨_, _, _, _, _, _, _, _, _, _, _, _, _, _, e_lT, e_cT⟩ }
  have T : Σ' T : Txt K mg, T.a_law = fa ∧ T.d_law = PySem.W.fnOf "law" "law" (defArgs s_law) (defBody s_law) (defScope s_law) .none kV_law dc_law pm_law an_law cd_law ct_law :=
    ⟨{ C := xC, gC := PySem.W.mg_of X G axC, clC := ⟨pg, hd, po, sa⟩,
        isi := ⟨ica, icn, ict, icm⟩, kS := kS,
        mc := .type "type", rd := ⟨rd, ga⟩, uP := _, uS := _, vP := ⟨vP, ⟨_, rfl⟩⟩, vS := ⟨vS, ⟨_, rfl⟩⟩, nL := nL, nR := nR, nH := nH, nN := nN, kT := kT,
        CL := _, fL := _, lowL := lowL, CB := _, fB := _, lowB := lowB, CT := _, fT := _, lowT := lowT, xTB := PySem.W.exm_ref e_eB e_dB e_tyB x_TB,
        sfC := (by unfold PySem.W.notFirst; simp), sfT := (by unfold PySem.W.notFirst; rw [sT]; simp), aEq := a_eq, iEq := i_eq,
        ne := ⟨⟨_, _, _, _, _, _, _, _, _, _, _, _, _, _, _, ox, ns_ok ol on, oe, oz⟩, i_eq⟩,
        a_is_whole := _, d_is_whole := _, F_is_whole := F_is_whole, b_is_whole := b_is_whole, g_is_whole := PySem.W.mg_of X G a_is_whole,
        a_is_whole_within := _, d_is_whole_within := _, F_is_whole_within := F_is_whole_within, b_is_whole_within := b_is_whole_within, g_is_whole_within := PySem.W.mg_of X G a_is_whole_within,
        a_is_sequence := _, d_is_sequence := _, F_is_sequence := F_is_sequence, b_is_sequence := b_is_sequence, g_is_sequence := PySem.W.mg_of X G a_is_sequence,
        a_is_number := _, d_is_number := _, F_is_number := F_is_number, b_is_number := b_is_number, g_is_number := PySem.W.mg_of X G a_is_number,
        a_is_sort := _, d_is_sort := _, F_is_sort := F_is_sort, b_is_sort := b_is_sort, g_is_sort := PySem.W.mg_of X G a_is_sort,
        a_has_double := _, d_has_double := _, F_has_double := F_has_double, b_has_double := b_has_double, g_has_double := PySem.W.mg_of X G a_has_double,
        a_are_loops := _, d_are_loops := _, F_are_loops := F_are_loops, b_are_loops := b_are_loops, g_are_loops := PySem.W.mg_of X G a_are_loops,
        a_check_boxes := _, d_check_boxes := _, F_check_boxes := F_check_boxes, b_check_boxes := b_check_boxes, g_check_boxes := PySem.W.mg_of X G a_check_boxes,
        a_check_town := _, d_check_town := _, F_check_town := F_check_town, b_check_town := b_check_town, g_check_town := PySem.W.mg_of X G a_check_town,
        a_init := _, d_init := _, F_init := F_init, mk_init := ⟨mk, a_init, i_init, kc⟩, mv := mv, kb := kb, kb2 := kb2,
        a_site_of := _, d_site_of := _, F_site_of := F_site_of, b_site_of := b_site_of, m_site_of := ⟨a_site_of, i_site_of, k_site_of⟩,
        a_sort_of := _, d_sort_of := _, F_sort_of := F_sort_of, b_sort_of := b_sort_of, m_sort_of := ⟨a_sort_of, i_sort_of, k_sort_of⟩,
        a_loop_of := _, d_loop_of := _, F_loop_of := F_loop_of, b_loop_of := b_loop_of, m_loop_of := ⟨a_loop_of, i_loop_of, k_loop_of⟩,
        a_place_of := _, d_place_of := _, F_place_of := F_place_of, b_place_of := b_place_of, m_place_of := ⟨a_place_of, i_place_of, k_place_of⟩,
        a_wire := _, d_wire := _, F_wire := F_wire, b_wire := b_wire, m_wire := ⟨a_wire, i_wire, k_wire⟩, dw := _, r_wire := r_wire, b0_wire := b0_wire, k_wire := q_wire,
        a_eq := _, d_eq := _, F_eq := F_eq, b_eq := b_eq, m_eq := ⟨a_eq, i_eq, k_eq⟩,
        a_with_box := _, d_with_box := _, F_with_box := F_with_box, b_with_box := b_with_box, m_with_box := ⟨a_with_box, i_with_box, k_with_box⟩,
        a_with_sort := _, d_with_sort := _, F_with_sort := F_with_sort, b_with_sort := b_with_sort, m_with_sort := ⟨a_with_sort, i_with_sort, k_with_sort⟩,
        a_with_number := _, d_with_number := _, F_with_number := F_with_number, b_with_number := b_with_number, m_with_number := ⟨a_with_number, i_with_number, k_with_number⟩,
        a_with_rules := _, d_with_rules := _, F_with_rules := F_with_rules, m_with_rules := ⟨a_with_rules, i_with_rules, k_with_rules⟩, w0 := w0, kw0 := kw0, wR := wR, kwR := kwR, wH := wH, kwH := kwH, kw2 := kw2,
        a_bag := _, d_bag := _, F_bag := F_bag, b_bag := b_bag, g_bag := PySem.W.mg_of X G a_bag,
        a_draw := _, d_draw := _, F_draw := F_draw, b_draw := b_draw, g_draw := PySem.W.mg_of X G a_draw,
        a_number := _, d_number := _, F_number := F_number, b_number := b_number, g_number := PySem.W.mg_of X G a_number,
        a_numbers := _, d_numbers := _, F_numbers := F_numbers, b_numbers := b_numbers, g_numbers := PySem.W.mg_of X G a_numbers,
        a_loops := _, d_loops := _, F_loops := F_loops, b_loops := b_loops, g_loops := PySem.W.mg_of X G a_loops,
        a_rules := _, d_rules := _, F_rules := F_rules, b_rules := b_rules, g_rules := PySem.W.mg_of X G a_rules,
        a_told := _, d_told := _, F_told := F_told, b_told := b_told, g_told := PySem.W.mg_of X G a_told,
        a_whole := _, d_whole := _, F_whole := F_whole, b_whole := b_whole, g_whole := PySem.W.mg_of X G a_whole,
        a_names := _, d_names := _, F_names := F_names, b_names := b_names, g_names := PySem.W.mg_of X G a_names,
        a_number_of := _, d_number_of := _, F_number_of := F_number_of, b_number_of := b_number_of, g_number_of := PySem.W.mg_of X G a_number_of,
        a_change := _, d_change := _, F_change := F_change, b_change := b_change, g_change := PySem.W.mg_of X G a_change,
        a_wis_number := _, d_wis_number := _, F_wis_number := F_wis_number, b_wis_number := b_wis_number, g_wis_number := PySem.W.mg_of X G a_wis_number,
        a_with := _, d_with := _, F_with := F_with, b_with := b_with, g_with := PySem.W.mg_of X G a_with,
        a_rules_due := _, d_rules_due := _, F_rules_due := F_rules_due, b_rules_due := b_rules_due, g_rules_due := PySem.W.mg_of X G a_rules_due,
        a_due := _, d_due := _, F_due := F_due, b_due := b_due, g_due := PySem.W.mg_of X G a_due,
        a_done := _, d_done := _, F_done := F_done, b_done := b_done, g_done := PySem.W.mg_of X G a_done,
        a_boxes_told := _, d_boxes_told := _, F_boxes_told := F_boxes_told, b_boxes_told := b_boxes_told, g_boxes_told := PySem.W.mg_of X G a_boxes_told,
        a_is := _, d_is := _, F_is := F_is, b_is := b_is, g_is := PySem.W.mg_of X G a_is,
        a_law := _, d_law := _, F_law := F_law, b_law := b_law, g_law := PySem.W.mg_of X G a_law,
        t_DIGITS := _, c_DIGITS := PySem.W.mg_of X G n_DIGITS,
        t_MOST_DIGITS := _, c_MOST_DIGITS := PySem.W.mg_of X G n_MOST_DIGITS,
        t_GREATEST_SUM := _, c_GREATEST_SUM := PySem.W.mg_of X G n_GREATEST_SUM,
        t_MOST_LOOPS := _, c_MOST_LOOPS := PySem.W.mg_of X G n_MOST_LOOPS,
        t_MOST_BOXES := _, c_MOST_BOXES := PySem.W.mg_of X G n_MOST_BOXES,
        t_MOST_ROUNDS := _, c_MOST_ROUNDS := PySem.W.mg_of X G n_MOST_ROUNDS,
        z_all := PySem.W.mg_none_of X G z_all,
        z_bool := PySem.W.mg_none_of X G z_bool,
        z_enumerate := PySem.W.mg_none_of X G z_enumerate,
        z_int := PySem.W.mg_none_of X G z_int,
        z_isinstance := PySem.W.mg_none_of X G z_isinstance,
        z_len := PySem.W.mg_none_of X G z_len,
        z_list := PySem.W.mg_none_of X G z_list,
        z_min := PySem.W.mg_none_of X G z_min,
        z_range := PySem.W.mg_none_of X G z_range,
        z_repr := PySem.W.mg_none_of X G z_repr,
        z_set := PySem.W.mg_none_of X G z_set,
        z_str := PySem.W.mg_none_of X G z_str,
        z_sum := PySem.W.mg_none_of X G z_sum,
        z_tuple := PySem.W.mg_none_of X G z_tuple }, rfl, rfl⟩
  obtain ⟨T, e1, e2⟩ := T
  subst e1
  refine ⟨T.d_law, fun s v => by rw [e2]; exact .of_eq rfl, fun base _ _ => ok_law T⟩
theorem walk {l : PySem.W.OpenLaw} {q : Program} {loose : List Str} {XP : (Str → Option Value) → Heap → Prop} {YP : World → Heap → Prop} {d : DefRec} {K : Params → PySem.W.Frag} (hn : l.most = some 63) (hdf : d.params.defaults = [])
    (hY : ∀ (w : World) (h : Heap), YP w h → (K w.params).In h)
    (F : ∀ (w : World) (mg : Str → Option Value) (fa : Addr) (h : Heap), (K w.params).In h → h.Ns mainGlobals mg → mg d.name = some (.ref fa) →
      ∃ fd : FuncData, (∀ (s : Shared) (u : Value), BindsTo s fd ⟨[u], []⟩ [("_law_script", u)]) ∧ ∀ base : Heap, (K w.params).In base → base.Ns mainGlobals mg → Rp.GOk l.prog w (K w.params) mg base CX0 11 fa fd ["_law_script"] (sp_law (K w.params))) :
    PySem.W.WalkO q loose XP YP l.row.toRowW d [] (fun f vs => PySem.call f vs) :=
  Rp.walk_gof (n := 63) (k := 11) (x := "_law_script") (CX := fun _ => CX0) (sp := fun w => sp_law (K w.params)) hn (by decide) hdf ⟨rfl, by decide, by decide⟩ hY F (fun w H a ns hl _ hS => ⟨a, ns, rfl, hS, hl, fun _ => rfl⟩) fun _ _ _ _ _ z => z
end K08

open PySem PySem.W PyProof.Rows in
set_option maxRecDepth 100000 in
set_option maxHeartbeats 0 in
theorem PySem.Challenge.cw_wheelchorus_k08_towns_changed_holds : PySem.Challenge.rw_wheelchorus_k08_towns_changed.Holds := by
  w_on; o_law; k_head; (case hw => w_witness2)
  k_fill
  refine K08.walk (l := PySem.Challenge.rw_wheelchorus_k08_towns_changed) rfl rfl (fun w h Y => PySem.W.kIn_of Y) ?F
  case F =>
    intro w mg fa h KX G hmg
    refine' K08.all_mk KX G hmg ?axC ?a_is_whole ?l_is_whole ?c_is_whole ?k_is_whole ?a_is_whole_within ?l_is_whole_within ?c_is_whole_within ?k_is_whole_within ?a_is_sequence ?l_is_sequence ?c_is_sequence ?k_is_sequence ?a_is_number ?l_is_number ?c_is_number ?k_is_number ?a_is_sort ?l_is_sort ?c_is_sort ?k_is_sort ?a_has_double ?l_has_double ?c_has_double ?k_has_double ?a_are_loops ?l_are_loops ?c_are_loops ?k_are_loops ?a_check_boxes ?l_check_boxes ?c_check_boxes ?k_check_boxes ?a_check_town ?l_check_town ?c_check_town ?k_check_town ?a_init ?i_init ?l_init ?c_init ?k_init ?e_init ?a_site_of ?i_site_of ?l_site_of ?c_site_of ?k_site_of ?a_sort_of ?i_sort_of ?l_sort_of ?c_sort_of ?k_sort_of ?a_loop_of ?i_loop_of ?l_loop_of ?c_loop_of ?k_loop_of ?a_place_of ?i_place_of ?l_place_of ?c_place_of ?k_place_of ?a_wire ?i_wire ?l_wire ?c_wire ?k_wire ?e_wire ?a_eq ?i_eq ?l_eq ?c_eq ?k_eq ?a_with_box ?i_with_box ?l_with_box ?c_with_box ?k_with_box ?a_with_sort ?i_with_sort ?l_with_sort ?c_with_sort ?k_with_sort ?a_with_number ?i_with_number ?l_with_number ?c_with_number ?k_with_number ?a_with_rules ?i_with_rules ?l_with_rules ?c_with_rules ?k_with_rules ?e_wr ?e_wr2 ?a_bag ?l_bag ?c_bag ?k_bag ?a_draw ?l_draw ?c_draw ?k_draw ?a_number ?l_number ?c_number ?k_number ?a_numbers ?l_numbers ?c_numbers ?k_numbers ?a_loops ?l_loops ?c_loops ?k_loops ?a_rules ?l_rules ?c_rules ?k_rules ?a_told ?l_told ?c_told ?k_told ?a_whole ?l_whole ?c_whole ?k_whole ?a_names ?l_names ?c_names ?k_names ?a_number_of ?l_number_of ?c_number_of ?k_number_of ?a_change ?l_change ?c_change ?k_change ?a_wis_number ?l_wis_number ?c_wis_number ?k_wis_number ?a_with ?l_with ?c_with ?k_with ?a_rules_due ?l_rules_due ?c_rules_due ?k_rules_due ?a_due ?l_due ?c_due ?k_due ?a_done ?l_done ?c_done ?k_done ?a_boxes_told ?l_boxes_told ?c_boxes_told ?k_boxes_told ?a_is ?l_is ?c_is ?k_is ?a_law ?l_law ?c_law ?k_law ?pg ?hd ?po ?sa ?mk ?kc ?nL ?nR ?nH ?nN ?ica ?icn ?ict ?icm ?kS ?rd ?ga ?kT ?sT ?vP ?vS ?ox ?ol ?on ?oe ?oz ?e_aL ?e_xL ?e_bL ?e_sL ?e_gL ?e_hL ?e_nL ?e_iL ?e_tL ?e_lL ?e_cL ?e_kL ?e_eL ?e_tyL ?e_dL ?e_scL ?e_aB ?e_xB ?e_bB ?e_sB ?e_gB ?e_hB ?e_nB ?e_iB ?e_tB ?e_lB ?e_cB ?e_kB ?e_eB ?e_tyB ?e_dB ?e_scB ?e_aT ?e_xT ?e_bT ?e_sT ?e_gT ?e_hT ?e_nT ?e_iT ?e_tT ?e_lT ?e_cT ?e_kT ?e_eT ?e_tyT ?e_dT ?e_scT ?x_TB ?n_DIGITS ?n_MOST_DIGITS ?n_GREATEST_SUM ?n_MOST_LOOPS ?n_MOST_BOXES ?n_MOST_ROUNDS ?z_all ?z_bool ?z_enumerate ?z_int ?z_isinstance ?z_len ?z_list ?z_min ?z_range ?z_repr ?z_set ?z_str ?z_sum ?z_tuple
    (case axC => k_is)
    (case a_is_whole => k_is)
    (case l_is_whole => k_is)
    (case c_is_whole => k_is)
    (case k_is_whole => k_is)
    (case a_is_whole_within => k_is)
    (case l_is_whole_within => k_is)
    (case c_is_whole_within => k_is)
    (case k_is_whole_within => k_is)
    (case a_is_sequence => k_is)
    (case l_is_sequence => k_is)
    (case c_is_sequence => k_is)
    (case k_is_sequence => k_is)
    (case a_is_number => k_is)
    (case l_is_number => k_is)
    (case c_is_number => k_is)
    (case k_is_number => k_is)
    (case a_is_sort => k_is)
    (case l_is_sort => k_is)
    (case c_is_sort => k_is)
    (case k_is_sort => k_is)
    (case a_has_double => k_is)
    (case l_has_double => k_is)
    (case c_has_double => k_is)
    (case k_has_double => k_is)
    (case a_are_loops => k_is)
    (case l_are_loops => k_is)
    (case c_are_loops => k_is)
    (case k_are_loops => k_is)
    (case a_check_boxes => k_is)
    (case l_check_boxes => k_is)
    (case c_check_boxes => k_is)
    (case k_check_boxes => k_is)
    (case a_check_town => k_is)
    (case l_check_town => k_is)
    (case c_check_town => k_is)
    (case k_check_town => k_is)
    (case a_init => k_is)
    (case i_init => k_is)
    (case l_init => k_is)
    (case c_init => k_is)
    (case k_init => k_is)
    (case e_init => k_is)
    (case a_site_of => k_is)
    (case i_site_of => k_is)
    (case l_site_of => k_is)
    (case c_site_of => k_is)
    (case k_site_of => k_is)
    (case a_sort_of => k_is)
    (case i_sort_of => k_is)
    (case l_sort_of => k_is)
    (case c_sort_of => k_is)
    (case k_sort_of => k_is)
    (case a_loop_of => k_is)
    (case i_loop_of => k_is)
    (case l_loop_of => k_is)
    (case c_loop_of => k_is)
    (case k_loop_of => k_is)
    (case a_place_of => k_is)
    (case i_place_of => k_is)
    (case l_place_of => k_is)
    (case c_place_of => k_is)
    (case k_place_of => k_is)
    (case a_wire => k_is)
    (case i_wire => k_is)
    (case l_wire => k_is)
    (case c_wire => k_is)
    (case k_wire => k_is)
    (case e_wire => k_is)
    (case a_eq => k_is)
    (case i_eq => k_is)
    (case l_eq => k_is)
    (case c_eq => k_is)
    (case k_eq => k_is)
    (case a_with_box => k_is)
    (case i_with_box => k_is)
    (case l_with_box => k_is)
    (case c_with_box => k_is)
    (case k_with_box => k_is)
    (case a_with_sort => k_is)
    (case i_with_sort => k_is)
    (case l_with_sort => k_is)
    (case c_with_sort => k_is)
    (case k_with_sort => k_is)
    (case a_with_number => k_is)
    (case i_with_number => k_is)
    (case l_with_number => k_is)
    (case c_with_number => k_is)
    (case k_with_number => k_is)
    (case a_with_rules => k_is)
    (case i_with_rules => k_is)
    (case l_with_rules => k_is)
    (case c_with_rules => k_is)
    (case k_with_rules => k_is)
    (case e_wr => k_is)
    (case e_wr2 => k_is)
    (case a_bag => k_is)
    (case l_bag => k_is)
    (case c_bag => k_is)
    (case k_bag => k_is)
    (case a_draw => k_is)
    (case l_draw => k_is)
    (case c_draw => k_is)
    (case k_draw => k_is)
    (case a_number => k_is)
    (case l_number => k_is)
    (case c_number => k_is)
    (case k_number => k_is)
    (case a_numbers => k_is)
    (case l_numbers => k_is)
    (case c_numbers => k_is)
    (case k_numbers => k_is)
    (case a_loops => k_is)
    (case l_loops => k_is)
    (case c_loops => k_is)
    (case k_loops => k_is)
    (case a_rules => k_is)
    (case l_rules => k_is)
    (case c_rules => k_is)
    (case k_rules => k_is)
    (case a_told => k_is)
    (case l_told => k_is)
    (case c_told => k_is)
    (case k_told => k_is)
    (case a_whole => k_is)
    (case l_whole => k_is)
    (case c_whole => k_is)
    (case k_whole => k_is)
    (case a_names => k_is)
    (case l_names => k_is)
    (case c_names => k_is)
    (case k_names => k_is)
    (case a_number_of => k_is)
    (case l_number_of => k_is)
    (case c_number_of => k_is)
    (case k_number_of => k_is)
    (case a_change => k_is)
    (case l_change => k_is)
    (case c_change => k_is)
    (case k_change => k_is)
    (case a_wis_number => k_is)
    (case l_wis_number => k_is)
    (case c_wis_number => k_is)
    (case k_wis_number => k_is)
    (case a_with => k_is)
    (case l_with => k_is)
    (case c_with => k_is)
    (case k_with => k_is)
    (case a_rules_due => k_is)
    (case l_rules_due => k_is)
    (case c_rules_due => k_is)
    (case k_rules_due => k_is)
    (case a_due => k_is)
    (case l_due => k_is)
    (case c_due => k_is)
    (case k_due => k_is)
    (case a_done => k_is)
    (case l_done => k_is)
    (case c_done => k_is)
    (case k_done => k_is)
    (case a_boxes_told => k_is)
    (case l_boxes_told => k_is)
    (case c_boxes_told => k_is)
    (case k_boxes_told => k_is)
    (case a_is => k_is)
    (case l_is => k_is)
    (case c_is => k_is)
    (case k_is => k_is)
    (case a_law => k_is)
    (case l_law => k_is)
    (case c_law => k_is)
    (case k_law => k_is)
    (case pg => k_is)
    (case hd => k_is)
    (case po => k_is)
    (case sa => k_is)
    (case mk => k_is)
    (case kc => k_is)
    (case nL => k_is)
    (case nR => k_is)
    (case nH => k_is)
    (case nN => k_is)
    (case ica => k_is)
    (case icn => k_is)
    (case ict => k_is)
    (case icm => k_is)
    (case kS => first | k_is | kit_is | (decide +kernel))
    (case rd => k_is)
    (case ga => k_is)
    (case kT => first | k_is | kit_is | (decide +kernel))
    (case sT => k_is)
    (case vP => k_is)
    (case vS => k_is)
    (case ox => k_is)
    (case ol => k_is)
    (case on => first | rfl | (decide +kernel) | simp)
    (case oe => k_is)
    (case oz => k_is)
    (case e_aL => k_is)
    (case e_xL => k_is)
    (case e_bL => decide +kernel)
    (case e_sL => k_is)
    (case e_gL => k_is)
    (case e_hL => k_is)
    (case e_nL => k_is)
    (case e_iL => k_is)
    (case e_tL => k_is)
    (case e_lL => k_is)
    (case e_cL => k_is)
    (case e_kL => k_is)
    (case e_eL => k_is)
    (case e_tyL => k_is)
    (case e_dL => k_is)
    (case e_scL => first | rfl | k_is)
    (case e_aB => k_is)
    (case e_xB => k_is)
    (case e_bB => decide +kernel)
    (case e_sB => k_is)
    (case e_gB => k_is)
    (case e_hB => k_is)
    (case e_nB => k_is)
    (case e_iB => k_is)
    (case e_tB => k_is)
    (case e_lB => k_is)
    (case e_cB => k_is)
    (case e_kB => k_is)
    (case e_eB => k_is)
    (case e_tyB => k_is)
    (case e_dB => k_is)
    (case e_scB => first | rfl | k_is)
    (case e_aT => k_is)
    (case e_xT => k_is)
    (case e_bT => decide +kernel)
    (case e_sT => k_is)
    (case e_gT => k_is)
    (case e_hT => k_is)
    (case e_nT => k_is)
    (case e_iT => k_is)
    (case e_tT => k_is)
    (case e_lT => k_is)
    (case e_cT => k_is)
    (case e_kT => k_is)
    (case e_eT => k_is)
    (case e_tyT => k_is)
    (case e_dT => k_is)
    (case e_scT => first | rfl | k_is)
    (case x_TB => k_is)
    (case n_DIGITS => k_is)
    (case n_MOST_DIGITS => k_is)
    (case n_GREATEST_SUM => k_is)
    (case n_MOST_LOOPS => k_is)
    (case n_MOST_BOXES => k_is)
    (case n_MOST_ROUNDS => k_is)
    (case z_all => k_is)
    (case z_bool => k_is)
    (case z_enumerate => k_is)
    (case z_int => k_is)
    (case z_isinstance => k_is)
    (case z_len => k_is)
    (case z_list => k_is)
    (case z_min => k_is)
    (case z_range => k_is)
    (case z_repr => k_is)
    (case z_set => k_is)
    (case z_str => k_is)
    (case z_sum => k_is)
    (case z_tuple => k_is)
